import PyProof.Rows.All
import Wide.All
import OpenK.AllK
import Wide.FinOn
import HandS.ForMost
import HandS.Conv
import HandS.Codes
import HandS.Deep
import HandS.Sort
import HandS.Wide
import HandS.IsInst
import HandS.Walk
import HandS.Style
import HandS.Steps
import HandS.SortRule
import KE.KDictPairs
import PyProof.ListStr
import HandS.FStr
import HandS.TupAny
import HandS.TupLe
import HandS.TupMul
import HandS.Flow
import HandS.Exc
import HandS.ExcOwn
import HandS.TryOnly
import HandS.TryMany
import HandS.WordsExc
import HandS.RaiseMore
import KE.SortData
import HandS.ExcIs
import PyProof.StrLawsRepr
import KE.GoesEnum
import KE.GoesMore
import HandS.Zip
import HandS.RevRange
import HandS.Set
import HandS.SetFor
import HandS.Dict
import KE.KRevSl
import KE.KTupSum
import PyProof.ReprLen
import PyProof.FitsInt
import PySem.Challenge.RW_officepapers_k25_papers_for_first_conten
set_option Elab.async false
set_option linter.all false
set_option maxRecDepth 100000
set_option maxHeartbeats 4000000
namespace J
open PySem PySem.Spec PyProof.Rows L2

/-- the law's hand: five places, a list and four ints -/
def handSh : HO → Bool
  | .lst [.ref _, .int _, .int _, .int _, .int _] => true
  | _ => false
def Ex (H H' : Hp) : Prop := ∀ a o, H a = some o → H' a = some o
structure Xb (H H' : Hp) : Prop where
  keep : ∀ a o, H a = some o → handSh o = false → H' a = some o
  free : ∀ a, H' a = none → H a = none
instance {H H' : Hp} : CoeFun (Xb H H') (fun _ => ∀ a o, H a = some o → handSh o = false → H' a = some o) := ⟨Xb.keep⟩
theorem Ex.refl (H : Hp) : Ex H H := fun _ _ h => h
theorem Ex.trans {H H1 H2 : Hp} (a : Ex H H1) (b : Ex H1 H2) : Ex H H2 := fun x o h => b x o (a x o h)
theorem fresh_back {H H' : Hp} {p : Addr} (e : Ex H H') (h : H' p = none) : H p = none := by
  cases h1 : H p with
  | none => rfl
  | some o =>
    rw [e p o h1] at h
    cases h
theorem Ex.b {H H' : Hp} (e : Ex H H') : Xb H H' := ⟨fun a o h _ => e a o h, fun _ n => fresh_back e n⟩
theorem Ex.sqL {H H' : Hp} (e : Ex H H') {K : PySem.W.Frag} {a : Addr} {xs : List V} (h : SqL K H a xs) : SqL K H' a xs := by
  rcases h with (h | ⟨o, h⟩) | h
  · exact .inl (.inl (e _ _ h))
  · exact .inl (.inr ⟨o, e _ _ h⟩)
  · exact .inr h
theorem Xb.refl (H : Hp) : Xb H H := ⟨fun _ _ h _ => h, fun _ n => n⟩
theorem Xb.trans {H H1 H2 : Hp} (a : Xb H H1) (b : Xb H1 H2) : Xb H H2 := ⟨fun x o h n => b x o (a x o h n) n, fun x n => a.free x (b.free x n)⟩
theorem Ex.new {H : Hp} {p : Addr} {o : HO} (h : H p = none) : Ex H (upd H p o) := fun a u e => by
  rw [upd_ne (ne_of_none e h)]
  exact e
theorem Ex.mut {H H' : Hp} {p : Addr} {o : HO} (e : Ex H H') (h : H p = none) : Ex H (upd H' p o) := fun a u ha => by
  rw [upd_ne (ne_of_none ha h)]
  exact e a u ha
theorem upd_free {H : Hp} {p a : Addr} {o : HO} (h : upd H p o a = none) : H a = none ∧ a ≠ p := by
  by_cases z : a = p
  · subst z; rw [upd_same] at h; cases h
  · rw [upd_ne z] at h; exact ⟨h, z⟩
theorem Xb.mut {H H' : Hp} {p : Addr} {o : HO} (e : Xb H H') (h : H p = none) : Xb H (upd H' p o) := ⟨fun a u ha n => by
  rw [upd_ne (ne_of_none ha h)]
  exact e a u ha n, fun a n => e.free a (upd_free n).1⟩
theorem Xb.tup {H H' : Hp} (e : Xb H H') {K : PySem.W.Frag} {a : Addr} {xs : List V} (h : SqT K H a xs) : SqT K H' a xs := by
  rcases h with (h | ⟨o, h⟩) | h
  · exact .inl (.inl (e _ _ h rfl))
  · exact .inl (.inr ⟨o, e _ _ h rfl⟩)
  · exact .inr h

mutual
inductive Rp (K : PySem.W.Frag) (H : Hp) : V → PyData → Prop
  | non : Rp K H .non .none
  | bl (b : Bool) : Rp K H (.bl b) (.bool b)
  | int (i : Int) : Rp K H (.int i) (.int i)
  | str (x : Str) : Rp K H (.str x) (.str x)
  | tup {a : Addr} {xs : List V} {ds : List PyData} : SqT K H a xs → RpAll K H xs ds → Rp K H (.ref a) (.tuple ds)
  | lst {a : Addr} {xs : List V} {ds : List PyData} : H a = some (.lst xs) → handSh (.lst xs) = false → RpAll K H xs ds → Rp K H (.ref a) (.list ds)
  | dct {a : Addr} : H a = some (.dK []) → Rp K H (.ref a) (.dict [])
inductive RpAll (K : PySem.W.Frag) (H : Hp) : List V → List PyData → Prop
  | nil : RpAll K H [] []
  | cons {v : V} {vs : List V} {d : PyData} {ds : List PyData} : Rp K H v d → RpAll K H vs ds → RpAll K H (v :: vs) (d :: ds)
end
section
variable {K : PySem.W.Frag} {H H' : Hp}
mutual
theorem Rp.mono (e : Xb H H') : ∀ {v : V} {d : PyData}, Rp K H v d → Rp K H' v d
  | _, _, .non => .non
  | _, _, .bl b => .bl b
  | _, _, .int i => .int i
  | _, _, .str x => .str x
  | _, _, .tup h r => .tup (e.tup h) (RpAll.mono e r)
  | _, _, .lst h n r => .lst (e _ _ h n) n (RpAll.mono e r)
  | _, _, .dct h => .dct (e _ _ h rfl)
theorem RpAll.mono (e : Xb H H') : ∀ {vs : List V} {ds : List PyData}, RpAll K H vs ds → RpAll K H' vs ds
  | _, _, .nil => .nil
  | _, _, .cons h r => .cons (Rp.mono e h) (RpAll.mono e r)
end
theorem RpAll.len : ∀ {vs : List V} {ds : List PyData}, RpAll K H vs ds → vs.length = ds.length
  | _, _, .nil => rfl
  | _, _, .cons _ r => congrArg Nat.succ (RpAll.len r)
theorem RpAll.at : ∀ {vs : List V} {ds : List PyData} {i : Nat} {v : V}, RpAll K H vs ds → vs[i]? = some v → ∃ d, ds[i]? = some d ∧ Rp K H v d
  | _, _, _, _, .nil, h => by simp at h
  | _, _, 0, _, .cons h _, e => ⟨_, rfl, by cases e; exact h⟩
  | _, _, i + 1, _, .cons _ r, e => RpAll.at (i := i) r e
theorem RpAll.at' : ∀ {vs : List V} {ds : List PyData} {i : Nat} {d : PyData}, RpAll K H vs ds → ds[i]? = some d → ∃ v, vs[i]? = some v ∧ Rp K H v d
  | _, _, _, _, .nil, h => by simp at h
  | _, _, 0, _, .cons h _, e => ⟨_, rfl, by cases e; exact h⟩
  | _, _, i + 1, _, .cons _ r, e => RpAll.at' (i := i) r e
theorem RpAll.app : ∀ {vs ws : List V} {ds es : List PyData}, RpAll K H vs ds → RpAll K H ws es → RpAll K H (vs ++ ws) (ds ++ es)
  | _, _, _, _, .nil, r => r
  | _, _, _, _, .cons h t, r => .cons h (RpAll.app t r)
theorem RpAll.take : ∀ {vs : List V} {ds : List PyData} (n : Nat), RpAll K H vs ds → RpAll K H (vs.take n) (ds.take n)
  | _, _, 0, _ => by simp; exact .nil
  | _, _, n + 1, .nil => .nil
  | _, _, n + 1, .cons h t => .cons h (RpAll.take n t)
theorem RpAll.drop : ∀ {vs : List V} {ds : List PyData} (n : Nat), RpAll K H vs ds → RpAll K H (vs.drop n) (ds.drop n)
  | _, _, 0, r => r
  | _, _, n + 1, .nil => .nil
  | _, _, n + 1, .cons _ t => RpAll.drop n t
theorem RpAll.ints (ns : List Int) : RpAll K H (ns.map V.int) (ns.map PyData.int) := by
  induction ns with
  | nil => exact .nil
  | cons n r ih => exact .cons (.int n) ih
mutual
theorem Rp.dp : ∀ {v : V} {d : PyData}, Rp K H v d → (∀ l, d ≠ .dict l) → PyData.canLay0 d = true → Dp K H v d
  | _, _, .non, _, _ => .non
  | _, _, .bl b, _, _ => .bl b
  | _, _, .int i, _, _ => .int i
  | _, _, .str x, _, _ => .str x
  | _, _, .tup h r, _, c => .tup h (RpAll.dp r (by simpa [PyData.canLay0] using c))
  | _, _, .lst h _ r, _, c => .lst (.inl (.inl h)) (RpAll.dp r (by simpa [PyData.canLay0] using c))
  | _, _, .dct _, n, _ => absurd rfl (n _)
theorem RpAll.dp : ∀ {vs : List V} {ds : List PyData}, RpAll K H vs ds → PyData.canLayAll0 ds = true → DpAll K H vs ds
  | _, _, .nil, _ => .nil
  | _, _, .cons h r, c => by
    have c2 := c
    simp only [PyData.canLayAll0, Bool.and_eq_true] at c2
    exact .cons (Rp.dp h (fun l e => by subst e; simp [PyData.canLay0] at c2) c2.1) (RpAll.dp r c2.2)
end
end

/-- a new object of so many parts -/
def NewB (f : List V → HO) (xs : List V) (H : Hp) (Q : VK) : Prop := xs.length ≤ sizeLine ∧ ∀ p, H p = none → Q (.ref p) (upd H p (f xs))
section
variable {K : PySem.W.Frag} {σ : L2.St} {H : Hp} {i j : Int} {n : Nat} {v x y : V} {Q : VK} {D : Ends} {ta tb tc te : TE} {t u c : TT} {tu tw : TS} {r r' : R2} {tr tk : TA} {QA : List V → Hp → Prop} {QB : Bool → Hp → Prop} {A B : Prop} {b : Bool} {p : Prop}
theorem w_seq (h : tu { D with nx := tw D } σ H) : tSeq tu tw D σ H := h
theorem w_next (h : D.nx σ H) : tNext D σ H := h
theorem w_brk (h : D.bk σ H) : tBreak D σ H := h
theorem w_cont (h : D.ct σ H) : tCont D σ H := h
theorem w_asg (h : te σ H fun v H1 => D.nx (σ.set n (some v)) H1) : tAsg te (gName n) D σ H := h
theorem w_asgG {g : TG} (h : te σ H fun v H1 => g v σ H1 D.nx) : tAsg te g D σ H := h
theorem w_gSub {s : TSet} {q : L2.St → Hp → Prop} (h : ta σ H fun o H1 => tb σ H1 fun i H2 => s o i v H2 fun H3 => q σ H3) : gSub ta tb s v σ H q := h
theorem w_ret (h : te σ H D.rt) : tRet te D σ H := h
theorem w_retN (h : D.rt .non H) : tRetN D σ H := h
theorem w_drop (h : te σ H fun _ H1 => D.nx σ H1) : tDrop te D σ H := h
theorem w_ifS (h : c σ H fun b H1 => if b = true then tu D σ H1 else tw D σ H1) : tIfS c tu tw D σ H := h
theorem w_aug {ti : TIp} (h0 : σ[n]? = some (some x)) (h : te σ H fun y H1 => ti x y H1 fun z H2 => D.nx (σ.set n (some z)) H2) : tAug n te ti D σ H := ⟨x, h0, h⟩
theorem w_ipadd {k : VK} (q : k (.int (i + j)) H) : ipI (fun i j => i + j) (.int i) (.int j) H k := ⟨i, j, rfl, rfl, q⟩
theorem w_ipsub {k : VK} (q : k (.int (i - j)) H) : ipI (fun i j => i - j) (.int i) (.int j) H k := ⟨i, j, rfl, rfl, q⟩
theorem w_isVar (h : tVar n σ H Q) : tVar n σ H Q := h
theorem w_isAug {ti : TIp} (h : tAug n te ti D σ H) : tAug n te ti D σ H := h
theorem w_var (h : σ[n]? = some (some v)) (q : Q v H) : tVar n σ H Q := ⟨v, h, q⟩
theorem w_c (q : Q v H) : tC v σ H Q := q
theorem w_nil (q : QA [] H) : tNil σ H QA := q
theorem w_cons (h : ta σ H fun x H1 => tr σ H1 fun xs H2 => QA (x :: xs) H2) : tCons ta tr σ H QA := h
theorem w_op (h : ta σ H fun x H1 => tb σ H1 fun y H2 => r x y H2 Q) : tOp r ta tb σ H Q := h
theorem w_un {f : V → Hp → VK → Prop} (h : ta σ H fun x H1 => f x H1 Q) : tUn f ta σ H Q := h
theorem w_cb {f : List V → Hp → VK → Prop} (h : tr σ H fun vs H1 => f vs H1 Q) : tCB f tr σ H Q := h
theorem w_call {sp : Sp} {E : XK} (h : tr σ H fun vs H1 => sp (vs ++ []) H1 Q E) : tCall sp [] E tr σ H Q := h
theorem w_callK {sp : Sp} {g : List V → List V → List V} {E : XK} (h : tr σ H fun vs H1 => tk σ H1 fun zs H2 => sp (g vs zs) H2 Q E) : tCallK sp g E tr tk σ H Q := h
theorem w_test (h : te σ H fun x H' => ∃ k, x = .bl k ∧ QB k H') : tTest te σ H QB := h
theorem w_tB (h : te σ H fun x H' => ∃ k, x = .bl k ∧ QB k H') : tB te σ H QB := h
theorem w_and (h : t σ H fun c H1 => if c = true then u σ H1 QB else QB false H1) : tAnd t u σ H QB := h
theorem w_or (h : t σ H fun c H1 => if c = true then QB true H1 else u σ H1 QB) : tOr t u σ H QB := h
theorem w_not (h : t σ H fun c H1 => QB (!c) H1) : tNot t σ H QB := h
theorem w_andV (h : ta σ H fun x H1 => ∃ c, x = .bl c ∧ if c = true then tb σ H1 Q else Q (.bl false) H1) : tAndV ta tb σ H Q := h
theorem w_orV (h : ta σ H fun x H1 => ∃ c, x = .bl c ∧ if c = true then Q (.bl true) H1 else tb σ H1 Q) : tOrV ta tb σ H Q := h
theorem w_notV (h : ta σ H fun x H1 => ∃ c, x = .bl c ∧ Q (.bl (!c)) H1) : tNotV ta σ H Q := h
theorem w_if (h : t σ H fun c H1 => if c = true then ta σ H1 Q else tb σ H1 Q) : tIf t ta tb σ H Q := h
theorem w_chain (h : ta σ H fun x H1 => tb σ H1 fun y H2 => r x y H2 fun z H3 => ∃ k, z = .bl k ∧ (if k = true then tc σ H3 fun w' H4 => r' y w' H4 Q else Q (.bl false) H3)) : tChain r r' ta tb tc σ H Q := h
theorem w_exb {q : Bool → Prop} (h : q b) : ∃ k, V.bl b = .bl k ∧ q k := ⟨b, rfl, h⟩
theorem w_add (q : Q (.int (i + j)) H) : rI0 (fun i j => .int (i + j)) (.int i) (.int j) H Q := ⟨i, j, rfl, rfl, q⟩
theorem w_sub (q : Q (.int (i - j)) H) : rI0 (fun i j => .int (i - j)) (.int i) (.int j) H Q := ⟨i, j, rfl, rfl, q⟩
theorem w_lt (q : Q (.bl (decide (i < j))) H) : rI0 (fun i j => .bl (decide (i < j))) (.int i) (.int j) H Q := ⟨i, j, rfl, rfl, q⟩
theorem w_le (q : Q (.bl (decide (i ≤ j))) H) : rI0 (fun i j => .bl (decide (i ≤ j))) (.int i) (.int j) H Q := ⟨i, j, rfl, rfl, q⟩
theorem w_gt (q : Q (.bl (decide (j < i))) H) : rI0 (fun i j => .bl (decide (j < i))) (.int i) (.int j) H Q := ⟨i, j, rfl, rfl, q⟩
theorem w_ge (q : Q (.bl (decide (j ≤ i))) H) : rI0 (fun i j => .bl (decide (j ≤ i))) (.int i) (.int j) H Q := ⟨i, j, rfl, rfl, q⟩
theorem w_mod (h : 0 < j) (q : Q (.int (i % j)) H) : rI (fun _ j => 0 < j) (fun i j => .int (i % j)) (.int i) (.int j) H Q := ⟨i, j, rfl, rfl, h, q⟩
theorem w_fdiv (h0 : 0 < j) (h1 : j < 2 ^ 200) (q : Q (.int (i / j)) H) : rI CDivW (fun i j => .int (i / j)) (.int i) (.int j) H Q := ⟨i, j, rfl, rfl, wide_div h0 (b := 200) (by omega) (by decide) (by decide), q⟩
theorem w_mulR (h : -18446744073709551616 < j ∧ j < 18446744073709551616) (q : Q (.int (i * j)) H) : rI CMul (fun i j => .int (i * j)) (.int i) (.int j) H Q := ⟨i, j, rfl, rfl, Or.inr h, q⟩
theorem w_mulL (h : -18446744073709551616 < i ∧ i < 18446744073709551616) (q : Q (.int (i * j)) H) : rI CMul (fun i j => .int (i * j)) (.int i) (.int j) H Q := ⟨i, j, rfl, rfl, Or.inl h, q⟩
theorem w_mul (h : CMul i j) (q : Q (.int (i * j)) H) : rI CMul (fun i j => .int (i * j)) (.int i) (.int j) H Q := ⟨i, j, rfl, rfl, h, q⟩
theorem w_pow (h : CPow i j) (q : Q (.int (i ^ j.toNat)) H) : rI CPow (fun i j => .int (i ^ j.toNat)) (.int i) (.int j) H Q := ⟨i, j, rfl, rfl, h, q⟩
theorem w_pow_6 (q : Q (.int 1000000) H) : rI CPow (fun i j => .int (i ^ j.toNat)) (.int 10) (.int 6) H Q := ⟨10, 6, rfl, rfl, ⟨by decide, by decide, by decide⟩, q⟩
theorem w_pow_9 (q : Q (.int 1000000000) H) : rI CPow (fun i j => .int (i ^ j.toNat)) (.int 10) (.int 9) H Q := ⟨10, 9, rfl, rfl, ⟨by decide, by decide, by decide⟩, q⟩
theorem w_pow_12 (q : Q (.int 1000000000000) H) : rI CPow (fun i j => .int (i ^ j.toNat)) (.int 10) (.int 12) H Q := ⟨10, 12, rfl, rfl, ⟨by decide, by decide, by decide⟩, q⟩
theorem w_pow_14 (q : Q (.int 100000000000000) H) : rI CPow (fun i j => .int (i ^ j.toNat)) (.int 10) (.int 14) H Q := ⟨10, 14, rfl, rfl, ⟨by decide, by decide, by decide⟩, q⟩
theorem w_pow_15 (q : Q (.int 1000000000000000) H) : rI CPow (fun i j => .int (i ^ j.toNat)) (.int 10) (.int 15) H Q := ⟨10, 15, rfl, rfl, ⟨by decide, by decide, by decide⟩, q⟩
theorem w_pow_18 (q : Q (.int 1000000000000000000) H) : rI CPow (fun i j => .int (i ^ j.toNat)) (.int 10) (.int 18) H Q := ⟨10, 18, rfl, rfl, ⟨by decide, by decide, by decide⟩, q⟩
theorem w_neg (q : Q (.int (-i)) H) : rU (fun i => .int (-i)) (.int i) H Q := ⟨i, rfl, q⟩
theorem w_eq (h : scal x y = true) (q : Q (.bl (decide (x = y))) H) : rEq x y H Q := ⟨h, q⟩
theorem w_ne (h : scal x y = true) (q : Q (.bl (!decide (x = y))) H) : rNe x y H Q := ⟨h, q⟩
theorem w_ixL {a : Addr} {xs : List V} (h : SqL K H a xs) (e : atI xs i = some v) (q : Q v H) : rIxL K (.ref a) (.int i) H Q := ⟨a, xs, i, v, rfl, rfl, h, e, q⟩
theorem w_ixT {a : Addr} {xs : List V} (h : SqT K H a xs) (e : atI xs i = some v) (q : Q v H) : rIxT K (.ref a) (.int i) H Q := ⟨a, xs, i, v, rfl, rfl, h, e, q⟩
theorem w_ixS {z : Str} {cc : Nat} (h : z.length ≤ sizeLine) (e : atI z.cps.toList i = some cc) (q : Q (.str ⟨#[cc]⟩) H) : rIxS (.str z) (.int i) H Q := ⟨z, i, cc, rfl, rfl, h, e, q⟩
theorem w_setL {a : Addr} {xs : List V} {q : Hp → Prop} {m : Nat} (h : H a = some (.lst xs)) (e : ixN xs.length i = some m) (k : q (upd H a (.lst (xs.set m v)))) : rSetL (.ref a) (.int i) v H q := ⟨a, xs, i, m, rfl, rfl, h, e, k⟩
theorem w_tupD (h : tr σ H fun xs H1 => NewB HO.tup xs H1 Q) : tTup tr σ H Q := h
theorem w_lstD (h : tr σ H fun xs H1 => NewB HO.lst xs H1 Q) : tLst tr σ H Q := h
/-- a new object, its heap by a letter -/
theorem w_new {xs : List V} {f : List V → HO} (hl : xs.length ≤ 1000) (h : ∀ q H2, H q = none → Ex H H2 → H2 q = some (f xs) → (∀ a, a ≠ q → H2 a = H a) → Q (.ref q) H2) : NewB f xs H Q :=
  ⟨Nat.le_of_lt (small1000 hl), fun p hp => h p _ hp (Ex.new hp) upd_same fun a ha => upd_ne ha⟩
theorem w_new0 {o : HO} (h : ∀ q H2, H q = none → Ex H H2 → H2 q = some o → (∀ a, a ≠ q → H2 a = H a) → Q (.ref q) H2) : ∀ p, H p = none → Q (.ref p) (upd H p o) :=
  fun p hp => h p _ hp (Ex.new hp) upd_same fun a ha => upd_ne ha
theorem w_dec [Decidable p] (h1 : p → A) (h2 : ¬ p → B) : if decide p = true then A else B := ite2 (fun h => h1 (of_decide_eq_true h)) fun h => h2 (fun q => h (decide_eq_true q))
theorem w_ndec [Decidable p] (h1 : ¬ p → A) (h2 : p → B) : if (!decide p) = true then A else B := by
  by_cases h : p
  · simp only [h, decide_true, Bool.not_true, Bool.false_eq_true, if_false]; exact h2 h
  · simp only [h, decide_false, Bool.not_false, if_true]; exact h1 h
theorem w_T (h : b = true) (a : A) : if b = true then A else B := by rw [if_pos h]; exact a
theorem w_F (h : b = false) (a : B) : if b = true then A else B := by rw [if_neg (by rw [h]; decide)]; exact a
theorem w_2 (h1 : b = true → A) (h2 : b = false → B) : if b = true then A else B := by
  cases b with
  | true => exact iteT (h1 rfl)
  | false => exact iteF (h2 rfl)
theorem w_nT (h : b = false) (a : A) : if (!b) = true then A else B := by rw [h]; exact iteT a
theorem w_nF (h : b = true) (a : B) : if (!b) = true then A else B := by rw [h]; exact iteF a
theorem w_n2 (h1 : b = false → A) (h2 : b = true → B) : if (!b) = true then A else B := by
  cases b with
  | true => exact iteF (h2 rfl)
  | false => exact iteT (h1 rfl)
theorem sq_of {a : Addr} {xs : List V} (h : H a = some (.lst xs)) : SqL K H a xs := .inl (.inl h)
theorem st_of {a : Addr} {xs : List V} (h : H a = some (.tup xs)) : SqT K H a xs := .inl (.inl h)
end
theorem hu65 {A : Around} {k : Nat} (hr : Room k A) : A.units + 65 < cLine := by
  have := hr.un
  omega
section
variable {X : Cx} {CX : CXT} {k : Nat} {f : Addr} {fd : FuncData} {ps ks : List Str} {sp : Sp} {E : XK} {x : Str} {p pos : Pos} {kws : List Keyword} {tk : TA} {g : List Value → List Value → List Value} {gV : List V → List V → List V}
/-- f(k = v, ..): keywords alone -/
theorem pe_callK0 (F : FnOk X.prog X.w X.K X.mg X.base CX k f fd ps sp) (hr : Room k X.A) (hg : Gl X x) (hm : X.mg x = some (.ref f)) (hk : PySem.W.keepIn X.K (.ref f) = true) (hb : KBinds X.K fd ps ks g gV) (hx : Passes CX X E)
    (hkw : PK X kws tk) (hall : (backToKw pos (keywordEach kws X.env)).all (·.1.isSome) = true := by rfl) (hks : (backToKw pos (keywordEach kws X.env)).filterMap (·.1) = ks := by rfl)
    (hdb : (x == ("__debug__" : Str)) = false := by decide) (hpl : ((backTo pos (starEach [] X.env)).any (·.1) || (backToKw pos (keywordEach kws X.env)).any (·.1.isNone)) = false := by rfl) :
    PE X (.Call (.Name x p) [] kws pos) (tCallK sp gV E tNil tk) := by
  refine ⟨fun pins s σ H Q I h => ?_⟩
  refine wpAny_Call_Name_kw (ld_glob I hg hm ?_ hdb)
  refine PySem.W.callWith_KW0 (h₀ := X.base) I.ok.mod.kin hk hall ?_ hpl
  refine thn (hkw.run pos pins s σ H _ I h) fun ws s2 ⟨zs, H2, I2, rz, q2⟩ => ⟨I2.kIn, ?_⟩
  rw [hks]
  exact run_fnk F hr hb hx I2 .nil rz q2
end

def rAbs : List V → Hp → VK → Prop := fun xs H Q => ∃ i, xs = [.int i] ∧ Q (.int (if i < 0 then -i else i)) H
def rInt : List V → Hp → VK → Prop := fun xs H Q => (∃ i, xs = [.int i] ∧ Q (.int i) H) ∨ ∃ k, xs = [.bl k] ∧ Q (.int (if k then 1 else 0)) H
def rMax2 : List V → Hp → VK → Prop := fun xs H Q => ∃ i j, xs = [.int i, .int j] ∧ Q (.int (if j > i then j else i)) H
def rMin2 : List V → Hp → VK → Prop := fun xs H Q => ∃ i j, xs = [.int i, .int j] ∧ Q (.int (if j < i then j else i)) H
def rLen (K : PySem.W.Frag) : List V → Hp → VK → Prop := fun xs H Q => ∃ x n, xs = [x] ∧ LenV K x H n ∧ Q (.int n) H
def rListOf (K : PySem.W.Frag) : List V → Hp → VK → Prop := fun xs H Q => ∃ p ys, xs = [.ref p] ∧ (SqL K H p ys ∨ SqT K H p ys) ∧ ∀ l, H l = none → Q (.ref l) (upd H l (.lst ys))
def rTupleOf (K : PySem.W.Frag) : List V → Hp → VK → Prop := fun xs H Q => ∃ p ys, xs = [.ref p] ∧ ((SqL K H p ys ∧ ∀ l, H l = none → Q (.ref l) (upd H l (.tup ys))) ∨ (SqT K H p ys ∧ Q (.ref p) H))
def rCount : V → List V → Hp → VK → Prop := fun x xs H Q => ∃ a b, x = .str a ∧ xs = [.str b] ∧ Q (.int (Txt.count a b)) H
def rJoin (K : PySem.W.Frag) : V → List V → Hp → VK → Prop := fun x xs H Q => ∃ a p, ∃ ys : List Str, x = .str a ∧ xs = [.ref p] ∧ (SqL K H p (ys.map V.str) ∨ SqT K H p (ys.map V.str)) ∧ (ys.map (·.length)).sum + ys.length * a.length ≤ 16777216 ∧ Q (.str (Txt.join a ys)) H
section
variable {X : Cx}
theorem c_abs : CallR X (.builtin "abs") rAbs := call_abs
theorem c_int : CallR X (.type "int") rInt := call_int1
theorem c_max2 (hc : X.calm = true) : CallR X (.builtin "max") rMax2 := call_max2 hc
theorem c_min2 (hc : X.calm = true) : CallR X (.builtin "min") rMin2 := call_min2 hc
theorem c_len : CallR X (.builtin "len") (rLen X.K) := call_len
theorem c_listOf : CallR X (.type "list") (rListOf X.K) := call_list_of
theorem c_tupleOf : CallR X (.type "tuple") (rTupleOf X.K) := call_tuple_of
theorem m_count : MtR X "str.count" rCount := mt_count
theorem m_join : MtR X "str.join" (rJoin X.K) := mt_join
end
section
variable {K : PySem.W.Frag} {H : Hp} {i j : Int} {Q : VK} {a : Addr} {xs : List V} {z y : Str}
theorem w_abs (q : Q (.int (if i < 0 then -i else i)) H) : rAbs [.int i] H Q := ⟨i, rfl, q⟩
theorem w_int (q : Q (.int i) H) : rInt [.int i] H Q := .inl ⟨i, rfl, q⟩
theorem w_max (q : Q (.int (if j > i then j else i)) H) : rMax2 [.int i, .int j] H Q := ⟨i, j, rfl, q⟩
theorem w_min (q : Q (.int (if j < i then j else i)) H) : rMin2 [.int i, .int j] H Q := ⟨i, j, rfl, q⟩
theorem w_lenL (h : SqL K H a xs) (q : Q (.int xs.length) H) : rLen K [.ref a] H Q := ⟨.ref a, xs.length, rfl, .inl ⟨xs, h, rfl⟩, q⟩
theorem w_lenT (h : SqT K H a xs) (q : Q (.int xs.length) H) : rLen K [.ref a] H Q := ⟨.ref a, xs.length, rfl, .inr ⟨xs, h, rfl⟩, q⟩
theorem w_lenS (h : z.length ≤ sizeLine) (q : Q (.int z.length) H) : rLen K [.str z] H Q := ⟨.str z, z.length, rfl, ⟨h, rfl⟩, q⟩
theorem w_listL (h : SqL K H a xs) (q : ∀ l H2, H l = none → Ex H H2 → H2 l = some (.lst xs) → (∀ a, a ≠ l → H2 a = H a) → Q (.ref l) H2) : rListOf K [.ref a] H Q := ⟨a, xs, rfl, .inl h, w_new0 q⟩
theorem w_listT (h : SqT K H a xs) (q : ∀ l H2, H l = none → Ex H H2 → H2 l = some (.lst xs) → (∀ a, a ≠ l → H2 a = H a) → Q (.ref l) H2) : rListOf K [.ref a] H Q := ⟨a, xs, rfl, .inr h, w_new0 q⟩
theorem w_tupleL (h : SqL K H a xs) (q : ∀ l H2, H l = none → Ex H H2 → H2 l = some (.tup xs) → (∀ a, a ≠ l → H2 a = H a) → Q (.ref l) H2) : rTupleOf K [.ref a] H Q := ⟨a, xs, rfl, .inl ⟨h, w_new0 q⟩⟩
theorem w_count (q : Q (.int (Txt.count z y)) H) : rCount (.str z) [.str y] H Q := ⟨z, y, rfl, rfl, q⟩
theorem w_m1 {r : V → List V → Hp → VK → Prop} {to te : TE} {σ : L2.St} (h : to σ H fun x H1 => (∃ a, x = .str a) ∧ te σ H1 fun y H2 => r x [y] H2 Q) : tM1 r to te σ H Q := h
theorem w_inS {c : Nat} (q : Q (.bl (decide (c ∈ z.cps.toList))) H) : rInS (.str ⟨#[c]⟩) (.str z) H Q := ⟨c, z, rfl, rfl, q⟩
theorem w_notInS {c : Nat} (q : Q (.bl (!decide (c ∈ z.cps.toList))) H) : rNotInS (.str ⟨#[c]⟩) (.str z) H Q := ⟨c, z, rfl, rfl, q⟩
theorem w_isi {x : V} {t : String} {b : Bool} {c : String} (ty : TyX K H x (.type t)) (e : kitB t c = some b) (q : Q (.bl b) H) : rIsi K [x, .ty c] H Q := ⟨x, .ty c, .type t, .type c, b, rfl, .ty c, ty, kit_ty e, q⟩
end
end J

namespace J
open PySem PySem.Spec PyProof.Rows L2
def LoopB (J : It) (g : TG) (tb : TS) (D : Ends) (σ : L2.St) (H1 : Hp) : Prop := ∃ W : Nat → Nat → L2.St → Hp → Prop, (∃ m, W 0 m σ H1) ∧ ∀ i m σ H, W i m σ H →
  (J.stop i H ∧ D.nx σ H) ∨ (J.go i H ∧ ∃ N : L2.St → Hp → Prop, (∀ σ' H', N σ' H' → ∃ m', m' < m ∧ W (i + 1) m' σ' H') ∧ ∀ x H', J.yld i H x H' → g x σ H' fun σ2 H2 => tb { D with nx := N, ct := N, bk := D.nx } σ2 H2)
def LcB (J : It) (g : TG) (tt : TT) (te : TE) (vs : List Nat) (σ : L2.St) (H1 : Hp) (Q : VK) : Prop := ∀ D, H1 D = none → ∃ W : Nat → Nat → Hp → Prop, (∃ m, W 0 m (upd H1 D (.lst []))) ∧ ∀ i m H, W i m H →
  (J.stop i H ∧ Q (.ref D) H) ∨ (J.go i H ∧ ∃ Nx : Hp → Prop, (∀ H', Nx H' → ∃ m', m' < m ∧ W (i + 1) m' H') ∧ ∀ x H', J.yld i H x H' → g x (wipe σ vs) H' fun σ2 H2 => wipe σ2 vs = wipe σ vs ∧ tt σ2 H2 fun b H3 =>
    if b = true then te σ2 H3 fun y H4 => ∃ acc, H4 D = some (.lst acc) ∧ acc.length < sizeLine ∧ Nx (upd H4 D (.lst (acc ++ [y]))) else Nx H3)
def WhB (c : TT) (tb : TS) (D : Ends) (σ : L2.St) (H : Hp) : Prop := ∃ W : Nat → L2.St → Hp → Prop, (∃ m, W m σ H) ∧ ∀ m σ H, W m σ H →
  c σ H fun b H1 => if b = true then ∃ N : L2.St → Hp → Prop, (∀ σ' H', N σ' H' → ∃ m', m' < m ∧ W m' σ' H') ∧ tb { D with nx := N, ct := N, bk := D.nx } σ H1 else D.nx σ H1
section
variable {K : PySem.W.Frag} {σ : L2.St} {H : Hp} {Q : VK} {D : Ends} {tl te : TE} {tt c : TT} {g : TG} {tb : TS} {ta : TA} {vs : List Nat} {wi : TI} {R : It → Hp → Prop} {QB : Bool → Hp → Prop} {k : L2.St → Hp → Prop} {v x y z : V} {i j m : Nat} {a : Addr}
theorem w_for (h : wi σ H fun J H1 => LoopB J g tb D σ H1) : tFor wi g tb D σ H := h
theorem w_while (h : WhB c tb D σ H) : tWhile c tb D σ H := h
theorem w_lc (h : wi σ H fun J H1 => LcB J g tt te vs σ H1 Q) : tLc wi g tt te vs σ H Q := h
theorem w_iTup (h : tl σ H fun x H1 => ∃ a, x = .ref a ∧ (∃ xs, SqT K H1 a xs) ∧ R (Itt K a) H1) : iTup K tl σ H R := h
theorem w_iList (h : tl σ H fun x H1 => ∃ a, x = .ref a ∧ (∃ xs, SqL K H1 a xs) ∧ R (Itl K a) H1) : iList K tl σ H R := h
theorem w_iRng1 (h : ta σ H fun vs H1 => ∃ j : Int, vs = [.int j] ∧ -(2 ^ 62) ≤ j ∧ j < 2 ^ 62 ∧ R (Itr 0 j.toNat) H1) : iRng1 ta σ H R := h
theorem w_iRng2 (h : ta σ H fun vs H1 => ∃ i j : Int, vs = [.int i, .int j] ∧ (-(2 ^ 62) ≤ i ∧ i < 2 ^ 62 ∧ -(2 ^ 62) ≤ j ∧ j < 2 ^ 62) ∧ R (Itr i (j - i).toNat) H1) : iRng2 ta σ H R := h
theorem w_gName (h : k (σ.set i (some v)) H) : gName i v σ H k := h
theorem w_gTup2 (h : SqT K H a [x, y]) (q : k ((σ.set i (some x)).set j (some y)) H) : gTup K 2 (gCons (gName i) (gCons (gName j) gNil)) (.ref a) σ H k := ⟨a, _, rfl, h, rfl, x, _, rfl, y, _, rfl, rfl, q⟩
theorem w_gTup3 (h : SqT K H a [x, y, z]) (q : k (((σ.set i (some x)).set j (some y)).set m (some z)) H) : gTup K 3 (gCons (gName i) (gCons (gName j) (gCons (gName m) gNil))) (.ref a) σ H k := ⟨a, _, rfl, h, rfl, x, _, rfl, y, _, rfl, z, _, rfl, rfl, q⟩
theorem w_tYes (h : QB true H) : tYes σ H QB := h
theorem w_loopT {xs : List V} (hs : SqT K H a xs) (h : LoopB (Itt K a) g tb D σ H) : ∃ a', V.ref a = .ref a' ∧ (∃ xs, SqT K H a' xs) ∧ LoopB (Itt K a') g tb D σ H := ⟨a, rfl, ⟨xs, hs⟩, h⟩
theorem w_loopL {xs : List V} (hs : SqL K H a xs) (h : LoopB (Itl K a) g tb D σ H) : ∃ a', V.ref a = .ref a' ∧ (∃ xs, SqL K H a' xs) ∧ LoopB (Itl K a') g tb D σ H := ⟨a, rfl, ⟨xs, hs⟩, h⟩
theorem w_lcT {xs : List V} (hs : SqT K H a xs) (h : LcB (Itt K a) g tt te vs σ H Q) : ∃ a', V.ref a = .ref a' ∧ (∃ xs, SqT K H a' xs) ∧ LcB (Itt K a') g tt te vs σ H Q := ⟨a, rfl, ⟨xs, hs⟩, h⟩
theorem w_lcL {xs : List V} (hs : SqL K H a xs) (h : LcB (Itl K a) g tt te vs σ H Q) : ∃ a', V.ref a = .ref a' ∧ (∃ xs, SqL K H a' xs) ∧ LcB (Itl K a') g tt te vs σ H Q := ⟨a, rfl, ⟨xs, hs⟩, h⟩
theorem w_loopR {n : Int} (h0 : -1000000000 ≤ n ∧ n ≤ 1000000000) (h : LoopB (Itr 0 n.toNat) g tb D σ H) : ∃ j : Int, [V.int n] = [.int j] ∧ -(2 ^ 62) ≤ j ∧ j < 2 ^ 62 ∧ LoopB (Itr 0 j.toNat) g tb D σ H := ⟨n, rfl, by omega, by omega, h⟩
theorem w_lcR {n : Int} (h0 : -1000000000 ≤ n ∧ n ≤ 1000000000) (h : LcB (Itr 0 n.toNat) g tt te vs σ H Q) : ∃ j : Int, [V.int n] = [.int j] ∧ -(2 ^ 62) ≤ j ∧ j < 2 ^ 62 ∧ LcB (Itr 0 j.toNat) g tt te vs σ H Q := ⟨n, rfl, by omega, by omega, h⟩
theorem lc_T {xs : List V} (Pv : Addr → Nat → Hp → Prop) (h0 : ∀ D, H D = none → Pv D 0 (upd H D (.lst []))) (hl : ∀ D i H', i ≤ xs.length → Pv D i H' → SqT K H' a xs)
    (hs : ∀ D i x H', H D = none → xs[i]? = some x → Pv D i H' → g x (wipe σ vs) H' fun σ2 H2 => wipe σ2 vs = wipe σ vs ∧ tt σ2 H2 fun b H3 =>
      if b = true then te σ2 H3 fun y H4 => ∃ acc, H4 D = some (.lst acc) ∧ acc.length < sizeLine ∧ Pv D (i + 1) (upd H4 D (.lst (acc ++ [y]))) else Pv D (i + 1) H3) (hd : ∀ D H', H D = none → Pv D xs.length H' → Q (.ref D) H') : LcB (Itt K a) g tt te vs σ H Q :=
  fun D nD => lc_tup (Pv D) (h0 D nD) (hl D) (fun i x H' hx p => hs D i x H' nD hx p) fun H' p => hd D H' nD p
theorem lc_L {xs : List V} (Pv : Addr → Nat → Hp → Prop) (h0 : ∀ D, H D = none → Pv D 0 (upd H D (.lst []))) (hl : ∀ D i H', i ≤ xs.length → Pv D i H' → SqL K H' a xs)
    (hs : ∀ D i x H', H D = none → xs[i]? = some x → Pv D i H' → g x (wipe σ vs) H' fun σ2 H2 => wipe σ2 vs = wipe σ vs ∧ tt σ2 H2 fun b H3 =>
      if b = true then te σ2 H3 fun y H4 => ∃ acc, H4 D = some (.lst acc) ∧ acc.length < sizeLine ∧ Pv D (i + 1) (upd H4 D (.lst (acc ++ [y]))) else Pv D (i + 1) H3) (hd : ∀ D H', H D = none → Pv D xs.length H' → Q (.ref D) H') : LcB (Itl K a) g tt te vs σ H Q :=
  fun D nD => lc_list (Pv D) (h0 D nD) (hl D) (fun i x H' hx p => hs D i x H' nD hx p) fun H' p => hd D H' nD p
theorem lc_R {lo : Int} {n : Nat} (Pv : Addr → Nat → Hp → Prop) (h0 : ∀ D, H D = none → Pv D 0 (upd H D (.lst [])))
    (hs : ∀ D i H', H D = none → i < n → Pv D i H' → g (.int (lo + i)) (wipe σ vs) H' fun σ2 H2 => wipe σ2 vs = wipe σ vs ∧ tt σ2 H2 fun b H3 =>
      if b = true then te σ2 H3 fun y H4 => ∃ acc, H4 D = some (.lst acc) ∧ acc.length < sizeLine ∧ Pv D (i + 1) (upd H4 D (.lst (acc ++ [y]))) else Pv D (i + 1) H3) (hd : ∀ D H', H D = none → Pv D n H' → Q (.ref D) H') : LcB (Itr lo n) g tt te vs σ H Q :=
  fun D nD => lc_range (Pv D) (h0 D nD) (fun i H' hi p => hs D i H' nD hi p) fun H' p => hd D H' nD p
/-- the end of a comprehension's turn -/
theorem w_acc {D : Addr} {acc : List V} {P : Hp → Prop} (h : H D = some (.lst acc)) (hl : acc.length < 1000) (p : P (upd H D (.lst (acc ++ [v])))) : ∃ acc, H D = some (.lst acc) ∧ acc.length < sizeLine ∧ P (upd H D (.lst (acc ++ [v]))) := ⟨acc, h, small1000 (Nat.le_of_lt hl), p⟩
theorem w_all {bs : List Bool} (h : SqL K H a (bs.map V.bl)) (q : Q (.bl (bs.all id)) H) : rAll K [.ref a] H Q := ⟨a, bs, rfl, h, q⟩
theorem w_ltT {b : Addr} {ns ms : List Int} (h1 : SqT K H a (ns.map V.int)) (h2 : SqT K H b (ms.map V.int)) (q : Q (.bl (HT.lexLt ns ms)) H) : rLtT K (.ref a) (.ref b) H Q := ⟨a, b, ns, ms, rfl, rfl, h1, h2, q⟩
end
def tyName : PyData → String
  | .none => "NoneType" | .bool _ => "bool" | .int _ => "int" | .str _ => "str" | .list _ => "list" | .tuple _ => "tuple" | .dict _ => "dict"
theorem Rp.ty {K : PySem.W.Frag} {H : Hp} {v : V} {d : PyData} (h : Rp K H v d) : TyX K H v (.type (tyName d)) := by
  cases h with
  | non => exact .base .non
  | bl b => exact .base (.bl b)
  | int i => exact .base (.int i)
  | str x => exact .base (.str x)
  | lst e _ _ => exact .base (.lst e)
  | dct e => exact .base (.dK e)
  | tup hs _ =>
    rcases hs with (h | ⟨o, h⟩) | ⟨o, its, n, e, c, _⟩
    · exact .base (.tup h)
    · exact .fTuple h
    · exact .kTuple e c
def isTupD : PyData → Bool
  | .tuple _ => true | _ => false
theorem kit_tup : ∀ d : PyData, kitB (tyName d) "tuple" = some (isTupD d)
  | .none => by decide +kernel
  | .bool _ => by simp only [tyName, isTupD]; decide +kernel
  | .int _ => by simp only [tyName, isTupD]; decide +kernel
  | .str _ => by simp only [tyName, isTupD]; decide +kernel
  | .list _ => by simp only [tyName, isTupD]; decide +kernel
  | .tuple _ => by simp only [tyName, isTupD]; decide +kernel
  | .dict _ => by simp only [tyName, isTupD]; decide +kernel
def isStrD : PyData → Bool
  | .str _ => true | _ => false
theorem kit_str : ∀ d : PyData, kitB (tyName d) "str" = some (isStrD d)
  | .none => by decide +kernel
  | .bool _ => by simp only [tyName, isStrD]; decide +kernel
  | .int _ => by simp only [tyName, isStrD]; decide +kernel
  | .str _ => by simp only [tyName, isStrD]; decide +kernel
  | .list _ => by simp only [tyName, isStrD]; decide +kernel
  | .tuple _ => by simp only [tyName, isStrD]; decide +kernel
  | .dict _ => by simp only [tyName, isStrD]; decide +kernel
def isIntD : PyData → Bool
  | .int _ => true | .bool _ => true | _ => false
theorem kit_int : ∀ d : PyData, kitB (tyName d) "int" = some (isIntD d)
  | .none => by decide +kernel
  | .bool _ => by simp only [tyName, isIntD]; decide +kernel
  | .int _ => by simp only [tyName, isIntD]; decide +kernel
  | .str _ => by simp only [tyName, isIntD]; decide +kernel
  | .list _ => by simp only [tyName, isIntD]; decide +kernel
  | .tuple _ => by simp only [tyName, isIntD]; decide +kernel
  | .dict _ => by simp only [tyName, isIntD]; decide +kernel
def isBoolD : PyData → Bool
  | .bool _ => true | _ => false
theorem kit_bool : ∀ d : PyData, kitB (tyName d) "bool" = some (isBoolD d)
  | .none => by decide +kernel
  | .bool _ => by simp only [tyName, isBoolD]; decide +kernel
  | .int _ => by simp only [tyName, isBoolD]; decide +kernel
  | .str _ => by simp only [tyName, isBoolD]; decide +kernel
  | .list _ => by simp only [tyName, isBoolD]; decide +kernel
  | .tuple _ => by simp only [tyName, isBoolD]; decide +kernel
  | .dict _ => by simp only [tyName, isBoolD]; decide +kernel
section
variable {K : PySem.W.Frag} {H : Hp} {Q : VK} {v : V} {d : PyData}
theorem w_isiTup (h : Rp K H v d) (q : Q (.bl (isTupD d)) H) : rIsi K [v, .ty "tuple"] H Q := w_isi h.ty (kit_tup d) q
theorem w_isiStr (h : Rp K H v d) (q : Q (.bl (isStrD d)) H) : rIsi K [v, .ty "str"] H Q := w_isi h.ty (kit_str d) q
theorem w_isiInt (h : Rp K H v d) (q : Q (.bl (isIntD d)) H) : rIsi K [v, .ty "int"] H Q := w_isi h.ty (kit_int d) q
theorem w_isiBool (h : Rp K H v d) (q : Q (.bl (isBoolD d)) H) : rIsi K [v, .ty "bool"] H Q := w_isi h.ty (kit_bool d) q
end
section
variable {K : PySem.W.Frag} {H : Hp} {z : Str} {P : Prop} {vs : List V} {ds : List PyData} {v : V} {d d1 d2 d3 : PyData}
theorem w_exs (h : P) : (∃ a, V.str z = .str a) ∧ P := ⟨⟨z, rfl⟩, h⟩
theorem RpAll.two (h : RpAll K H vs [d1, d2]) : ∃ v1 v2, vs = [v1, v2] ∧ Rp K H v1 d1 ∧ Rp K H v2 d2 := by
  cases h with | cons h1 r => cases r with | cons h2 r => cases r with | nil => exact ⟨_, _, rfl, h1, h2⟩
theorem RpAll.three (h : RpAll K H vs [d1, d2, d3]) : ∃ v1 v2 v3, vs = [v1, v2, v3] ∧ Rp K H v1 d1 ∧ Rp K H v2 d2 ∧ Rp K H v3 d3 := by
  cases h with | cons h1 r => cases r with | cons h2 r => cases r with | cons h3 r => cases r with | nil => exact ⟨_, _, _, rfl, h1, h2, h3⟩
theorem Rp.isInt {i : Int} (h : Rp K H v (.int i)) : v = .int i := by cases h; rfl
theorem Rp.isStr {x : Str} (h : Rp K H v (.str x)) : v = .str x := by cases h; rfl
theorem Rp.isBl {x : Bool} (h : Rp K H v (.bool x)) : v = .bl x := by cases h; rfl
theorem Rp.isTup (h : Rp K H v (.tuple ds)) : ∃ a xs, v = .ref a ∧ SqT K H a xs ∧ RpAll K H xs ds := by
  cases h with | tup hs r => exact ⟨_, _, rfl, hs, r⟩
theorem len2 {α : Type} {l : List α} (h : l.length = 2) : ∃ a b, l = [a, b] := by
  match l, h with
  | [a, b], _ => exact ⟨a, b, rfl⟩
theorem len3 {α : Type} {l : List α} (h : l.length = 3) : ∃ a b c, l = [a, b, c] := by
  match l, h with
  | [a, b, c], _ => exact ⟨a, b, c, rfl⟩
end
section
variable {K : PySem.W.Frag} {H H' : Hp} {Q : VK} {to te : TE} {t : TA} {σ : L2.St} {r : V → List V → Hp → VK → Prop} {T : String} {l a : Addr} {xs ds : List V} {y v x : V} {z : Str}
theorem w_bm (h : to σ H fun x H1 => tyV K T x H1 ∧ t σ H1 fun xs H2 => r x xs H2 Q) : tBM K T r to t σ H Q := h
theorem w_tyL {P : Prop} (h : H l = some (.lst xs)) (p : P) : tyV K "list" (.ref l) H ∧ P := ⟨.inl ⟨rfl, _, sq_of h⟩, p⟩
theorem w_append (h : H l = some (.lst xs)) (hl : xs.length < 1000) (q : Q .non (upd H l (.lst (xs ++ [y])))) : rAppend (.ref l) [y] H Q := ⟨l, xs, y, rfl, rfl, h, small1000 (Nat.le_of_lt hl), q⟩
theorem w_inD {d : PyData} {es : List PyData} (h1 : Dp K H v d) (h2 : Dp K H (.ref a) (.list es)) (s1 : SeqAt.shaped d = true) (s2 : SeqAt.shaped (.list es) = true) (q : Q (.bl (es.any fun z => PyData.eqv z d)) H) : rInD K v (.ref a) H Q := ⟨d, es, h1, h2, s1, s2, q⟩
theorem w_notInD {d : PyData} {es : List PyData} (h1 : Dp K H v d) (h2 : Dp K H (.ref a) (.list es)) (s1 : SeqAt.shaped d = true) (s2 : SeqAt.shaped (.list es) = true) (q : Q (.bl (!es.any fun z => PyData.eqv z d)) H) : rNotInD K v (.ref a) H Q := ⟨d, es, h1, h2, s1, s2, q⟩
theorem w_neD {d e : PyData} (h1 : Dp K H v d) (h2 : Dp K H y e) (s1 : SeqAt.shaped d = true) (s2 : SeqAt.shaped e = true) (q : Q (.bl (!PyData.eqv d e)) H) : rNeD K v y H Q := ⟨d, e, h1, h2, s1, s2, q⟩
theorem w_eqD {d e : PyData} (h1 : Dp K H v d) (h2 : Dp K H y e) (s1 : SeqAt.shaped d = true) (s2 : SeqAt.shaped e = true) (q : Q (.bl (PyData.eqv d e)) H) : rEqD K v y H Q := ⟨d, e, h1, h2, s1, s2, q⟩
theorem w_join {ys : List Str} (h : SqL K H a (ys.map V.str)) (hs : (ys.map (·.length)).sum + ys.length * z.length ≤ 16777216) (q : Q (.str (Txt.join z ys)) H) : rJoin K (.str z) [.ref a] H Q := ⟨z, a, ys, rfl, rfl, .inl h, hs, q⟩
theorem Xb.at {b : Addr} (e : Xb H H') {ys : List V} (h : H b = some (.tup ys)) : H' b = some (.tup ys) := e _ _ h rfl
theorem sh_strs (ss : List Str) : handSh (.lst (ss.map V.str)) = false := by
  cases ss <;> rfl
theorem sh_ints (ns : List Int) : handSh (.lst (ns.map V.int)) = false := by
  cases ns <;> rfl
end
def ListR3 (vs : List V) (H : Hp) (Q : VK) : Prop := ∃ (i j c : Int) (n : Nat), vs = [.int i, .int j, .int c] ∧ RgC i j c n ∧ n ≤ 2 ^ 24 ∧ ∀ q, H q = none → Q (.ref q) (upd H q (.lst (((List.range n).map fun k : Nat => i + (k : Int) * c).map V.int)))
def tListR3 (ta : TA) : TE := fun σ H Q => ta σ H fun vs H1 => ListR3 vs H1 Q
theorem w_listR3 {ta : TA} {σ : L2.St} {H : Hp} {Q : VK} (h : ta σ H fun vs H1 => ListR3 vs H1 Q) : tListR3 ta σ H Q := h
theorem w_range3 {i j c : Int} {n : Nat} {H : Hp} {Q : VK} (h : RgC i j c n) (hn : n ≤ 10000) (q : ∀ l H2, H l = none → Ex H H2 → H2 l = some (.lst (((List.range n).map fun k : Nat => i + (k : Int) * c).map V.int)) → (∀ a, a ≠ l → H2 a = H a) → Q (.ref l) H2) : ListR3 [.int i, .int j, .int c] H Q :=
  ⟨i, j, c, n, rfl, h, by omega, w_new0 q⟩
theorem pe_listRg3 {X : Cx} {a b c : Expr} {ta : TA} {p p2 pos pos2 : Pos} (hc : X.calm = true) (hgl : Gl X "list") (hml : X.mg "list" = none) (hg : Gl X "range") (hm : X.mg "range" = none) (ha : PA X [a, b, c] ta)
    (hs : starEach [a, b, c] X.env = (false, eval a X.env) :: starEach [b, c] X.env := by rfl) (hpl : (backTo pos2 (starEach [b, c] X.env)).any (·.1) = false := by rfl)
    (na : starEach [.Call (.Name "range" p2) [a, b, c] [] pos2] X.env = (false, eval (.Call (.Name "range" p2) [a, b, c] [] pos2) X.env) :: starEach [] X.env := by rfl) :
    PE X (.Call (.Name "list" p) [.Call (.Name "range" p2) [a, b, c] [] pos2] [] pos) (tListR3 ta) := by
  refine ⟨fun pins s σ H Q I h => ?_⟩
  refine Call_ (ld_blt I hgl hml boot_list (PyProof.Rows.callWith_type1 (args_cons (thn (Q := fun x s' => ∃ r i j k n t u v H', x = .ref r ∧ IsRange s'.heap r i j k t u v ∧ Inv X pins σ H' s' ∧ RgC i j k n ∧ n ≤ 2 ^ 24 ∧ ∀ q, H' q = none → Q (.ref q) (upd H' q (.lst (((List.range n).map fun m : Nat => i + (m : Int) * k).map V.int)))) ?_ fun x s1 ⟨r, i, j, k, n, t, u, v, H1, ex, hr, I1, ok, hn, q⟩ => args_nil ?_) na) na))
  · refine Call_ (ld_blt I hg hm boot_range (PyProof.Rows.callWith_type1 (thn (ha.run pos2 pins s σ H _ I h) fun us s1 ⟨vs, H1, I1, r1, q1⟩ => ?_) hs hpl))
    obtain ⟨i, j, k, n, e, ok, hn, q⟩ := q1
    subst e
    cases r1 with
    | cons r rr =>
      cases rr with
      | cons r' rr =>
        cases rr with
        | cons r'' rr =>
          cases rr
          obtain ⟨t, rfl⟩ := r
          obtain ⟨t', rfl⟩ := r'
          obtain ⟨t'', rfl⟩ := r''
          exact call_range_3 ok.1 ⟨_, i, j, k, n, _, _, _, H1, rfl, IsRange.new .., I1.kept (t' := s1.toks) fun b o e => Heap.get?_push_of_some _ e, ok, hn, q⟩ (.inl (PyProof.noPylong_small ok.2.1))
  · subst ex
    obtain ⟨c0, c1, c2, c3⟩ := ok
    refine call_list_range (n := n) (I1.ok.hd hc) hr c2 c3 hn fun h' tk acc c' hk e' hi => ?_
    refine ⟨.ref s1.heap.objs.size, upd H1 s1.heap.objs.size (.lst (((List.range n).map fun m : Nat => i + (m : Int) * k).map V.int)), I1.laid hk (Nat.le_refl _) (show ObjOk X.prog X.w _ _ _ (.lst (((List.range n).map fun m : Nat => i + (m : Int) * k).map V.int)) from ⟨?_, acc.toList, c', ?_, ?_⟩), rfl, q _ (I1.hok.fresh (Nat.le_refl _))⟩
    · rw [List.length_map, List.length_map, List.length_range, sizeLine_eq]; omega
    · have e : acc.toList.length = n := by rw [Array.length_toList]; exact hi.1
      rw [List.map_map, ← e]
      refine vals_of_get acc.toList _ fun m u hm => ?_
      obtain ⟨t, rfl⟩ := hi.2 m u (by rw [← hm, Array.getElem?_toList])
      exact ⟨t, rfl⟩
    · rw [Array.toArray_toList]; exact e'
theorem w_cat {H : Hp} {Q : VK} {a b : Addr} {xs ys : List V} (h1 : H a = some (.lst xs)) (h2 : H b = some (.lst ys)) (hl : xs.length + ys.length ≤ 1000) (q : ∀ l H2, H l = none → Ex H H2 → H2 l = some (.lst (xs ++ ys)) → (∀ c, c ≠ l → H2 c = H c) → Q (.ref l) H2) : rCat (.ref a) (.ref b) H Q :=
  ⟨a, b, xs, ys, rfl, rfl, h1, h2, Nat.le_of_lt (small1000 hl), w_new0 q⟩
end J

namespace J
open PySem PySem.Spec PyProof.Rows L2
/-- a new tuple, its object known to have no dict of its own -/
def NewF (xs : List V) (H : Hp) (Q : VK) : Prop := xs.length ≤ sizeLine ∧ ∀ p o, H p = none → o.dict = none → Q (.ref p) (upd H p (.frz o (.tup xs)))
def tTupF (t : TA) : TE := fun σ H Q => t σ H fun xs H1 => NewF xs H1 Q
theorem pe_tupF {X : Cx} {es : List Expr} {t : TA} {pos : Pos} {x1} (h : PA X es t) : PE X (.Tuple es x1 pos) (tTupF t) := by
  refine ⟨fun pins s σ H Q I hq => ?_⟩
  refine wpAny_Tuple_spliced (thn (h.run pos pins s σ H _ I hq) fun us s1 ⟨xs, H1, I1, r, z, q⟩ => ⟨by rw [← r.length]; exact z, ?_⟩)
  have hf : H1 s1.heap.objs.size = none := I1.hok.fresh (Nat.le_refl _)
  refine ⟨.ref s1.heap.objs.size, upd H1 s1.heap.objs.size (.frz { cls := .type "tuple", data := .seq us.toArray } (.tup xs)), I1.laid (t' := s1.toks) (fun b u e => Heap.get?_push_of_some _ e) (Nat.le_refl _) ?_, rfl, q _ _ hf rfl⟩
  exact ⟨Heap.get?_push_size _ rfl, z, us, r, ⟨_, Heap.get?_push_size _ rfl, rfl, _, rfl⟩⟩
def rTupleF (K : PySem.W.Frag) : List V → Hp → VK → Prop := fun xs H Q => ∃ p ys, xs = [.ref p] ∧ SqL K H p ys ∧ ∀ l o, H l = none → o.dict = none → Q (.ref l) (upd H l (.frz o (.tup ys)))
theorem c_tupleF {X : Cx} : CallR X (.type "tuple") (rTupleF X.K) := by
  intro pins s σ H xs us Q I r h
  obtain ⟨p, ys, rfl, hq, q⟩ := h
  obtain ⟨u, rfl, rx⟩ := vals1 r
  cases rx
  obtain ⟨its, r', pl, hz⟩ := I.list hq
  have hlen := r'.length
  refine call_tuple_list pl.isList (fun h' kp => ?_) (by simp only [List.size_toArray] <;> omega)
  have I1 : Inv X pins σ H { s with heap := h' } := I.kept (t' := s.toks) kp
  have I2 : Inv X pins σ (upd H h'.objs.size (.frz { cls := .type "tuple", data := .seq its.toArray } (.tup ys))) { s with heap := h'.push { cls := .type "tuple", data := .seq its.toArray } } :=
    I1.laid (t' := s.toks) (fun b o e => Heap.get?_push_of_some _ e) (Nat.le_refl _) (show ObjOk X.prog X.w _ _ _ (.frz _ (.tup ys)) from ⟨Heap.get?_push_size _ rfl, hz, its, r', IsTup.new _ _⟩)
  exact ⟨.ref h'.objs.size, _, I2, rfl, q _ _ (I1.hok.fresh (Nat.le_refl _)) rfl⟩
/-- dict(t), t a tuple of pairs -/
def rDictT (K : PySem.W.Frag) : List V → Hp → VK → Prop := fun xs H Q => ∃ (a : Addr) (o : Obj) (ps : List Addr) (kvs : List (Key × V)), xs = [.ref a] ∧ H a = some (.frz o (.tup (ps.map V.ref))) ∧ o.dict = none ∧ Paired (fun p kv => SqT K H p [kV kv.1, kv.2]) ps kvs ∧
  ∀ p, H p = none → Q (.ref p) (upd H p (.dK (mergeK [] kvs)))
theorem pairs_us {h : Heap} : ∀ (prs : List (Key × Value)) (ps : List Addr), (∀ (j : Nat) (q : Key × Value), prs[j]? = some q → ∃ (b : Addr) (u : Value), ps[j]? = some b ∧ IsTup h b #[u, q.2] ∧ keyIs q.1 u = true) →
    ∃ us : List (Value × Value), us.length = prs.length ∧ ∀ (j : Nat) (q : Key × Value), prs[j]? = some q → ∃ (b : Addr) (u : Value), ps[j]? = some b ∧ us[j]? = some (u, q.2) ∧ IsTup h b #[u, q.2] ∧ keyIs q.1 u = true
  | [], _, _ => ⟨[], rfl, fun j q e => by simp at e⟩
  | p :: r, ps, hat => by
    obtain ⟨b, u, e1, e2, e3⟩ := hat 0 p rfl
    cases ps with
    | nil => simp at e1
    | cons b' ps =>
      obtain ⟨us, l1, l2⟩ := pairs_us r ps fun j q e => by
        obtain ⟨b, u, z1, z2, z3⟩ := hat (j + 1) q (by simpa using e)
        exact ⟨b, u, by simpa using z1, z2, z3⟩
      refine ⟨(u, p.2) :: us, by rw [List.length_cons, List.length_cons, l1], fun j q e => ?_⟩
      cases j with
      | zero =>
        have e' : p = q := Option.some.inj e
        subst e'
        exact ⟨b, u, e1, rfl, e2, e3⟩
      | succ j =>
        obtain ⟨b2, u2, z1, z2, z3, z4⟩ := l2 j q (by simpa using e)
        exact ⟨b2, u2, by simpa using z1, by simpa using z2, z3, z4⟩
theorem c_dictT {X : Cx} (hcalm : X.calm = true) : CallR X (.type "dict") (rDictT X.K) := by
  intro pins s σ H xs us Q I r q
  obtain ⟨a, o, ps, kvs, ex, hq, hdn, hp, q⟩ := q
  subst ex
  obtain ⟨u, eu, rx⟩ := vals1 r
  subst eu
  cases rx
  obtain ⟨ho, hz, its, rv, pl⟩ := (show ObjOk X.prog X.w H s.heap a (.frz o (.tup (ps.map V.ref))) from I.hok a _ hq)
  have ei := refs_at rv
  subst ei
  rw [List.length_map] at hz
  obtain ⟨prs, rel, hl, hpr⟩ := pairs_of I hp
  obtain ⟨o', ho', hc, n, hdat⟩ := pl
  rw [ho] at ho'
  cases ho'
  have hat : ∀ (j : Nat) (q : Key × Value), prs[j]? = some q → ∃ (b : Addr) (u : Value), ps[j]? = some b ∧ IsTup s.heap b #[u, q.2] ∧ keyIs q.1 u = true := hpr
  obtain ⟨us, hul, hus⟩ := pairs_us (h := s.heap) prs ps hat
  have P := PairArg.tuple (prog := X.prog) (w := X.w) a (ps.map Value.ref).toArray (fun j => ps.getD j 0) us
  refine PySem.call_dict_pairs (knd := mixKind X.prog X.w) (kvs := prs) P (I.ok.hd hcalm) ⟨⟨o, n, ho, hc, hdn, hdat⟩, ?_, fun j k v e => ?_⟩ ⟨hul.symm, fun j key v e => ?_⟩ (by rw [hul, hl]; exact hz) fun h' tk hd' k => ?_
  · simp [hul, hl]
  · have hj : j < prs.length := by rw [← hul]; exact (List.getElem?_eq_some_iff.mp e).1
    obtain ⟨b, u, e1, e2, e3, e4⟩ := hus j prs[j] (List.getElem?_eq_getElem hj)
    rw [e] at e2
    cases e2
    have eb : ps.getD j 0 = b := by rw [List.getD_eq_getElem?_getD, e1]; rfl
    show (ps.map Value.ref).toArray[j]? = some (Value.ref (ps.getD j 0)) ∧ PairAt s.heap (ps.getD j 0) k prs[j].2
    rw [eb]
    exact ⟨by simp [e1], .inl e3⟩
  · have hj : j < prs.length := by rw [← hul]; exact (List.getElem?_eq_some_iff.mp e).1
    obtain ⟨b, u, e1, e2, e3, e4⟩ := hus j prs[j] (List.getElem?_eq_getElem hj)
    have e2' : us[j]? = some (key, v) := e
    rw [e2'] at e2
    cases e2
    exact ⟨prs[j].1, List.getElem?_eq_getElem hj, e4⟩
  · have hm : (s.heap.objs.size == sysModules) = false := beq_eq_false_iff_ne.mpr (Nat.ne_of_gt I.big)
    have hlen : (mergeK [] kvs).length ≤ sizeLine := by
      refine Nat.le_trans (length_mergeK kvs []) ?_
      rw [List.length_nil, Nat.zero_add, rel.length, hl]
      exact hz
    exact ⟨.ref s.heap.objs.size, upd H s.heap.objs.size (.dK (mergeK [] kvs)), I.laid (t' := tk) (fun b o e => k b o (fun z => nomatch z) e) (Nat.le_refl _) (show ObjOk X.prog X.w _ _ _ (.dK (mergeK [] kvs)) from ⟨hlen, hm, merged [] prs, KV.merge rel .nil, hd'⟩), rfl, q _ (I.hok.fresh (Nat.le_refl _))⟩
def rListStr : List V → Hp → VK → Prop := fun xs H Q => ∃ z, xs = [.str z] ∧ z.length ≤ sizeLine ∧ ∀ l, H l = none → Q (.ref l) (upd H l (.lst ((z.cps.toList.map fun c => (⟨#[c]⟩ : Str)).map V.str)))
theorem c_listStr {X : Cx} (hcalm : X.calm = true) : CallR X (.type "list") rListStr := by
  intro pins s σ H xs us Q I r h
  obtain ⟨z, rfl, hz, q⟩ := h
  obtain ⟨u, rfl, t, rfl⟩ := vals1 r
  refine call_list_str (I.ok.hd hcalm) z t (hn := hz) fun h' tk acc c' hk e' hi => ?_
  have hl : acc.toList.length = z.cps.toList.length := by rw [Array.length_toList, Array.length_toList]; exact hi.1
  have hv : Vals ((z.cps.toList.map fun c => (⟨#[c]⟩ : Str)).map V.str) acc.toList := by
    have e : ((z.cps.toList.map fun c => (⟨#[c]⟩ : Str)).map V.str) = (List.range acc.toList.length).map fun j => V.str ⟨#[z.cps.toList.getD j 0]⟩ := by
      rw [List.map_map]
      apply List.ext_getElem
      · simp [hl]
      · intro j h1 h2
        have h3 : j < z.cps.toList.length := by simpa using h1
        simp only [List.getElem_map, List.getElem_range, Function.comp]
        rw [List.getD_eq_getElem?_getD, List.getElem?_eq_getElem h3]; rfl
    rw [e]
    refine vals_of_get acc.toList _ fun j u hj => ?_
    obtain ⟨c, t, h1, rfl⟩ := hi.2 j u (by rw [← hj, Array.getElem?_toList])
    refine ⟨t, ?_⟩
    have : z.cps.toList[j]? = some c := by rw [Array.getElem?_toList]; exact h1
    rw [List.getD_eq_getElem?_getD, this]; rfl
  refine ⟨.ref s.heap.objs.size, upd H s.heap.objs.size (.lst _), I.laid hk (Nat.le_refl _) (show ObjOk X.prog X.w _ _ _ (.lst ((z.cps.toList.map fun c => (⟨#[c]⟩ : Str)).map V.str)) from ⟨?_, acc.toList, c', hv, ?_⟩), rfl, q _ (I.hok.fresh (Nat.le_refl _))⟩
  · rw [List.length_map, List.length_map, Array.length_toList]; exact hz
  · rw [Array.toArray_toList]; exact e'
section
variable {K : PySem.W.Frag} {H : Hp} {Q : VK} {a : Addr} {xs : List V} {z : Str} {σ : L2.St} {tr : TA}
theorem w_tupF (h : tr σ H fun xs H1 => NewF xs H1 Q) : tTupF tr σ H Q := h
theorem w_newF (hl : xs.length ≤ 1000) (h : ∀ q o H2, H q = none → Ex H H2 → o.dict = none → H2 q = some (.frz o (.tup xs)) → Q (.ref q) H2) : NewF xs H Q :=
  ⟨Nat.le_of_lt (small1000 hl), fun p o hp ho => h p o _ hp (Ex.new hp) ho upd_same⟩
theorem w_tupleF (h : SqL K H a xs) (q : ∀ l o H2, H l = none → Ex H H2 → o.dict = none → H2 l = some (.frz o (.tup xs)) → Q (.ref l) H2) : rTupleF K [.ref a] H Q :=
  ⟨a, xs, rfl, h, fun l o hl ho => q l o _ hl (Ex.new hl) ho upd_same⟩
theorem w_listStr (hz : z.length ≤ 1000) (q : ∀ l H2, H l = none → Ex H H2 → H2 l = some (.lst ((z.cps.toList.map fun c => (⟨#[c]⟩ : Str)).map V.str)) → (∀ a, a ≠ l → H2 a = H a) → Q (.ref l) H2) : rListStr [.str z] H Q :=
  ⟨z, rfl, Nat.le_of_lt (small1000 hz), w_new0 q⟩
theorem sf_of {o : Obj} (h : H a = some (.frz o (.tup xs))) : SqT K H a xs := .inl (.inr ⟨o, h⟩)
end
end J

namespace J
open PySem PySem.Spec PyProof.Rows L2
def rLtS : R2 := fun x y H Q => ∃ i j, x = .str i ∧ y = .str j ∧ Q (.bl (decide (i.cps.toList < j.cps.toList))) H
def rLeS : R2 := fun x y H Q => ∃ i j, x = .str i ∧ y = .str j ∧ Q (.bl (!decide (j.cps.toList < i.cps.toList))) H
theorem o_ltS {X : Cx} : OpR X (compareOp .Lt) rLtS := op_lt_str
theorem o_leS {X : Cx} : OpR X (compareOp .LtE) rLeS := op_le_str
def DGetB (x y : V) (H : Hp) (Q : VK) : Prop := ∃ a v, x = .ref a ∧ DGet H a y (some v) ∧ Q v H
def DNotB (x y : V) (H : Hp) (Q : VK) : Prop := ∃ a o, x = .ref a ∧ DGet H a y o ∧ Q (.bl (!o.isSome)) H
section
variable {K : PySem.W.Frag} {σ : L2.St} {H : Hp} {Q : VK} {td ty te : TE} {tl th : TO} {QO : Option Int → Hp → Prop} {i : Int} {a : Addr} {z y : Str} {v : V} {kvs : List (Key × V)} {xs : List V}
theorem w_ltS (q : Q (.bl (decide (z.cps.toList < y.cps.toList))) H) : rLtS (.str z) (.str y) H Q := ⟨z, y, rfl, rfl, q⟩
theorem w_leS (q : Q (.bl (!decide (y.cps.toList < z.cps.toList))) H) : rLeS (.str z) (.str y) H Q := ⟨z, y, rfl, rfl, q⟩
theorem w_dget (h : td σ H fun x H1 => ty σ H1 fun y H2 => DGetB x y H2 Q) : tDGet td ty σ H Q := h
theorem w_dnotin (h : ty σ H fun y H1 => td σ H1 fun x H2 => DNotB x y H2 Q) : tDNotIn ty td σ H Q := h
theorem w_dgetS (h : H a = some (.dK kvs)) (e : valV kvs (.inr z) = some v) (q : Q v H) : DGetB (.ref a) (.str z) H Q := ⟨a, v, rfl, e ▸ DGet.k (k := Sum.inr z) h, q⟩
theorem w_dnotS (h : H a = some (.dK kvs)) (q : Q (.bl (!(valV kvs (.inr z)).isSome)) H) : DNotB (.ref a) (.str z) H Q := ⟨a, _, rfl, DGet.k (k := Sum.inr z) h, q⟩
theorem w_sl {r : V → Option Int → Option Int → Hp → VK → Prop} (h : te σ H fun x H1 => tl σ H1 fun l H2 => th σ H2 fun u H3 => r x l u H3 Q) : tSl r te tl th σ H Q := h
theorem w_noPart (q : QO none H) : tNoPart σ H QO := q
theorem w_part (h : te σ H fun x H1 => ∃ i, x = .int i ∧ QO (some i) H1) : tPart te σ H QO := h
theorem w_some {q : Int → Prop} (h : q i) : ∃ k, V.int i = .int k ∧ q k := ⟨i, rfl, h⟩
/-- t[:k] of a tuple: the first k, itself where that is all -/
theorem w_slTake {k : Nat} (h : SqT K H a xs) (hk : k ≤ xs.length) (q : ∀ l H2, Ex H H2 → SqT K H2 l (xs.take k) → Q (.ref l) H2) : rSlA K (.ref a) none (some (k : Int)) H Q := by
  have e0 : HT.sIx xs.length 0 none = 0 := HT.sIx_none ..
  have e1 : HT.sIx xs.length xs.length (some (k : Int)) = k := by
    rw [HT.sIx_nat]; omega
  refine ⟨a, xs, rfl, h, fun z => ?_, fun _ p hp => ?_⟩
  · rw [e1] at z
    refine q a H (Ex.refl H) ?_
    rw [List.take_of_length_le (by omega)]; exact h
  · have ec : cutV xs none (some (k : Int)) = xs.take k := by
      unfold cutV
      rw [e0, e1]; rfl
    rw [ec]
    exact q p _ (Ex.new hp) (st_of upd_same)
end
end J
namespace DL
open PySem PySem.Spec PyProof.Rows L2
def SqN (K : PySem.W.Frag) (G : Hp) (a : Addr) (xs : List V) : Prop := (∃ o, G a = some (.frz o (.tup xs)) ∧ o.dict = none) ∨
  ∃ (o : Obj) (its : Array Value) (n : Nat), K.lookup a = some o ∧ o.cls = .type "tuple" ∧ o.dict = none ∧ o.data = .seq its n ∧ its.size ≤ sizeLine ∧ Vals xs its.toList
theorem SqN.sqT {K : PySem.W.Frag} {G : Hp} {a : Addr} {xs : List V} (h : SqN K G a xs) : SqT K G a xs := by
  rcases h with ⟨o, h, _⟩ | ⟨o, its, n, h1, h2, _, h3, h4, h5⟩
  · exact .inl (.inr ⟨o, h⟩)
  · exact .inr ⟨o, its, n, h1, h2, h3, h4, h5⟩
theorem sqN_mono {K : PySem.W.Frag} {G G' : Hp} (e : ∀ a o, G a = some o → G' a = some o) {a : Addr} {xs : List V} (h : SqN K G a xs) : SqN K G' a xs := by
  rcases h with ⟨o, h, hd⟩ | h
  · exact .inl ⟨o, e _ _ h, hd⟩
  · exact .inr h
section
variable {X : Cx}
def tupO (its : List Value) : Obj := { cls := .type "tuple", data := .seq its.toArray }
theorem Inv.tnewF {pins : List (Addr × Obj)} {σ : L2.St} {H : Hp} {s : Shared} {its : List Value} {ys : List V} {t' : Nat} (I : Inv X pins σ H s) (hv : Vals ys its) (hz : ys.length ≤ sizeLine) :
    Inv X pins σ (upd H s.heap.objs.size (.frz (tupO its) (.tup ys))) { s with heap := s.heap.push { cls := .type "tuple", data := .seq its.toArray }, toks := t' } :=
  I.laid (t' := t') (fun b o e => Heap.get?_push_of_some _ e) (Nat.le_refl _) (show ObjOk X.prog X.w _ _ _ (.frz _ (.tup ys)) from ⟨Heap.get?_push_size _ rfl, hz, its, hv, IsTup.new _ _⟩)
/-- tuple(x) -/
def rTupOf (K : PySem.W.Frag) : List V → Hp → VK → Prop := fun xs H Q => ∃ p ys, xs = [.ref p] ∧ ((SqL K H p ys ∧ ∀ l o, H l = none → o.dict = none → Q (.ref l) (upd H l (.frz o (.tup ys)))) ∨ (SqT K H p ys ∧ Q (.ref p) H))
theorem c_tupOf : CallR X (.type "tuple") (rTupOf X.K) := by
  intro pins s σ H xs us Q I r h
  obtain ⟨p, ys, e, h⟩ := h
  rcases h with ⟨h1, h2⟩ | ⟨h1, h2⟩
  · exact J.c_tupleF pins s σ H xs us Q I r ⟨p, ys, e, h1, h2⟩
  · exact call_tupleT pins s σ H xs us Q I r ⟨p, ys, e, h1, h2⟩
/-- t + u -/
def rCatF (K : PySem.W.Frag) : R2 := fun x y H Q => ∃ a b xs ys, x = .ref a ∧ y = .ref b ∧ SqT K H a xs ∧ SqT K H b ys ∧ xs.length + ys.length ≤ sizeLine ∧
  (xs = [] → Q (.ref b) H) ∧ (xs ≠ [] → ys = [] → Q (.ref a) H) ∧ (xs ≠ [] → ys ≠ [] → ∀ p o, H p = none → o.dict = none → Q (.ref p) (upd H p (.frz o (.tup (xs ++ ys)))))
theorem op_catF : OpR X (binaryOp .Add) (rCatF X.K) := by
  intro pins s σ H x y v u Q I rx ry h
  obtain ⟨a, b, xs, ys, rfl, rfl, ha, hb, hz, q0, q1, q2⟩ := h
  cases rx
  cases ry
  obtain ⟨its, r1, p1, _⟩ := I.tuple ha
  obtain ⟨its2, r2, p2, _⟩ := I.tuple hb
  by_cases hx : xs = []
  · subst hx
    cases r1
    exact cat_tup0 p1 p2 ⟨.ref b, H, I, rfl, q0 rfl⟩
  · refine HT.cat_tup p1 p2 (fun z => hx (r1.nil_iff.mp z)) (fun z => ⟨.ref a, H, I, rfl, q1 hx (r2.nil_iff.mp z)⟩) (fun z => ?_) (by rw [← r1.length, ← r2.length]; exact hz)
    exact ⟨.ref s.heap.objs.size, _, Inv.tnewF (t' := s.toks) I (r1.append r2) (by rw [List.length_append]; exact hz), rfl, q2 hx (fun w => z (r2.nil_iff.mpr w)) _ _ (I.hok.fresh (Nat.le_refl _)) rfl⟩
/-- t[lo:hi] -/
def rSlF (K : PySem.W.Frag) : V → Option Int → Option Int → Hp → VK → Prop := fun x lo hi H Q => ∃ a xs, x = .ref a ∧ SqT K H a xs ∧
  (HT.sIx xs.length 0 lo = 0 ∧ HT.sIx xs.length xs.length hi = xs.length → Q (.ref a) H) ∧ (¬ (HT.sIx xs.length 0 lo = 0 ∧ HT.sIx xs.length xs.length hi = xs.length) → ∀ p o, H p = none → o.dict = none → Q (.ref p) (upd H p (.frz o (.tup (cutV xs lo hi)))))
theorem sl_tupF : SlR X (rSlF X.K) := by
  intro pins s σ H x v vl vu lo hi sl Q I rx hs pl pu h
  obtain ⟨a, xs, rfl, hx, q1, q2⟩ := h
  cases rx
  obtain ⟨its, r, ht, hz⟩ := I.tuple hx
  have hlen : its.toArray.size = xs.length := by rw [List.size_toArray]; exact r.length.symm
  refine ⟨"tuple", _, PyProof.Rows.slot_tuple_getitem.lookup, ht.typeIs, ?_⟩
  by_cases hw : HT.sIx xs.length 0 lo = 0 ∧ HT.sIx xs.length xs.length hi = xs.length
  · exact getItem_tuple_whole ht hs pl pu (by rw [hlen]; exact hw) ⟨.ref a, H, I, rfl, q1 hw⟩
  · refine HT.getItem_tuple_cut ht hs pl pu (by rw [hlen]; exact hw) ?_ (by rw [hlen]; exact hz)
    rw [hlen]
    exact ⟨.ref s.heap.objs.size, _, Inv.tnewF (t' := s.toks) I ((r.drop (HT.sIx xs.length 0 lo)).take (HT.sIx xs.length xs.length hi - HT.sIx xs.length 0 lo)) (Nat.le_trans (cutV_length xs lo hi) hz), rfl, q2 hw _ _ (I.hok.fresh (Nat.le_refl _)) rfl⟩
/-- t * k -/
def rRepF (K : PySem.W.Frag) : R2 := fun x y H Q => ∃ l k xs, x = .ref l ∧ y = .int k ∧ SqT K H l xs ∧ xs ≠ [] ∧ 2 ≤ k ∧ k ≤ 1000 ∧ xs.length ≤ 1000 ∧ ∀ p o, H p = none → o.dict = none → Q (.ref p) (upd H p (.frz o (.tup (List.replicate k.toNat xs).flatten)))
theorem op_repF : OpR X (binaryOp .Mult) (rRepF X.K) := by
  intro pins s σ H x y v u Q I rx ry h
  obtain ⟨l, k, xs, rfl, rfl, hT, hne, h1, h2, hz, q⟩ := h
  cases rx
  obtain ⟨t, rfl⟩ := ry
  obtain ⟨its, r, ⟨⟨cls, dd, data, sl⟩, ho, hc, n, hd⟩, hs⟩ := I.tuple hT
  simp only at hc hd
  subst hc hd
  have hle : its.length = xs.length := r.length.symm
  have hn : its ≠ [] := fun e => hne (by
    rw [e] at hle
    exact List.eq_nil_of_length_eq_zero hle.symm)
  have hi : its.toArray.isEmpty = false := by
    cases its with
    | nil => exact absurd rfl hn
    | cons a b => rfl
  have hsz0 : its.toArray.size = xs.length := by rw [List.size_toArray, hle]
  have hm : ((its.toArray.size : Nat) : Int) * k ≤ 1000000 := by
    rw [hsz0]
    have a1 : ((xs.length : Nat) : Int) * k ≤ 1000 * k := Int.mul_le_mul_of_nonneg_right (by omega) (by omega)
    omega
  have flen : (List.replicate k.toNat its).flatten.length ≤ sizeLine := by
    rw [PyProof.Rows.lm_len_rep_flat, hle, sizeLine_eq]
    have a1 : k.toNat * xs.length ≤ 1000 * 1000 := Nat.mul_le_mul (by omega) hz
    omega
  have c0 : (decide (k < -(2 ^ 63)) || decide (k ≥ 2 ^ 63)) = false := by
    rw [decide_eq_false (by omega), decide_eq_false (by omega)] <;> rfl
  have c1 : (its.toArray.isEmpty || k == 1) = false := by
    rw [hi, Bool.false_or]
    exact beq_eq_false_iff_ne.mpr (by omega)
  have c2 : (decide (k ≤ 0) || its.toArray.isEmpty) = false := by
    rw [hi, Bool.or_false]
    exact decide_eq_false (by omega)
  have c4 : Builtin.Tuple.tupleTooMany (((its.toArray.size : Nat) : Int) * k) = false := by
    unfold Builtin.Tuple.tupleTooMany
    rw [sizeLine_eq]
    exact decide_eq_false (by omega)
  refine wpAny_binaryOp_repeat_ref (T := "tuple") (U := "int") (by decide) ⟨_, ho, rfl⟩ (fun s' => typeIs_int s' k t) noFill_tuple_mul F.fills_int_mul F.slot_int_rmul repeat_tuple F.slot_int_index.lookup
    (call_meets F.slot_int_rmul (typeIs_int s k t) F.entry_int_rmul (F.args_int_rmul_2 _ _) (int_rmul_tuple k t l its.toArray n dd sl)
      ⟨ho, rfl, ⟨_, ho, rfl⟩, call_meets F.slot_tuple_mul ⟨_, ho, rfl⟩ F.entry_tuple_mul (F.args_tuple_mul_2 _ _) (tuple_mulW l its.toArray n dd sl k t c0 c1 c2 (by omega) c4 (by rw [size_rep, List.size_toArray]; exact flen)) ⟨ho, ?_⟩⟩)
  rw [size_rep]
  exact ⟨.ref s.heap.objs.size, _, Inv.tnewF (t' := s.toks) I (r.rep k.toNat) (by rw [PyProof.Rows.lm_len_rep_flat, sizeLine_eq]; have a1 : k.toNat * xs.length ≤ 1000 * 1000 := Nat.mul_le_mul (by omega) hz; omega), rfl, q _ _ (I.hok.fresh (Nat.le_refl _)) rfl⟩
end
end DL
namespace DL
open PySem PySem.Spec PyProof.Rows L2

abbrev D := PyData
/-- what stands for the law's source of drawn numbers -/
def deckD : D := .dict [(.list [], .none)]
inductive DV where
  | val (d : D)
  | own (ds : List D)
abbrev Env := List (Option DV)
structure Er where
  cls : Str
  fs : List (Str × D)

inductive R (α : Type) : Type where
  | ret (a : α)
  | err (e : Er)
  | any (n : Int) (k : Int → R α)
  | bad
def R.bind {α β : Type} : R α → (α → R β) → R β
  | .ret a, f => f a
  | .err e, _ => .err e
  | .any n k, f => .any n fun i => (k i).bind f
  | .bad, _ => .bad
instance : Monad R where
  pure := .ret
  bind := R.bind
/-- both ways out -/
def R.both {α β : Type} : R α → (α → R β) → (Er → R β) → R β
  | .ret a, f, _ => f a
  | .err e, _, g => g e
  | .any n k, f, g => .any n fun i => (k i).both f g
  | .bad, _, _ => .bad
def R.wp {α : Type} : R α → Nat → (Nat → α → Prop) → (Nat → Er → Prop) → Prop
  | .ret a, f, Q, _ => Q f a
  | .err e, f, _, E => E f e
  | .any n k, f, Q, E => ∃ f', f = f' + 1 ∧ ∀ i, 0 ≤ i → i < n → (k i).wp f' Q E
  | .bad, _, _, _ => False
theorem R.wp_bind {α β : Type} (m : R α) (g : α → R β) (Q : Nat → β → Prop) (E : Nat → Er → Prop) : ∀ f, (m.bind g).wp f Q E ↔ m.wp f (fun f a => (g a).wp f Q E) E := by
  induction m with
  | ret a => exact fun f => Iff.rfl
  | err e => exact fun f => Iff.rfl
  | any n k ih => exact fun f => ⟨fun ⟨f', e, h⟩ => ⟨f', e, fun i h0 h1 => (ih i f').mp (h i h0 h1)⟩, fun ⟨f', e, h⟩ => ⟨f', e, fun i h0 h1 => (ih i f').mpr (h i h0 h1)⟩⟩
  | bad => exact fun f => Iff.rfl
theorem R.wp_both {α β : Type} (m : R α) (g : α → R β) (h : Er → R β) (Q : Nat → β → Prop) (E : Nat → Er → Prop) : ∀ f, (m.both g h).wp f Q E ↔ m.wp f (fun f a => (g a).wp f Q E) (fun f e => (h e).wp f Q E) := by
  induction m with
  | ret a => exact fun f => Iff.rfl
  | err e => exact fun f => Iff.rfl
  | any n k ih => exact fun f => ⟨fun ⟨f', e, h⟩ => ⟨f', e, fun i h0 h1 => (ih i f').mp (h i h0 h1)⟩, fun ⟨f', e, h⟩ => ⟨f', e, fun i h0 h1 => (ih i f').mpr (h i h0 h1)⟩⟩
  | bad => exact fun f => Iff.rfl
theorem R.wp_mono {α : Type} {m : R α} {Q Q' : Nat → α → Prop} {E E' : Nat → Er → Prop} : ∀ {f : Nat}, m.wp f Q E → (∀ f a, Q f a → Q' f a) → (∀ f e, E f e → E' f e) → m.wp f Q' E' := by
  induction m with
  | ret a => exact fun h hQ hE => hQ _ _ h
  | err e => exact fun h hQ hE => hE _ _ h
  | any n k ih => exact fun ⟨f', e, h⟩ hQ hE => ⟨f', e, fun i h0 h1 => ih i (h i h0 h1) hQ hE⟩
  | bad => exact fun h _ _ => h
theorem R.bind_bind {α β γ : Type} (m : R α) (f : α → R β) (g : β → R γ) : (m.bind f).bind g = m.bind fun a => (f a).bind g := by
  induction m with
  | ret a => rfl
  | err e => rfl
  | any n k ih => exact congrArg (R.any n) (funext fun i => ih i)
  | bad => rfl
def guard' {α : Type} (b : Bool) (m : R α) : R α := if b = true then m else .bad
theorem wp_guard {α : Type} {b : Bool} {m : R α} {f : Nat} {Q : Nat → α → Prop} {E : Nat → Er → Prop} : (guard' b m).wp f Q E ↔ b = true ∧ m.wp f Q E := by
  unfold guard'
  cases b
  · exact ⟨fun h => h.elim, fun h => absurd h.1 (by decide)⟩
  · exact ⟨fun h => ⟨rfl, h⟩, fun h => h.2⟩

structure Base where
  K : PySem.W.Frag
  mg : Str → Option Value
  DP : Nat → Hp → List V → Prop
  S : List Addr
  dk : List Addr
  H0 : Hp
structure Wd where
  O : List Addr
  nk : List Addr
  H : Hp
  fu : Nat
def hide (N : List Addr) (H : Hp) : Hp := fun a => if a ∈ N then none else H a
theorem hide_some {N : List Addr} {H : Hp} {a : Addr} {o : HO} : hide N H a = some o ↔ a ∉ N ∧ H a = some o := by
  unfold hide
  by_cases h : a ∈ N
  · rw [if_pos h]; exact ⟨fun z => (by cases z), fun z => absurd h z.1⟩
  · rw [if_neg h]; exact ⟨fun z => ⟨h, z⟩, fun z => z.2⟩
def Base.dks (c : Base) (w : Wd) : List Addr := w.nk ++ c.dk
def Base.hid (c : Base) (w : Wd) : List Addr := w.O ++ (w.nk ++ c.S)
def Base.vis (c : Base) (w : Wd) : Hp := hide (c.hid w) w.H

def kD : Key → D
  | .inl i => .int i
  | .inr x => .str x
/-- a list that is tracked or stands in the written part -/
def SqLt (K : PySem.W.Frag) (H : Hp) (a : Addr) (xs : List V) : Prop := H a = some (.lst xs) ∨
    ∃ (o : Obj) (its : Array Value) (n : Nat), K.lookup a = some o ∧ o.cls = .type "list" ∧ o.dict = none ∧ o.data = .seq its n ∧ its.size ≤ sizeLine ∧ Vals xs its.toList
theorem SqLt.sqL {K : PySem.W.Frag} {H : Hp} {a : Addr} {xs : List V} (h : SqLt K H a xs) : SqL K H a xs := by
  rcases h with h | h
  · exact .inl (.inl h)
  · exact .inr h
/-- the law's script, which nobody writes -/
def scrD (ns : List Int) : D := .dict [(.list (ns.map PyData.int), .bool true)]
mutual
inductive Rp (K : PySem.W.Frag) (dk : List Addr) (G : Hp) : V → D → Prop
  | non : Rp K dk G .non .none
  | bl (b : Bool) : Rp K dk G (.bl b) (.bool b)
  | int (i : Int) : Rp K dk G (.int i) (.int i)
  | str (x : Str) : Rp K dk G (.str x) (.str x)
  | tup {a : Addr} {xs : List V} {ds : List D} : SqN K G a xs → RpAll K dk G xs ds → Rp K dk G (.ref a) (.tuple ds)
  | scr {a : Addr} {ns : List Int} : SqL K G a (ns.map V.int) → Rp K dk G (.ref a) (scrD ns)
  | lst {a : Addr} {xs : List V} {ds : List D} : SqLt K G a xs → RpAll K dk G xs ds → Rp K dk G (.ref a) (.list ds)
  | dct {a : Addr} {kvs : List (Key × V)} {ds : List (D × D)} : G a = some (.dK kvs) → RpKV K dk G kvs ds → Rp K dk G (.ref a) (.dict ds)
  | deck {a : Addr} : a ∈ dk → Rp K dk G (.ref a) deckD
inductive RpAll (K : PySem.W.Frag) (dk : List Addr) (G : Hp) : List V → List D → Prop
  | nil : RpAll K dk G [] []
  | cons {v : V} {vs : List V} {d : D} {ds : List D} : Rp K dk G v d → RpAll K dk G vs ds → RpAll K dk G (v :: vs) (d :: ds)
inductive RpKV (K : PySem.W.Frag) (dk : List Addr) (G : Hp) : List (Key × V) → List (D × D) → Prop
  | nil : RpKV K dk G [] []
  | cons {k : Key} {v : V} {kvs : List (Key × V)} {d : D} {ds : List (D × D)} : Rp K dk G v d → RpKV K dk G kvs ds → RpKV K dk G ((k, v) :: kvs) ((kD k, d) :: ds)
end
section
variable {K : PySem.W.Frag} {dk dk' : List Addr} {G G' : Hp}
theorem rd_mono (e : ∀ a o, G a = some o → G' a = some o) {a : Addr} {u : HO} (h : Rd G a u) : Rd G' a u := by
  rcases h with h | ⟨o, h⟩
  · exact .inl (e _ _ h)
  · exact .inr ⟨o, e _ _ h⟩
theorem sqL_mono (e : ∀ a o, G a = some o → G' a = some o) {a : Addr} {xs : List V} (h : SqL K G a xs) : SqL K G' a xs := by
  rcases h with h | h
  · exact .inl (rd_mono e h)
  · exact .inr h
theorem sqLt_mono (e : ∀ a o, G a = some o → G' a = some o) {a : Addr} {xs : List V} (h : SqLt K G a xs) : SqLt K G' a xs := by
  rcases h with h | h
  · exact .inl (e _ _ h)
  · exact .inr h
theorem sqT_mono (e : ∀ a o, G a = some o → G' a = some o) {a : Addr} {xs : List V} (h : SqT K G a xs) : SqT K G' a xs := by
  rcases h with h | h
  · exact .inl (rd_mono e h)
  · exact .inr h
mutual
theorem Rp.mono (e : ∀ a o, G a = some o → G' a = some o) (ed : ∀ a ∈ dk, a ∈ dk') : ∀ {v : V} {d : D}, Rp K dk G v d → Rp K dk' G' v d
  | _, _, .non => .non
  | _, _, .bl b => .bl b
  | _, _, .int i => .int i
  | _, _, .str x => .str x
  | _, _, .tup h r => .tup (sqN_mono e h) (RpAll.mono e ed r)
  | _, _, .scr h => .scr (sqL_mono e h)
  | _, _, .lst h r => .lst (sqLt_mono e h) (RpAll.mono e ed r)
  | _, _, .dct h r => .dct (e _ _ h) (RpKV.mono e ed r)
  | _, _, .deck h => .deck (ed _ h)
theorem RpAll.mono (e : ∀ a o, G a = some o → G' a = some o) (ed : ∀ a ∈ dk, a ∈ dk') : ∀ {vs : List V} {ds : List D}, RpAll K dk G vs ds → RpAll K dk' G' vs ds
  | _, _, .nil => .nil
  | _, _, .cons h r => .cons (Rp.mono e ed h) (RpAll.mono e ed r)
theorem RpKV.mono (e : ∀ a o, G a = some o → G' a = some o) (ed : ∀ a ∈ dk, a ∈ dk') : ∀ {vs : List (Key × V)} {ds : List (D × D)}, RpKV K dk G vs ds → RpKV K dk' G' vs ds
  | _, _, .nil => .nil
  | _, _, .cons h r => .cons (Rp.mono e ed h) (RpKV.mono e ed r)
end
theorem RpAll.len : ∀ {vs : List V} {ds : List D}, RpAll K dk G vs ds → vs.length = ds.length
  | _, _, .nil => rfl
  | _, _, .cons _ r => congrArg Nat.succ (RpAll.len r)
theorem RpAll.at : ∀ {vs : List V} {ds : List D} {i : Nat} {v : V}, RpAll K dk G vs ds → vs[i]? = some v → ∃ d, ds[i]? = some d ∧ Rp K dk G v d
  | _, _, _, _, .nil, h => by simp at h
  | _, _, 0, _, .cons h _, e => ⟨_, rfl, by cases e; exact h⟩
  | _, _, i + 1, _, .cons _ r, e => RpAll.at (i := i) r e
theorem RpAll.at' : ∀ {vs : List V} {ds : List D} {i : Nat} {d : D}, RpAll K dk G vs ds → ds[i]? = some d → ∃ v, vs[i]? = some v ∧ Rp K dk G v d
  | _, _, _, _, .nil, h => by simp at h
  | _, _, 0, _, .cons h _, e => ⟨_, rfl, by cases e; exact h⟩
  | _, _, i + 1, _, .cons _ r, e => RpAll.at' (i := i) r e
theorem RpAll.app : ∀ {vs ws : List V} {ds es : List D}, RpAll K dk G vs ds → RpAll K dk G ws es → RpAll K dk G (vs ++ ws) (ds ++ es)
  | _, _, _, _, .nil, r => r
  | _, _, _, _, .cons h t, r => .cons h (RpAll.app t r)
theorem RpAll.take : ∀ {vs : List V} {ds : List D} (n : Nat), RpAll K dk G vs ds → RpAll K dk G (vs.take n) (ds.take n)
  | _, _, 0, _ => by simp; exact .nil
  | _, _, n + 1, .nil => .nil
  | _, _, n + 1, .cons h t => .cons h (RpAll.take n t)
theorem RpAll.drop : ∀ {vs : List V} {ds : List D} (n : Nat), RpAll K dk G vs ds → RpAll K dk G (vs.drop n) (ds.drop n)
  | _, _, 0, r => r
  | _, _, n + 1, .nil => .nil
  | _, _, n + 1, .cons _ t => RpAll.drop n t
theorem RpAll.set : ∀ {vs : List V} {ds : List D} {v : V} {d : D} (n : Nat), RpAll K dk G vs ds → Rp K dk G v d → RpAll K dk G (vs.set n v) (ds.set n d)
  | _, _, _, _, _, .nil, _ => .nil
  | _, _, _, _, 0, .cons h t, r => .cons r t
  | _, _, _, _, n + 1, .cons h t, r => .cons h (RpAll.set n t r)
theorem RpAll.rev : ∀ {vs : List V} {ds : List D}, RpAll K dk G vs ds → RpAll K dk G vs.reverse ds.reverse
  | _, _, .nil => .nil
  | _, _, .cons h t => by
    rw [List.reverse_cons, List.reverse_cons]
    exact RpAll.app (RpAll.rev t) (.cons h .nil)
theorem RpAll.ints (ns : List Int) : RpAll K dk G (ns.map V.int) (ns.map PyData.int) := by
  induction ns with
  | nil => exact .nil
  | cons n r ih => exact .cons (.int n) ih
theorem Rp.isInt {v : V} {i : Int} (h : Rp K dk G v (.int i)) : v = .int i := by cases h; rfl
theorem Rp.isStr {v : V} {x : Str} (h : Rp K dk G v (.str x)) : v = .str x := by cases h; rfl
theorem Rp.isBl {v : V} {x : Bool} (h : Rp K dk G v (.bool x)) : v = .bl x := by cases h; rfl
theorem Rp.isNon {v : V} (h : Rp K dk G v .none) : v = .non := by cases h; rfl
theorem Rp.isTup {v : V} {ds : List D} (h : Rp K dk G v (.tuple ds)) : ∃ a xs, v = .ref a ∧ SqT K G a xs ∧ RpAll K dk G xs ds := by
  cases h with | tup h r => exact ⟨_, _, rfl, h.sqT, r⟩
theorem Rp.isTupN {v : V} {ds : List D} (h : Rp K dk G v (.tuple ds)) : ∃ a xs, v = .ref a ∧ SqN K G a xs ∧ RpAll K dk G xs ds := by
  cases h with | tup h r => exact ⟨_, _, rfl, h, r⟩
theorem Rp.isLst' {v : V} {ds : List D} (h : Rp K dk G v (.list ds)) : ∃ a xs, v = .ref a ∧ SqLt K G a xs ∧ RpAll K dk G xs ds := by
  cases h with | lst h r => exact ⟨_, _, rfl, h, r⟩
theorem Rp.isLst {v : V} {ds : List D} (h : Rp K dk G v (.list ds)) : ∃ a xs, v = .ref a ∧ SqL K G a xs ∧ RpAll K dk G xs ds := by
  obtain ⟨a, xs, e, h, r⟩ := h.isLst'
  exact ⟨a, xs, e, h.sqL, r⟩
theorem map_int_inj : ∀ {ns ms : List Int}, ns.map PyData.int = ms.map PyData.int → ns = ms
  | [], [], _ => rfl
  | [], _ :: _, h => by cases h
  | _ :: _, [], h => by cases h
  | n :: ns, m :: ms, h => by
    injection h with h1 h2
    injection h1 with h1
    rw [h1, map_int_inj h2]
theorem Rp.isScr {v : V} {ns : List Int} (h : Rp K dk G v (scrD ns)) : ∃ a, v = .ref a ∧ SqL K G a (ns.map V.int) := by
  generalize hd : scrD ns = d at h
  cases h with
  | scr h =>
    unfold scrD at hd
    injection hd with hd
    injection hd with h1 h2
    injection h1 with h3 h4
    injection h3 with h5
    rw [map_int_inj h5]
    exact ⟨_, rfl, h⟩
  | deck h =>
    unfold scrD deckD at hd
    injection hd with hd
    injection hd with h1 h2
    injection h1 with h3 h4
    cases h4
  | dct h r =>
    unfold scrD at hd
    cases r with
    | nil => cases hd
    | @cons k v kvs d ds h1 h2 =>
      injection hd with hd
      injection hd with h3 h4
      injection h3 with h5 h6
      cases k <;> cases h5
  | _ => cases hd
theorem Rp.isDeck {v : V} (h : Rp K dk G v deckD) : (∃ a, v = .ref a ∧ a ∈ dk) := by
  generalize hd : deckD = d at h
  cases h with
  | deck h => exact ⟨_, rfl, h⟩
  | scr h =>
    unfold scrD deckD at hd
    injection hd with hd
    injection hd with h1 h2
    injection h1 with h3 h4
    cases h4
  | dct h r =>
    unfold deckD at hd
    cases r with
    | nil => cases hd
    | @cons k v kvs d ds h1 h2 =>
      injection hd with hd
      injection hd with h3 h4
      injection h3 with h5 h6
      cases k <;> cases h5
  | _ => cases hd
/-- data of scalars: no heap -/
def scalD : D → Bool
  | .none => true | .bool _ => true | .int _ => true | .str _ => true | _ => false
theorem Rp.scal {v : V} {d : D} (h : Rp K dk G v d) (s : scalD d = true) {dk2 : List Addr} {G2 : Hp} : Rp K dk2 G2 v d := by
  cases h with
  | non => exact .non
  | bl b => exact .bl b
  | int i => exact .int i
  | str x => exact .str x
  | deck h => cases s
  | scr h => cases s
  | tup _ _ => cases s
  | lst _ _ => cases s
  | dct _ _ => cases s
mutual
theorem Rp.dp : ∀ {v : V} {d : D}, Rp K dk G v d → PyData.canLay0 d = true → Dp K G v d
  | _, _, .non, _ => .non
  | _, _, .bl b, _ => .bl b
  | _, _, .int i, _ => .int i
  | _, _, .str x, _ => .str x
  | _, _, .tup h r, c => .tup h.sqT (RpAll.dp r (by simpa [PyData.canLay0] using c))
  | _, _, .lst h r, c => .lst h.sqL (RpAll.dp r (by simpa [PyData.canLay0] using c))
  | _, _, .scr _, c => absurd c (by simp [PyData.canLay0, scrD])
  | _, _, .dct _ _, c => absurd c (by simp [PyData.canLay0])
  | _, _, .deck _, c => absurd c (by simp [PyData.canLay0, deckD])
theorem RpAll.dp : ∀ {vs : List V} {ds : List D}, RpAll K dk G vs ds → PyData.canLayAll0 ds = true → DpAll K G vs ds
  | _, _, .nil, _ => .nil
  | _, _, .cons h r, c => by
    have c2 := c
    simp only [PyData.canLayAll0, Bool.and_eq_true] at c2
    exact .cons (Rp.dp h c2.1) (RpAll.dp r c2.2)
end
end
mutual
theorem dp_mono {K : PySem.W.Frag} {G G' : Hp} (e : ∀ a o, G a = some o → G' a = some o) : ∀ {v : V} {d : D}, Dp K G v d → Dp K G' v d
  | _, _, .non => .non
  | _, _, .bl b => .bl b
  | _, _, .int i => .int i
  | _, _, .str x => .str x
  | _, _, .tup h r => .tup (sqT_mono e h) (dpAll_mono e r)
  | _, _, .lst h r => .lst (sqL_mono e h) (dpAll_mono e r)
theorem dpAll_mono {K : PySem.W.Frag} {G G' : Hp} (e : ∀ a o, G a = some o → G' a = some o) : ∀ {vs : List V} {ds : List D}, DpAll K G vs ds → DpAll K G' vs ds
  | _, _, .nil => .nil
  | _, _, .cons h r => .cons (dp_mono e h) (dpAll_mono e r)
end
end DL
namespace DL
open PySem PySem.Spec PyProof.Rows L2
structure WOk (c : Base) (w : Wd) : Prop where
  dS : ∀ a ∈ c.dk, a ∈ c.S
  SH : ∀ a ∈ c.S, c.H0 a ≠ none
  keep0 : ∀ a o, c.H0 a = some o → a ∉ c.dk → w.H a = some o
  free0 : ∀ a, w.H a = none → c.H0 a = none
  nkf : ∀ a ∈ w.nk, c.H0 a = none
  Of : ∀ a ∈ w.O, c.H0 a = none
  Oh : ∀ a ∈ w.O, w.H a ≠ none
  dis : ∀ a ∈ w.O, a ∉ w.nk
  deck : ∀ a ∈ c.dks w, ∃ vs, w.H a = some (.lst vs) ∧ c.DP w.fu (c.vis w) vs
  mono : ∀ (f f' : Nat) (G G' : Hp) vs, f' ≤ f → (∀ a o, G a = some o → G' a = some o) → c.DP f G vs → c.DP f' G' vs
  fb : w.fu ≤ 1152921504606846976
structure EnvOk (c : Base) (w : Wd) (σ : L2.St) (env : Env) : Prop where
  len : σ.length = env.length
  val : ∀ (i : Nat) (d : D), env[i]? = some (some (DV.val d)) → ∃ v, σ[i]? = some (some v) ∧ Rp c.K (c.dks w) (c.vis w) v d
  own : ∀ (i : Nat) (ds : List D), env[i]? = some (some (DV.own ds)) → ∃ p vs, σ[i]? = some (some (.ref p)) ∧ p ∈ w.O ∧ w.H p = some (.lst vs) ∧ RpAll c.K (c.dks w) (c.vis w) vs ds
  sep : ∀ (i j : Nat) (p : Addr) (es fs : List D), i ≠ j → env[i]? = some (some (DV.own es)) → env[j]? = some (some (DV.own fs)) → σ[i]? = some (some (.ref p)) → σ[j]? = some (some (.ref p)) → False
structure LE (c : Base) (w w' : Wd) : Prop where
  ex : ∀ a o, c.vis w a = some o → c.vis w' a = some o
  dk : ∀ a ∈ c.dks w, a ∈ c.dks w'
  fu : w'.fu ≤ w.fu
structure Grow (c : Base) (w w' : Wd) : Prop where
  O : w'.O = w.O
  fu : w'.fu ≤ w.fu
  keep : ∀ a o, w.H a = some o → a ∉ c.dks w → w'.H a = some o
  free : ∀ a, w'.H a = none → w.H a = none
  nk : ∃ n, w'.nk = n ++ w.nk ∧ ∀ a ∈ n, w.H a = none
  ok : WOk c w'
section
variable {c : Base} {w w' w1 w2 w3 : Wd} {σ : L2.St} {env : Env}
theorem LE.refl (c : Base) (w : Wd) : LE c w w := ⟨fun _ _ h => h, fun _ h => h, Nat.le_refl _⟩
theorem LE.trans (a : LE c w1 w2) (b : LE c w2 w3) : LE c w1 w3 := ⟨fun x o h => b.ex x o (a.ex x o h), fun x h => b.dk x (a.dk x h), Nat.le_trans b.fu a.fu⟩
theorem LE.rp (e : LE c w w') {v : V} {d : D} (h : Rp c.K (c.dks w) (c.vis w) v d) : Rp c.K (c.dks w') (c.vis w') v d := h.mono e.ex e.dk
theorem LE.rpAll (e : LE c w w') {v : List V} {d : List D} (h : RpAll c.K (c.dks w) (c.vis w) v d) : RpAll c.K (c.dks w') (c.vis w') v d := h.mono e.ex e.dk
theorem dks_hid (k : WOk c w) {a : Addr} (h : a ∈ c.dks w) : a ∈ c.hid w := by
  rcases List.mem_append.mp h with h | h
  · exact List.mem_append_right _ (List.mem_append_left _ h)
  · exact List.mem_append_right _ (List.mem_append_right _ (k.dS _ h))
theorem hid_there (k : WOk c w) {a : Addr} (h : a ∈ c.hid w) : w.H a ≠ none := by
  rcases List.mem_append.mp h with h | h
  · exact k.Oh _ h
  · rcases List.mem_append.mp h with h | h
    · obtain ⟨vs, e, _⟩ := k.deck a (List.mem_append_left _ h)
      rw [e]; intro z; cases z
    · exact fun z => k.SH _ h (k.free0 _ z)
theorem own_notdk (k : WOk c w) {a : Addr} (h : a ∈ w.O) : a ∉ c.dks w := fun z => by
  rcases List.mem_append.mp z with z | z
  · exact k.dis _ h z
  · exact k.SH _ (k.dS _ z) (k.Of _ h)
theorem Grow.refl (k : WOk c w) : Grow c w w := ⟨rfl, Nat.le_refl _, fun _ _ h _ => h, fun _ h => h, ⟨[], rfl, fun a h => by cases h⟩, k⟩
theorem Grow.dks (g : Grow c w w') : ∀ a ∈ c.dks w, a ∈ c.dks w' := fun a h => by
  obtain ⟨n, e, _⟩ := g.nk
  unfold Base.dks at h ⊢
  rw [e, List.append_assoc]
  exact List.mem_append_right _ h
theorem Grow.hidback (g : Grow c w w') {a : Addr} (h : a ∈ c.hid w') (n : w.H a ≠ none) : a ∈ c.hid w := by
  obtain ⟨k, e, hn⟩ := g.nk
  unfold Base.hid at h ⊢
  rw [g.O, e, List.append_assoc] at h
  rcases List.mem_append.mp h with h | h
  · exact List.mem_append_left _ h
  · rcases List.mem_append.mp h with h | h
    · exact absurd (hn _ h) n
    · exact List.mem_append_right _ h
theorem Grow.le (k : WOk c w) (g : Grow c w w') : LE c w w' := ⟨fun a o h => by
  obtain ⟨h1, h2⟩ := hide_some.mp h
  refine hide_some.mpr ⟨fun z => h1 (g.hidback z (by rw [h2]; intro q; cases q)), g.keep _ _ h2 fun z => h1 (dks_hid k z)⟩, g.dks, g.fu⟩
theorem Grow.trans (k : WOk c w1) (a : Grow c w1 w2) (b : Grow c w2 w3) : Grow c w1 w3 := by
  refine ⟨b.O.trans a.O, Nat.le_trans b.fu a.fu, fun x o h n => ?_, fun x h => a.free _ (b.free _ h), ?_, b.ok⟩
  · refine b.keep _ _ (a.keep _ _ h n) fun z => ?_
    obtain ⟨m, e, hm⟩ := a.nk
    unfold Base.dks at z n
    rw [e, List.append_assoc] at z
    rcases List.mem_append.mp z with z | z
    · rw [hm _ z] at h; cases h
    · exact n z
  · obtain ⟨m, e, hm⟩ := a.nk
    obtain ⟨m2, e2, hm2⟩ := b.nk
    refine ⟨m2 ++ m, by rw [e2, e, List.append_assoc], fun x h => ?_⟩
    rcases List.mem_append.mp h with h | h
    · exact a.free _ (hm2 _ h)
    · exact hm _ h
theorem EnvOk.le (E : EnvOk c w σ env) (e : LE c w w') (ho : ∀ p ∈ w.O, p ∈ w'.O ∧ w'.H p = w.H p) : EnvOk c w' σ env := by
  refine ⟨E.len, fun i d h => ?_, fun i ds h => ?_, E.sep⟩
  · obtain ⟨v, h1, h2⟩ := E.val i d h
    exact ⟨v, h1, e.rp h2⟩
  · obtain ⟨p, vs, h1, h2, h3, h4⟩ := E.own i ds h
    exact ⟨p, vs, h1, (ho p h2).1, by rw [(ho p h2).2]; exact h3, e.rpAll h4⟩
theorem EnvOk.grow (E : EnvOk c w σ env) (k : WOk c w) (g : Grow c w w') : EnvOk c w' σ env := by
  refine E.le (g.le k) fun p h => ⟨by rw [g.O]; exact h, ?_⟩
  cases e : w.H p with
  | none => exact absurd e (k.Oh _ h)
  | some o => exact g.keep _ _ e (own_notdk k h)
/-- a new object -/
theorem hide_ex {N : List Addr} {H : Hp} {p : Addr} {o : HO} (h : H p = none) : ∀ a u, hide N H a = some u → hide N (upd H p o) a = some u := fun a u e => by
  obtain ⟨h1, h2⟩ := hide_some.mp e
  exact hide_some.mpr ⟨h1, by rw [upd_ne (ne_of_none h2 h)]; exact h2⟩
theorem Grow.new (k : WOk c w) {p : Addr} {o : HO} (h : w.H p = none) : Grow c w { w with H := upd w.H p o } := by
  refine ⟨rfl, Nat.le_refl _, fun a u e _ => by show upd w.H p o a = _; rw [upd_ne (ne_of_none e h)]; exact e, fun a e => (show w.H a = none from ?_), ⟨[], rfl, fun a h => by cases h⟩, ?_⟩
  · by_cases z : a = p
    · subst z; exact h
    · have e' : upd w.H p o a = none := e
      rw [upd_ne z] at e'; exact e'
  · refine ⟨k.dS, k.SH, fun a u e n => ?_, fun a e => ?_, k.nkf, k.Of, fun a ha => ?_, k.dis, fun a ha => ?_, k.mono, k.fb⟩
    · have := k.keep0 _ _ e n
      show upd w.H p o a = _
      rw [upd_ne (ne_of_none this h)]; exact this
    · by_cases z : a = p
      · subst z; exact k.free0 _ h
      · have e' : upd w.H p o a = none := e
        rw [upd_ne z] at e'; exact k.free0 _ e'
    · have := k.Oh _ ha
      show upd w.H p o a ≠ none
      rw [upd_ne (fun z => this (by rw [z]; exact h))]; exact this
    · obtain ⟨vs, e1, e2⟩ := k.deck a ha
      refine ⟨vs, ?_, k.mono _ _ _ _ _ (Nat.le_refl _) (hide_ex h) e2⟩
      show upd w.H p o a = _
      rw [upd_ne (ne_of_none e1 h)]; exact e1
theorem vis_new (k : WOk c w) {p : Addr} {o : HO} (h : w.H p = none) : c.vis { w with H := upd w.H p o } p = some o := by
  refine hide_some.mpr ⟨fun z => ?_, upd_same⟩
  exact hid_there k (show p ∈ c.hid w from z) h
theorem vis_sub {a : Addr} {o : HO} (h : c.vis w a = some o) : w.H a = some o := (hide_some.mp h).2
theorem sqT_vis {a : Addr} {xs : List V} (h : SqT c.K (c.vis w) a xs) : SqT c.K w.H a xs := sqT_mono (fun _ _ => vis_sub) h
theorem sqL_vis {a : Addr} {xs : List V} (h : SqL c.K (c.vis w) a xs) : SqL c.K w.H a xs := sqL_mono (fun _ _ => vis_sub) h
theorem sqN_new (k : WOk c w) {p : Addr} {xs : List V} {ob : Obj} (h : w.H p = none) (hd : ob.dict = none) : SqN c.K (c.vis { w with H := upd w.H p (.frz ob (.tup xs)) }) p xs := .inl ⟨ob, vis_new k h, hd⟩
theorem sqL_new (k : WOk c w) {p : Addr} {xs : List V} (h : w.H p = none) : SqLt c.K (c.vis { w with H := upd w.H p (.lst xs) }) p xs := .inl (vis_new k h)
/-- owned no more -/
theorem LE.sub {O : List Addr} (h : ∀ a ∈ O, a ∈ w.O) : LE c w { w with O := O } := ⟨fun a o e => by
  obtain ⟨h1, h2⟩ := hide_some.mp e
  refine hide_some.mpr ⟨fun z => h1 ?_, h2⟩
  rcases List.mem_append.mp z with z | z
  · exact List.mem_append_left _ (h _ z)
  · exact List.mem_append_right _ z, fun _ h => h, Nat.le_refl _⟩
theorem WOk.sub (k : WOk c w) {O : List Addr} (h : ∀ a ∈ O, a ∈ w.O) : WOk c { w with O := O } :=
  ⟨k.dS, k.SH, k.keep0, k.free0, k.nkf, fun a m => k.Of a (h a m), fun a m => k.Oh a (h a m), fun a m => k.dis a (h a m), fun a ha => by
    obtain ⟨vs, e1, e2⟩ := k.deck a ha
    exact ⟨vs, e1, k.mono _ _ _ _ _ (Nat.le_refl _) (LE.sub (c := c) h).ex e2⟩, k.mono, k.fb⟩
/-- a change at what is owned -/
theorem vis_mut {p : Addr} {o : HO} (h : p ∈ w.O) : c.vis { w with H := upd w.H p o } = c.vis w := by
  funext a
  show hide (c.hid w) (upd w.H p o) a = hide (c.hid w) w.H a
  unfold hide
  by_cases z : a ∈ c.hid w
  · rw [if_pos z, if_pos z]
  · rw [if_neg z, if_neg z, upd_ne (fun q => z (by rw [q]; exact List.mem_append_left _ h))]
theorem WOk.mut (k : WOk c w) {p : Addr} {o : HO} (h : p ∈ w.O) : WOk c { w with H := upd w.H p o } := by
  have hn := own_notdk k h
  refine ⟨k.dS, k.SH, fun a u e n => ?_, fun a e => ?_, k.nkf, k.Of, fun a ha => ?_, k.dis, fun a ha => ?_, k.mono, k.fb⟩
  · show upd w.H p o a = _
    rw [upd_ne (fun z => by rw [z, k.Of _ h] at e; cases e)]; exact k.keep0 _ _ e n
  · by_cases z : a = p
    · subst z; exact k.Of _ h
    · have e' : upd w.H p o a = none := e
      rw [upd_ne z] at e'; exact k.free0 _ e'
  · show upd w.H p o a ≠ none
    by_cases z : a = p
    · subst z; rw [upd_same]; intro q; cases q
    · rw [upd_ne z]; exact k.Oh _ ha
  · obtain ⟨vs, e1, e2⟩ := k.deck a ha
    refine ⟨vs, ?_, ?_⟩
    · show upd w.H p o a = _
      rw [upd_ne (fun z => hn (by rw [← z]; exact ha))]; exact e1
    · show c.DP w.fu (c.vis { w with H := upd w.H p o }) vs
      rw [vis_mut h]; exact e2
end
end DL
namespace DL
open PySem PySem.Spec PyProof.Rows L2
abbrev RpW (c : Base) (w : Wd) (v : V) (d : D) : Prop := Rp c.K (c.dks w) (c.vis w) v d
abbrev RpsW (c : Base) (w : Wd) (v : List V) (d : List D) : Prop := RpAll c.K (c.dks w) (c.vis w) v d
structure At (c : Base) (σ : L2.St) (H : Hp) (w : Wd) (env : Env) : Prop where
  h : w.H = H
  ok : WOk c w
  env : EnvOk c w σ env
structure ErOk (c : Base) (w : Wd) (cls : Value) (dd : Option Addr) (er : Er) : Prop where
  cls : c.mg er.cls = some cls
  none : er.fs = [] → dd = none
  one : ∀ n d, er.fs = [(n, d)] → ∃ p v, dd = some p ∧ w.H p = some (.xd [(n, v)]) ∧ RpW c w v d
def EK (c : Base) (W : WX) (σ : L2.St) (w : Wd) : Nat → Er → Prop := fun fu er => ∀ cls dd w', w'.fu = fu → Grow c w w' → ErOk c w' cls dd er → W cls dd σ w'.H
abbrev PQ (c : Base) (w : Wd) (Q : VK) : Nat → D → Prop := fun fu d => ∀ v w', w'.fu = fu → Grow c w w' → RpW c w' v d → Q v w'.H
def liftE (c : Base) (W : WX) (f : Env → R D) : TE := fun σ H Q => ∃ w env, At c σ H w env ∧ (f env).wp w.fu (PQ c w Q) (EK c W σ w)
def liftT (c : Base) (W : WX) (f : Env → R Bool) : TT := fun σ H Q => ∃ w env, At c σ H w env ∧ (f env).wp w.fu (fun fu d => ∀ w', w'.fu = fu → Grow c w w' → Q d w'.H) (EK c W σ w)
def liftA (c : Base) (W : WX) (f : Env → R (List D)) : TA := fun σ H Q => ∃ w env, At c σ H w env ∧ (f env).wp w.fu (fun fu d => ∀ v w', w'.fu = fu → Grow c w w' → RpsW c w' v d → Q v w'.H) (EK c W σ w)
/-- a new list, the place's own -/
def liftL (c : Base) (W : WX) (f : Env → R (List D)) : TE := fun σ H Q => ∃ w env, At c σ H w env ∧
  (f env).wp w.fu (fun fu ds => ∀ p vs w', w'.fu = fu → w'.O = p :: w.O → w.H p = none → w'.H p = some (.lst vs) → WOk c w' → Grow c w { w' with O := w.O } → RpsW c w' vs ds → Q (.ref p) w'.H) (EK c W σ w)
section
variable {X : Cx} {c : Base} {W : WX} {w w' w1 w2 : Wd} {σ : L2.St} {env : Env}
theorem EK.grow (k : WOk c w) (g : Grow c w w1) {fu : Nat} {er : Er} (h : EK c W σ w fu er) : EK c W σ w1 fu er := fun cls dd w' e1 g' e => h cls dd w' e1 (g.trans k g') e
theorem PQ.grow (k : WOk c w) (g : Grow c w w1) {Q : VK} {fu : Nat} {d : D} (h : PQ c w Q fu d) : PQ c w1 Q fu d := fun v w' e1 g' r => h v w' e1 (g.trans k g') r
theorem At.grow {H : Hp} (a : At c σ H w env) (g : Grow c w w1) : At c σ w1.H w1 env := ⟨rfl, g.ok, a.env.grow a.ok g⟩
theorem pe_imp {e : Expr} {t t' : TE} (h : PE X e t) (i : ∀ σ H Q, t' σ H Q → t σ H Q) : PE X e t' := ⟨fun pins s σ H Q I q => h.run pins s σ H Q I (i _ _ _ q)⟩
theorem pt_imp {e : Expr} {t t' : TT} (h : PT X e t) (i : ∀ σ H Q, t' σ H Q → t σ H Q) : PT X e t' := ⟨fun pins s σ H Q I q => h.run pins s σ H Q I (i _ _ _ q)⟩
theorem pa_imp {e : List Expr} {t t' : TA} (h : PA X e t) (i : ∀ σ H Q, t' σ H Q → t σ H Q) : PA X e t' := ⟨fun pos pins s σ H Q I q => h.run pos pins s σ H Q I (i _ _ _ q)⟩
theorem ps_imp {e : Stmt} {t t' : TS} (h : PS X e t) (i : ∀ D σ H, t' D σ H → t D σ H) : PS X e t' := ⟨fun pins s σ H D I q => h.run pins s σ H D I (i _ _ _ q)⟩
theorem pss_imp {e : List Stmt} {t t' : TS} (h : PSs X e t) (i : ∀ D σ H, t' D σ H → t D σ H) : PSs X e t' := ⟨fun pins s σ H D I q => h.run pins s σ H D I (i _ _ _ q)⟩
/-- the first part of a reading -/
theorem liftE.use {f : Env → R D} {g : D → R D} {H : Hp} {Q : VK} (a : At c σ H w env) (h : ((f env).bind g).wp w.fu (PQ c w Q) (EK c W σ w)) {B : VK}
    (k : ∀ x v w1, Grow c w w1 → RpW c w1 v x → (g x).wp w1.fu (PQ c w1 Q) (EK c W σ w1) → B v w1.H) : liftE c W f σ H B := by
  refine ⟨w, env, a, R.wp_mono ((R.wp_bind _ _ _ _ _).mp h) (fun fu x hx v w1 e1 g1 r1 => ?_) fun _ _ h => h⟩
  subst e1
  exact k x v w1 g1 r1 (R.wp_mono hx (fun _ _ q => q.grow a.ok g1) fun _ _ q => q.grow a.ok g1)

def OpAt (c : Base) (r : R2) (g : D → D → R D) : Prop := ∀ (W : WX) (σ : L2.St) (w : Wd) (x y : D) (v u : V) (Q : VK), WOk c w → RpW c w v x → RpW c w u y → (g x y).wp w.fu (PQ c w Q) (EK c W σ w) → r v u w.H Q
def UnAt (c : Base) (r : V → Hp → VK → Prop) (g : D → R D) : Prop := ∀ (W : WX) (σ : L2.St) (w : Wd) (x : D) (v : V) (Q : VK), WOk c w → RpW c w v x → (g x).wp w.fu (PQ c w Q) (EK c W σ w) → r v w.H Q
def CallAt (c : Base) (r : List V → Hp → VK → Prop) (g : List D → R D) : Prop := ∀ (W : WX) (σ : L2.St) (w : Wd) (x : List D) (v : List V) (Q : VK), WOk c w → RpsW c w v x → (g x).wp w.fu (PQ c w Q) (EK c W σ w) → r v w.H Q
def OpD (r : R2) (g : D → D → R D) : Prop := ∀ c, OpAt c r g
def UnD (r : V → Hp → VK → Prop) (g : D → R D) : Prop := ∀ c, UnAt c r g
def CallD (r : List V → Hp → VK → Prop) (g : List D → R D) : Prop := ∀ c, CallAt c r g
end
end DL
namespace DL
open PySem PySem.Spec PyProof.Rows L2
def varD (i : Nat) : Env → R D := fun env => match env[i]? with
  | some (some (.val d)) => .ret d
  | _ => .bad
def cD (d : D) : Env → R D := fun _ => .ret d
def bin (g : D → D → R D) (fa fb : Env → R D) : Env → R D := fun env => (fa env).bind fun x => (fb env).bind fun y => g x y
def un (g : D → R D) (fa : Env → R D) : Env → R D := fun env => (fa env).bind g
def asB : D → R Bool
  | .bool b => .ret b
  | _ => .bad
/-- by truth -/
def truD : D → R Bool
  | .none => .ret false
  | .bool b => .ret b
  | .int i => .ret (i != 0)
  | .str y => guard' (decide (y.length ≤ 16777216)) (.ret ((y.length : Int) != 0))
  | .list ds => .ret (!ds.isEmpty)
  | .tuple ds => .ret (!ds.isEmpty)
  | .dict ds => match ds with
    | [] => .ret false
    | (.int _, _) :: _ => .ret true
    | (.str _, _) :: _ => .ret true
    | _ => .bad
def chainD (g g' : D → D → R D) (fa fb fc : Env → R D) : Env → R D := fun env => (fa env).bind fun x => (fb env).bind fun y => (g x y).bind fun z => (asB z).bind fun k =>
  if k = true then (fc env).bind fun u => g' y u else .ret (.bool false)
def andD (fa fb : Env → R D) : Env → R D := fun env => (fa env).bind fun x => (truD x).bind fun k => if k = true then fb env else .ret x
def orD (fa fb : Env → R D) : Env → R D := fun env => (fa env).bind fun x => (truD x).bind fun k => if k = true then .ret x else fb env
def notD (fa : Env → R D) : Env → R D := fun env => (fa env).bind fun x => (truD x).bind fun k => .ret (.bool (!k))
def ifD (ft : Env → R Bool) (fa fb : Env → R D) : Env → R D := fun env => (ft env).bind fun k => if k = true then fa env else fb env
def truT (fa : Env → R D) : Env → R Bool := fun env => (fa env).bind truD
def andT (fa fb : Env → R Bool) : Env → R Bool := fun env => (fa env).bind fun k => if k = true then fb env else .ret false
def orT (fa fb : Env → R Bool) : Env → R Bool := fun env => (fa env).bind fun k => if k = true then .ret true else fb env
def notT (fa : Env → R Bool) : Env → R Bool := fun env => (fa env).bind fun k => .ret (!k)
def nilA : Env → R (List D) := fun _ => .ret []
def consA (fa : Env → R D) (fr : Env → R (List D)) : Env → R (List D) := fun env => (fa env).bind fun x => (fr env).bind fun r => .ret (x :: r)
def tupD (fr : Env → R (List D)) : Env → R D := fun env => (fr env).bind fun ds => guard' (decide (ds.length ≤ 16777216)) (.ret (.tuple ds))
def dispL (fr : Env → R (List D)) : Env → R (List D) := fun env => (fr env).bind fun ds => guard' (decide (ds.length ≤ 16777216)) (.ret ds)
def lstD (f : Env → R (List D)) : Env → R D := fun env => (f env).bind fun ds => .ret (.list ds)
def callD (g : List D → R D) (fr : Env → R (List D)) : Env → R D := fun env => (fr env).bind g
theorem line_eq {n : Nat} : n ≤ sizeLine ↔ n ≤ 16777216 := by rw [sizeLine_eq]
theorem guard_line {n : Nat} {α : Type} {m : R α} {fu : Nat} {Q : Nat → α → Prop} {E : Nat → Er → Prop} (h : (guard' (decide (n ≤ 16777216)) m).wp fu Q E) : n ≤ sizeLine ∧ m.wp fu Q E := by
  obtain ⟨h1, h2⟩ := wp_guard.mp h
  exact ⟨line_eq.mpr (of_decide_eq_true h1), h2⟩
section
variable {X : Cx} {c : Base} {W : WX} {w w' w1 w2 : Wd} {σ : L2.St} {env : Env} {e a b d : Expr} {fa fb fc : Env → R D} {ft fu : Env → R Bool} {fr : Env → R (List D)} {pos : Pos} {rest : List Expr}
theorem liftE.go {f : Env → R D} {H : Hp} {B : VK} (at' : At c σ H w env) (h : (f env).wp w.fu (PQ c w B) (EK c W σ w)) : liftE c W f σ H B := ⟨w, env, at', h⟩
theorem wp_b {α β : Type} {m : R α} {f : α → R β} {fu : Nat} {Q : Nat → β → Prop} {E : Nat → Er → Prop} (h : (m.bind f).wp fu Q E) : m.wp fu (fun fu a => (f a).wp fu Q E) E := (R.wp_bind _ _ _ _ _).mp h
theorem de_var {i : Nat} (h : PE X e (tVar i)) : PE X e (liftE c W (varD i)) := pe_imp h fun σ H Q ⟨w, env, a, q⟩ => by
  unfold varD at q
  split at q
  · rename_i d hd
    obtain ⟨v, h1, h2⟩ := a.env.val _ _ hd
    exact ⟨v, h1, by rw [← a.h]; exact q v w rfl (Grow.refl a.ok) h2⟩
  · exact q.elim
theorem de_c {v : V} {d : D} (h : PE X e (tC v)) (r : ∀ w, RpW c w v d) : PE X e (liftE c W (cD d)) := pe_imp h fun σ H Q ⟨w, env, a, q⟩ => by
  show Q v H
  rw [← a.h]
  exact q v w rfl (Grow.refl a.ok) (r w)
theorem de_int {i : Int} (h : PE X e (tC (.int i))) : PE X e (liftE c W (cD (.int i))) := de_c h fun _ => .int i
theorem de_bl {i : Bool} (h : PE X e (tC (.bl i))) : PE X e (liftE c W (cD (.bool i))) := de_c h fun _ => .bl i
theorem de_non (h : PE X e (tC .non)) : PE X e (liftE c W (cD .none)) := de_c h fun _ => .non
theorem de_str {i : Str} (h : PE X e (tC (.str i))) : PE X e (liftE c W (cD (.str i))) := de_c h fun _ => .str i
/-- the step behind the first part -/
theorem step {f : Env → R D} {g : D → R D} {H : Hp} {Q B : VK} (a : At c σ H w env) (h : ((f env).bind g).wp w.fu (PQ c w Q) (EK c W σ w))
    (k : ∀ x v w1, Grow c w w1 → RpW c w1 v x → (g x).wp w1.fu (PQ c w1 Q) (EK c W σ w1) → B v w1.H) : liftE c W f σ H B := liftE.use a h k
theorem stepT {f : Env → R Bool} {g : Bool → R D} {H : Hp} {Q : VK} {B : Bool → Hp → Prop} (a : At c σ H w env) (h : ((f env).bind g).wp w.fu (PQ c w Q) (EK c W σ w))
    (k : ∀ x w1, Grow c w w1 → (g x).wp w1.fu (PQ c w1 Q) (EK c W σ w1) → B x w1.H) : liftT c W f σ H B := by
  refine ⟨w, env, a, R.wp_mono (wp_b h) (fun fu x hx w1 e1 g1 => ?_) fun _ _ h => h⟩
  subst e1
  exact k x w1 g1 (R.wp_mono hx (fun _ _ q => q.grow a.ok g1) fun _ _ q => q.grow a.ok g1)
abbrev BQ (c : Base) (w : Wd) (Q : Bool → Hp → Prop) : Nat → Bool → Prop := fun fu d => ∀ w', w'.fu = fu → Grow c w w' → Q d w'.H
theorem BQ.grow (k : WOk c w) (g : Grow c w w1) {Q : Bool → Hp → Prop} {fu : Nat} {d : Bool} (h : BQ c w Q fu d) : BQ c w1 Q fu d := fun w' e1 g' => h w' e1 (g.trans k g')
theorem stepET {f : Env → R D} {g : D → R Bool} {H : Hp} {Q : Bool → Hp → Prop} {B : VK} (a : At c σ H w env) (h : ((f env).bind g).wp w.fu (BQ c w Q) (EK c W σ w))
    (k : ∀ x v w1, Grow c w w1 → RpW c w1 v x → (g x).wp w1.fu (BQ c w1 Q) (EK c W σ w1) → B v w1.H) : liftE c W f σ H B := by
  refine ⟨w, env, a, R.wp_mono (wp_b h) (fun fu x hx v w1 e1 g1 r1 => ?_) fun _ _ h => h⟩
  subst e1
  exact k x v w1 g1 r1 (R.wp_mono hx (fun _ _ q => q.grow a.ok g1) fun _ _ q => q.grow a.ok g1)
theorem stepTT {f : Env → R Bool} {g : Bool → R Bool} {H : Hp} {Q B : Bool → Hp → Prop} (a : At c σ H w env) (h : ((f env).bind g).wp w.fu (BQ c w Q) (EK c W σ w))
    (k : ∀ x w1, Grow c w w1 → (g x).wp w1.fu (BQ c w1 Q) (EK c W σ w1) → B x w1.H) : liftT c W f σ H B := by
  refine ⟨w, env, a, R.wp_mono (wp_b h) (fun fu x hx w1 e1 g1 => ?_) fun _ _ h => h⟩
  subst e1
  exact k x w1 g1 (R.wp_mono hx (fun _ _ q => q.grow a.ok g1) fun _ _ q => q.grow a.ok g1)
abbrev AQ (c : Base) (w : Wd) (Q : List V → Hp → Prop) : Nat → List D → Prop := fun fu d => ∀ v w', w'.fu = fu → Grow c w w' → RpsW c w' v d → Q v w'.H
theorem AQ.grow (k : WOk c w) (g : Grow c w w1) {Q : List V → Hp → Prop} {fu : Nat} {d : List D} (h : AQ c w Q fu d) : AQ c w1 Q fu d := fun v w' e1 g' r => h v w' e1 (g.trans k g') r
theorem stepEA {f : Env → R D} {g : D → R (List D)} {H : Hp} {Q : List V → Hp → Prop} {B : VK} (a : At c σ H w env) (h : ((f env).bind g).wp w.fu (AQ c w Q) (EK c W σ w))
    (k : ∀ x v w1, Grow c w w1 → RpW c w1 v x → (g x).wp w1.fu (AQ c w1 Q) (EK c W σ w1) → B v w1.H) : liftE c W f σ H B := by
  refine ⟨w, env, a, R.wp_mono (wp_b h) (fun fu x hx v w1 e1 g1 r1 => ?_) fun _ _ h => h⟩
  subst e1
  exact k x v w1 g1 r1 (R.wp_mono hx (fun _ _ q => q.grow a.ok g1) fun _ _ q => q.grow a.ok g1)
theorem stepAA {f : Env → R (List D)} {g : List D → R (List D)} {H : Hp} {Q B : List V → Hp → Prop} (a : At c σ H w env) (h : ((f env).bind g).wp w.fu (AQ c w Q) (EK c W σ w))
    (k : ∀ x v w1, Grow c w w1 → RpsW c w1 v x → (g x).wp w1.fu (AQ c w1 Q) (EK c W σ w1) → B v w1.H) : liftA c W f σ H B := by
  refine ⟨w, env, a, R.wp_mono (wp_b h) (fun fu x hx v w1 e1 g1 r1 => ?_) fun _ _ h => h⟩
  subst e1
  exact k x v w1 g1 r1 (R.wp_mono hx (fun _ _ q => q.grow a.ok g1) fun _ _ q => q.grow a.ok g1)
theorem stepAE {f : Env → R (List D)} {g : List D → R D} {H : Hp} {Q : VK} {B : List V → Hp → Prop} (a : At c σ H w env) (h : ((f env).bind g).wp w.fu (PQ c w Q) (EK c W σ w))
    (k : ∀ x v w1, Grow c w w1 → RpsW c w1 v x → (g x).wp w1.fu (PQ c w1 Q) (EK c W σ w1) → B v w1.H) : liftA c W f σ H B := by
  refine ⟨w, env, a, R.wp_mono (wp_b h) (fun fu x hx v w1 e1 g1 r1 => ?_) fun _ _ h => h⟩
  subst e1
  exact k x v w1 g1 r1 (R.wp_mono hx (fun _ _ q => q.grow a.ok g1) fun _ _ q => q.grow a.ok g1)
/-- two parts, then an operation -/
theorem tOp_of {r : R2} {g : D → D → R D} (hg : OpAt c r g) : ∀ σ H Q, liftE c W (bin g fa fb) σ H Q → tOp r (liftE c W fa) (liftE c W fb) σ H Q := fun σ H Q ⟨w, env, a, q⟩ =>
  step a q fun x v w1 g1 r1 q1 => step (a.grow g1) q1 fun y u w2 g2 r2 q2 => hg W σ w2 x y v u Q g2.ok ((g2.le g1.ok).rp r1) r2 q2
theorem de_op {op : Operator} {r : R2} {g : D → D → R D} (ho : OpR X (binaryOp op) r) (hg : OpAt c r g) (ha : PE X a (liftE c W fa)) (hb : PE X b (liftE c W fb)) : PE X (.BinOp a op b pos) (liftE c W (bin g fa fb)) :=
  pe_imp (pe_op ho ha hb) (tOp_of hg)
theorem de_un {op : UnaryOp} {r : V → Hp → VK → Prop} {g : D → R D} (ho : UnR X (unaryOp op) r) (hg : UnAt c r g) (ha : PE X a (liftE c W fa)) : PE X (.UnaryOp op a pos) (liftE c W (un g fa)) :=
  pe_imp (pe_un ho ha) fun σ H Q ⟨w, env, a, q⟩ => step a q fun x v w1 g1 r1 q1 => hg W σ w1 x v Q g1.ok r1 q1
theorem de_cmp {op : CmpOp} {r : R2} {g : D → D → R D} (ho : OpR X (compareOp op) r) (hg : OpAt c r g) (ha : PE X a (liftE c W fa)) (hb : PE X b (liftE c W fb)) (hm : behindInMarks op b = false) : PE X (.Compare a [op] [b] pos) (liftE c W (bin g fa fb)) :=
  pe_imp (pe_cmpR ho ha hb hm) (tOp_of hg)
theorem de_ix {r : R2} {g : D → D → R D} (ho : IxR X r) (hg : OpAt c r g) (ha : PE X a (liftE c W fa)) (hb : PE X b (liftE c W fb)) (hs : PlainIx b) : PE X (.Subscript a b pos) (liftE c W (bin g fa fb)) :=
  pe_imp (pe_ix ho ha hb hs) (tOp_of hg)
theorem asB_wp {x : D} {v : V} {fu : Nat} {Q : Nat → Bool → Prop} {E : Nat → Er → Prop} (r : RpW c w v x) (h : (asB x).wp fu Q E) : ∃ k, v = .bl k ∧ Q fu k := by
  cases x with
  | bool b => exact ⟨b, r.isBl, h⟩
  | _ => exact h.elim
theorem tChain_of {r r' : R2} {g g' : D → D → R D} (hg : OpAt c r g) (hg' : OpAt c r' g') : ∀ σ H Q, liftE c W (chainD g g' fa fb fc) σ H Q → tChain r r' (liftE c W fa) (liftE c W fb) (liftE c W fc) σ H Q := fun σ H Q ⟨w, env, a, q⟩ => by
  refine step a q fun x v w1 g1 r1 q1 => step (a.grow g1) q1 fun y u w2 g2 r2 q2 => ?_
  refine hg W σ w2 x y v u _ g2.ok ((g2.le g1.ok).rp r1) r2 (R.wp_mono (wp_b q2) (fun fu z hz z' w3 e1 g3 r3 => ?_) fun _ _ h => h)
  subst e1
  obtain ⟨k, e, q3⟩ := asB_wp r3 (wp_b hz)
  refine ⟨k, e, ?_⟩
  have a3 := ((a.grow g1).grow g2).grow g3
  cases k with
  | true =>
    rw [if_pos rfl] at q3 ⊢
    have q3' := R.wp_mono q3 (fun _ _ q => PQ.grow g2.ok g3 q) fun _ _ q => EK.grow g2.ok g3 q
    exact step a3 q3' fun t t' w4 g4 r4 q4 => hg' W σ w4 y t u t' Q g4.ok ((g4.le g3.ok).rp ((g3.le g2.ok).rp r2)) r4 q4
  | false =>
    rw [if_neg (by decide)] at q3 ⊢
    exact q3 _ w3 rfl g3 (.bl false)
theorem de_chain {op op' : CmpOp} {r r' : R2} {g g' : D → D → R D} (ho : OpR X (compareOp op) r) (ho' : OpR X (compareOp op') r') (hg : OpAt c r g) (hg' : OpAt c r' g') (ha : PE X a (liftE c W fa)) (hb : PE X b (liftE c W fb)) (hc : PE X d (liftE c W fc))
    (hm : lastMarks [op, op'] [b, d] = false := by with_unfolding_all rfl) : PE X (.Compare a [op, op'] [b, d] pos) (liftE c W (chainD g g' fa fb fc)) := pe_imp (pe_chain ho ho' ha hb hc hm) (tChain_of hg hg')
theorem rpEmpty {K : PySem.W.Frag} {dk : List Addr} {G : Hp} {vs : List V} {ds : List D} (h : RpAll K dk G vs ds) : vs.isEmpty = ds.isEmpty := by cases h <;> rfl
theorem truV_of {x : D} {v : V} {fu : Nat} {Q : Nat → Bool → Prop} {E : Nat → Er → Prop} (hK : c.K = X.K) (r : RpW c w v x) (h : (truD x).wp fu Q E) : ∃ k, TruV X.K v w.H k ∧ Q fu k := by
  rw [← hK]
  cases r with
  | non => exact ⟨false, rfl, h⟩
  | bl b => exact ⟨b, rfl, h⟩
  | int i => exact ⟨_, rfl, h⟩
  | str y =>
    obtain ⟨h1, h2⟩ := guard_line h
    exact ⟨_, ⟨h1, rfl⟩, h2⟩
  | tup h1 h2 =>
    refine ⟨_, .inr (.inl ⟨_, sqT_vis h1.sqT, rfl⟩), ?_⟩
    rw [rpEmpty h2]; exact h
  | lst h1 h2 =>
    refine ⟨_, .inl ⟨_, sqL_vis h1.sqL, rfl⟩, ?_⟩
    rw [rpEmpty h2]; exact h
  | dct h1 h2 =>
    refine ⟨_, .inr (.inr ⟨_, vis_sub h1, rfl⟩), ?_⟩
    cases h2 with
    | nil => exact h
    | @cons k _ _ _ _ _ _ => cases k <;> exact h
  | deck h1 => exact h.elim
  | scr h1 => exact h.elim
theorem de_and (hK : c.K = X.K) (ha : PE X a (liftE c W fa)) (hb : PE X (.BoolOp .And (b :: rest) pos) (liftE c W fb)) : PE X (.BoolOp .And (a :: b :: rest) pos) (liftE c W (andD fa fb)) := by
  refine pe_imp (pe_andT ha hb) fun σ H Q ⟨w, env, a, q⟩ => step a q fun x v w1 g1 r1 q1 => ?_
  obtain ⟨k, h1, h2⟩ := truV_of hK r1 (wp_b q1)
  refine ⟨k, h1, ?_⟩
  cases k with
  | true => rw [if_pos rfl] at h2 ⊢; exact ⟨w1, env, a.grow g1, h2⟩
  | false => rw [if_neg (by decide)] at h2 ⊢; exact h2 v w1 rfl (Grow.refl g1.ok) r1
theorem de_or (hK : c.K = X.K) (ha : PE X a (liftE c W fa)) (hb : PE X (.BoolOp .Or (b :: rest) pos) (liftE c W fb)) : PE X (.BoolOp .Or (a :: b :: rest) pos) (liftE c W (orD fa fb)) := by
  refine pe_imp (pe_orT ha hb) fun σ H Q ⟨w, env, a, q⟩ => step a q fun x v w1 g1 r1 q1 => ?_
  obtain ⟨k, h1, h2⟩ := truV_of hK r1 (wp_b q1)
  refine ⟨k, h1, ?_⟩
  cases k with
  | true => rw [if_pos rfl] at h2 ⊢; exact h2 v w1 rfl (Grow.refl g1.ok) r1
  | false => rw [if_neg (by decide)] at h2 ⊢; exact ⟨w1, env, a.grow g1, h2⟩
theorem de_one {op} (ha : PE X a (liftE c W fa)) : PE X (.BoolOp op [a] pos) (liftE c W fa) := pe_one ha
theorem de_not (hK : c.K = X.K) (ha : PE X a (liftE c W fa)) : PE X (.UnaryOp .Not a pos) (liftE c W (notD fa)) := by
  refine pe_imp (pe_notT ha) fun σ H Q ⟨w, env, a, q⟩ => step a q fun x v w1 g1 r1 q1 => ?_
  obtain ⟨k, h1, h2⟩ := truV_of hK r1 (wp_b q1)
  exact ⟨k, h1, h2 _ w1 rfl (Grow.refl g1.ok) (.bl _)⟩
theorem de_if (hc : PT X d (liftT c W ft)) (ha : PE X a (liftE c W fa)) (hb : PE X b (liftE c W fb)) : PE X (.IfExp d a b pos) (liftE c W (ifD ft fa fb)) := by
  refine pe_imp (pe_ifExp hc ha hb) fun σ H Q ⟨w, env, a, q⟩ => stepT a q fun k w1 g1 q1 => ?_
  cases k with
  | true => rw [if_pos rfl] at q1 ⊢; exact ⟨w1, env, a.grow g1, q1⟩
  | false => rw [if_neg (by decide)] at q1 ⊢; exact ⟨w1, env, a.grow g1, q1⟩
/-- tests -/
theorem dt_tru (hK : c.K = X.K) (ha : PE X a (liftE c W fa)) (he : ∀ whole, isTrue a X.env whole = (do let v ← whole; standAt a.pos; holding [v] (truthy v)) := by intro _; rfl) : PT X a (liftT c W (truT fa)) := by
  refine pt_imp (pt_truth ha he) fun σ H Q ⟨w, env, a, q⟩ => stepET a q fun x v w1 g1 r1 q1 => ?_
  obtain ⟨k, h1, h2⟩ := truV_of hK r1 q1
  exact ⟨k, h1, h2 w1 rfl (Grow.refl g1.ok)⟩
def blT (fa : Env → R D) : Env → R Bool := fun env => (fa env).bind asB
theorem tTest_of {H : Hp} {Q : Bool → Hp → Prop} {t : TE} (h : liftT c W (blT fa) σ H Q) : liftE c W fa σ H (fun x H' => ∃ k, x = .bl k ∧ Q k H') := by
  obtain ⟨w, env, a, q⟩ := h
  refine stepET a q fun x v w1 g1 r1 q1 => ?_
  obtain ⟨k, e, h⟩ := asB_wp r1 q1
  exact ⟨k, e, h w1 rfl (Grow.refl g1.ok)⟩
theorem dt_cmp {op : CmpOp} {r : R2} {g : D → D → R D} (ho : OpR X (compareOp op) r) (hg : OpAt c r g) (ha : PE X a (liftE c W fa)) (hb : PE X b (liftE c W fb)) (hm : behindInMarks op b = false) : PT X (.Compare a [op] [b] pos) (liftT c W (blT (bin g fa fb))) :=
  pt_imp (pt_cmpR ho ha hb hm) fun σ H Q h => tOp_of hg σ H _ (tTest_of (t := fun _ _ _ => True) h)
theorem dt_chain {op op' : CmpOp} {r r' : R2} {g g' : D → D → R D} (ho : OpR X (compareOp op) r) (ho' : OpR X (compareOp op') r') (hg : OpAt c r g) (hg' : OpAt c r' g') (ha : PE X a (liftE c W fa)) (hb : PE X b (liftE c W fb)) (hc : PE X d (liftE c W fc))
    (hm : lastMarks [op, op'] [b, d] = false := by with_unfolding_all rfl) : PT X (.Compare a [op, op'] [b, d] pos) (liftT c W (blT (chainD g g' fa fb fc))) := pt_imp (pt_chain ho ho' ha hb hc hm) fun σ H Q h => tChain_of hg hg' σ H _ (tTest_of (t := fun _ _ _ => True) h)
theorem dt_not (ha : PT X a (liftT c W ft)) : PT X (.UnaryOp .Not a pos) (liftT c W (notT ft)) :=
  pt_imp (pt_not ha) fun σ H Q ⟨w, env, a, q⟩ => stepTT a q fun k w1 g1 q1 => q1 w1 rfl (Grow.refl g1.ok)
theorem pw_imp {e : Expr} {t t' : TT} (h : PW X e t) (i : ∀ σ H Q, t' σ H Q → t σ H Q) : PW X e t' := ⟨fun wh pins s σ H Q I q => h.run wh pins s σ H Q I (i _ _ _ q)⟩
theorem dw_and (ha : PT X a (liftT c W ft)) (hb : PW X (.BoolOp .And (b :: rest) pos) (liftT c W fu)) : PW X (.BoolOp .And (a :: b :: rest) pos) (liftT c W (andT ft fu)) := by
  refine pw_imp (pw_and ha hb) fun σ H Q ⟨w, env, a, q⟩ => stepTT a q fun k w1 g1 q1 => ?_
  cases k with
  | true => rw [if_pos rfl] at q1 ⊢; exact ⟨w1, env, a.grow g1, q1⟩
  | false => rw [if_neg (by decide)] at q1 ⊢; exact q1 w1 rfl (Grow.refl g1.ok)
theorem dw_or (ha : PT X a (liftT c W ft)) (hb : PW X (.BoolOp .Or (b :: rest) pos) (liftT c W fu)) : PW X (.BoolOp .Or (a :: b :: rest) pos) (liftT c W (orT ft fu)) := by
  refine pw_imp (pw_or ha hb) fun σ H Q ⟨w, env, a, q⟩ => stepTT a q fun k w1 g1 q1 => ?_
  cases k with
  | true => rw [if_pos rfl] at q1 ⊢; exact q1 w1 rfl (Grow.refl g1.ok)
  | false => rw [if_neg (by decide)] at q1 ⊢; exact ⟨w1, env, a.grow g1, q1⟩
theorem dw_and1 (ha : PT X a (liftT c W ft)) : PW X (.BoolOp .And [a] pos) (liftT c W ft) := pw_and1 ha
theorem dw_or1 (ha : PT X a (liftT c W ft)) : PW X (.BoolOp .Or [a] pos) (liftT c W ft) := pw_or1 ha
/-- arguments -/
theorem da_nil : PA X [] (liftA c W nilA) := pa_imp pa_nil fun σ H Q ⟨w, env, a, q⟩ => by
  show Q [] H
  rw [← a.h]
  exact q [] w rfl (Grow.refl a.ok) .nil
theorem da_cons (ha : PE X a (liftE c W fa)) (hr : PA X rest (liftA c W fr)) (hs : starEach (a :: rest) X.env = (false, eval a X.env) :: starEach rest X.env := by rfl) : PA X (a :: rest) (liftA c W (consA fa fr)) :=
  pa_imp (pa_cons ha hr hs) fun σ H Q ⟨w, env, a, q⟩ => stepEA a q fun x v w1 g1 r1 q1 => stepAA (a.grow g1) q1 fun xs vs w2 g2 r2 q2 => q2 _ w2 rfl (Grow.refl g2.ok) (.cons ((g2.le g1.ok).rp r1) r2)
/-- displays -/
theorem de_tup {x1} (h : PA X rest (liftA c W fr)) : PE X (.Tuple rest x1 pos) (liftE c W (tupD fr)) := by
  refine pe_imp (J.pe_tupF h) fun σ H Q ⟨w, env, a, q⟩ => stepAE a q fun xs vs w1 g1 r1 q1 => ?_
  obtain ⟨h1, h2⟩ := guard_line q1
  refine ⟨by rw [r1.len]; exact h1, fun p ob hp hd => ?_⟩
  have g := Grow.new (o := .frz ob (.tup vs)) g1.ok hp
  exact h2 _ _ (by rfl) g (.tup (sqN_new g1.ok hp hd) ((g.le g1.ok).rpAll r1))
theorem Grow.asOwn (k : WOk c w) {p : Addr} {vs : List V} (h : w.H p = none) : WOk c { O := p :: w.O, nk := w.nk, H := upd w.H p (.lst vs), fu := w.fu } ∧ ∀ v d, RpsW c w v d → RpsW c { O := p :: w.O, nk := w.nk, H := upd w.H p (.lst vs), fu := w.fu } v d := by
  have hv : ∀ a o, c.vis w a = some o → c.vis { O := p :: w.O, nk := w.nk, H := upd w.H p (.lst vs), fu := w.fu } a = some o := fun a o e => by
    obtain ⟨h1, h2⟩ := hide_some.mp e
    refine hide_some.mpr ⟨fun z => ?_, by show upd w.H p _ a = _; rw [upd_ne (ne_of_none h2 h)]; exact h2⟩
    rcases List.mem_cons.mp (show a ∈ p :: (w.O ++ (w.nk ++ c.S)) from z) with z | z
    · rw [z, h] at h2; cases h2
    · exact h1 z
  have g := (Grow.new (o := .lst vs) k h).ok
  refine ⟨⟨g.dS, g.SH, g.keep0, g.free0, g.nkf, fun a m => ?_, fun a m => ?_, fun a m => ?_, fun a ha => ?_, g.mono, k.fb⟩, fun v d r => r.mono hv fun _ h => h⟩
  · rcases List.mem_cons.mp m with m | m
    · rw [m]; exact k.free0 _ h
    · exact g.Of _ m
  · rcases List.mem_cons.mp m with m | m
    · rw [m]; show upd w.H p _ p ≠ none; rw [upd_same]; intro z; cases z
    · exact g.Oh _ m
  · rcases List.mem_cons.mp m with m | m
    · rw [m]; intro z
      exact hid_there k (show p ∈ c.hid w from List.mem_append_right _ (List.mem_append_left _ z)) h
    · exact g.dis _ m
  · obtain ⟨us, e1, e2⟩ := k.deck a ha
    refine ⟨us, by show upd w.H p _ a = _; rw [upd_ne (ne_of_none e1 h)]; exact e1, k.mono _ _ _ _ _ (Nat.le_refl _) hv e2⟩
theorem dl_lst (h : PA X rest (liftA c W fr)) : PE X (.List rest pos) (liftL c W (dispL fr)) := by
  refine pe_imp (pe_lst h) fun σ H Q ⟨w, env, a, q⟩ => ?_
  refine ⟨w, env, a, R.wp_mono (wp_b q) (fun fu ds hx vs w1 e1 g1 r1 => ?_) fun _ _ h => h⟩
  subst e1
  obtain ⟨h1, h2⟩ := guard_line hx
  refine ⟨by rw [r1.len]; exact h1, fun p hp => ?_⟩
  obtain ⟨k1, k2⟩ := Grow.asOwn (vs := vs) g1.ok hp
  exact h2 p vs { O := p :: w1.O, nk := w1.nk, H := upd w1.H p (.lst vs), fu := w1.fu } rfl (by rw [g1.O]) (g1.free _ hp) upd_same k1 (by
    have g := g1.trans a.ok (Grow.new (o := .lst vs) g1.ok hp)
    have e : ({ O := w.O, nk := w1.nk, H := upd w1.H p (.lst vs), fu := w1.fu } : Wd) = { w1 with H := upd w1.H p (.lst vs) } := by rw [g1.O]
    show Grow c w { O := w.O, nk := w1.nk, H := upd w1.H p (.lst vs), fu := w1.fu }
    rw [e]; exact g) (k2 _ _ r1)
/-- a new list as any value -/
theorem de_lst {f : Env → R (List D)} (h : PE X e (liftL c W f)) : PE X e (liftE c W (lstD f)) := by
  refine pe_imp h fun σ H Q ⟨w, env, a, q⟩ => ?_
  refine ⟨w, env, a, R.wp_mono (wp_b q) (fun fu ds hx p vs w' e1 hO hp hp' k g r => ?_) fun _ _ h => h⟩
  subst e1
  have hs : ∀ x ∈ w.O, x ∈ w'.O := fun x hx => by rw [hO]; exact List.mem_cons_of_mem _ hx
  have le := LE.sub (c := c) hs
  refine hx (.ref p) { w' with O := w.O } rfl g (.lst (.inl ?_) (le.rpAll r))
  refine hide_some.mpr ⟨fun z => ?_, hp'⟩
  have := g.hidback (show p ∈ c.hid { w' with O := w.O } from z)
  rcases List.mem_append.mp z with z | z
  · exact a.ok.Oh _ z hp
  · have z2 : p ∈ w'.O := by rw [hO]; exact List.mem_cons_self
    rcases List.mem_append.mp z with z | z
    · exact k.dis _ z2 z
    · exact k.SH _ z (k.Of _ z2)
end
end DL
namespace DL
open PySem PySem.Spec PyProof.Rows L2
structure FnG (P : Program) (w : World) (K : PySem.W.Frag) (mg : Str → Option Value) (base : Heap) (CX : CXT) (k : Nat) (f : Addr) (fd : FuncData) (ps : List Str) (sp : Sp) : Prop where
  len : ∀ vs H Q E, sp vs H Q E → vs.length = ps.length
  run : ∀ (A : Around) (outer : List PySem.Env) (s : Shared) (H : Hp) (args : Args) (us : List Value) (vs : List V) (Q : VK) (E : XK), Room k A → A.guards = some [] → Env0 P w K mg base A outer s H → BindsTo s fd args (ps.zip us) → Vals vs us → sp vs H Q E →
    codeAny (model P w) A (.call (.ref f) args) (CR CX outer P w H s Q E) s
theorem fn_ofG {CX : CXT} {P : Program} {w : World} {K : PySem.W.Frag} {mg : Str → Option Value} {base : Heap} {k : Nat} {f : Addr} {name qual : Str} {params : Arguments} {body : List Stmt} {scope : Scope} {dV kV doc pm cdv ct oc : Value} {an od : Option Addr}
    {osl : Array (Option Value)} {N ps : List Str} {sp : Sp} (lkf : K.lookup f = some ⟨oc, od, .func (PySem.W.fnOf name qual params body scope dV kV doc pm an cdv ct), osl⟩) (hcc : PySem.W.codeIn K cdv qual = true) (Sf : FnScope N ps scope)
    (lenf : ∀ vz Hx Q E, sp vz Hx Q E → vz.length = ps.length)
    (hbdy : ∀ (Ar : Around) (fls : List PySem.Env) (sx : Shared) (Hx : Hp) (vz : List V) (Q : VK) (E : XK), Room k (Ar.deeper (envOfC qual scope sx.heap.objs.size f cdv)) → Ar.guards = some [] → sp vz Hx Q E →
      ∃ tt, PSs (cxOf CX P w K mg base N qual scope f cdv Ar fls sx Hx E) body tt ∧ tt { nx := fun _ Hz => Q .non Hz, rt := Q } (start N vz) Hx) :
    FnG P w K mg base CX (k + 1) f (PySem.W.fnOf name qual params body scope dV kV doc pm an cdv ct) ps sp := by
  refine ⟨lenf, fun Ar fls sx Hx ag uz vz Q E hr hgu en0 hbn rr hpr => ?_⟩
  have hln := lenf _ _ _ _ hpr
  have kin : K.In sx.heap := en0.mod.kin.keeps fun b o e => (en0.bs b o e).1
  have lmt : sx.heap.NoLimit := en0.mod.nolimit.keeps fun b o e => (en0.bs b o e).1
  have hkd : ∀ yy ∈ ps.zip uz, scope.names.lookup yy.1 = some .local ∨ (scope.names.lookup yy.1 = some .cell ∧ ((cellsFrom (sx.heap.objs.size + 1) scope.names []).lookup yy.1).isSome = true) := fun ⟨nn, vv⟩ hyy => by
    rcases Sf.par nn (List.of_mem_zip hyy).1 with qq | qq
    · exact .inl qq
    · exact .inr ⟨qq, PySem.W.cellsFrom_some _ _ _ (.inl qq)⟩
  refine codeAny_call_function hr.depth (kin _ _ lkf) rfl Sf.co Sf.gen rfl (PySem.W.codeRec_of kin hcc) (hbn _ _ _ _ ?_)
  refine wpAny_newFunctionEnv_cells Sf.kind hkd fun ev hev sy x => ?_
  subst hev
  refine ⟨lmt.keeps x.toInCall.keep, codeAny_func ?_⟩
  obtain ⟨tt, htt, hqq⟩ := hbdy Ar fls sx Hx vz Q E (hr.deeper _) hgu hpr
  have Iv : Inv (cxOf CX P w K mg base N qual scope f cdv Ar fls sx Hx E) [] (start N vz) Hx sy := inv_start Sf hr.hd en0 hln rr x
  refine wpAny_mono (htt.run [] sy (start N vz) Hx _ Iv hqq) (fun flw sz hfin => ?_) fun e sz hfin => hfin
  have done : ∀ {σz : L2.St} {Hz : Hp} {vv : V} {uu : Value}, Inv (cxOf CX P w K mg base N qual scope f cdv Ar fls sx Hx E) [] σz Hz sz → RelV vv uu → Q vv Hz → CE fls P w Hx sx Q uu sz :=
    fun {σz Hz vv uu} Jv rvv qq => ⟨vv, Hz, Jv.os, Jv.bare, Jv.base, Jv.hok, rvv, qq⟩
  cases flw with
  | ret uu =>
    obtain ⟨vv, σz, Hz, Jv, rvv, qq⟩ := hfin
    exact done Jv rvv qq
  | next =>
    obtain ⟨σz, Hz, Jv, qq⟩ := hfin
    exact done (vv := V.non) (uu := Value.none) Jv rfl qq
  | brk =>
    obtain ⟨_, _, _, qq⟩ := hfin
    exact False.elim qq
  | cont =>
    obtain ⟨_, _, _, qq⟩ := hfin
    exact False.elim qq
section
variable {X : Cx} {CX : CXT} {k : Nat} {f C : Addr} {fd : FuncData} {ps : List Str} {sp : Sp} {E : L2.St → XK} {x m : Str} {p pos apos : Pos} {e o : Expr} {es : List Expr} {ta : TE} {t : TA}
theorem run_fnG {pns : List (Addr × Obj)} {σ : L2.St} {Hx : Hp} {sx : Shared} {Q : VK} {uz : List Value} {vz : List V} (F : FnG X.prog X.w X.K X.mg X.base CX k f fd ps sp) (hr : Room k X.A) (hgu : X.A.guards = some []) (hb : Binds X.K fd ps []) (hx : PassesAt CX X σ (E σ))
    (Iv : Inv X pns σ Hx sx) (rr : Vals vz uz) (h : sp vz Hx Q (E σ)) : wpAny (model X.prog X.w) X.A (call (.ref f) uz) (EP X pns σ Q) X.xe sx := by
  have hln : uz.length = ps.length := by rw [← rr.length]; exact F.len _ _ _ _ h
  have bnd := hb sx uz Iv.kIn (by rw [List.append_nil]; exact hln)
  rw [List.append_nil] at bnd
  refine wpAny_call (codeAny_mono (F.run X.A X.stack sx Hx ⟨uz, []⟩ uz vz Q (E σ) hr hgu Iv.env0 bnd rr h) fun rr sz hqq => ?_)
  cases rr with
  | error ee => exact hx pns Hx sx ee sz Iv hqq
  | ok flw =>
    cases flw with
    | ret uu => exact Iv.after hqq
    | next => exact False.elim hqq
    | brk => exact False.elim hqq
    | cont => exact False.elim hqq
theorem pe_callG (F : FnG X.prog X.w X.K X.mg X.base CX k f fd ps sp) (hr : Room k X.A) (hgu : X.A.guards = some []) (hg : Gl X x) (hm : X.mg x = some (.ref f)) (hk : PySem.W.keepIn X.K (.ref f) = true) (hb : Binds X.K fd ps []) (hx : ∀ σ, PassesAt CX X σ (E σ))
    (ha : PA X (e :: es) t) (hdb : (x == ("__debug__" : Str)) = false := by decide) (he : starEach (e :: es) X.env = (false, eval e X.env) :: starEach es X.env := by rfl) (hpl : (backTo pos (starEach es X.env)).any (·.1) = false := by rfl) :
    PE X (.Call (.Name x p) (e :: es) [] pos) (tCallS sp E t) :=
  ⟨fun pins s σ H Q I h => wpAny_Call_Name_kw (ld_glob I hg hm (PySem.W.callWith_K (h₀ := X.base) I.ok.mod.kin hk (thn (ha.run pos pins s σ H _ I h) fun us s1 ⟨vs, H1, I1, r, q⟩ => ⟨I1.kIn, run_fnG F hr hgu hb (hx σ) I1 r q⟩) he hpl) hdb)⟩
theorem pe_callG0 (F : FnG X.prog X.w X.K X.mg X.base CX k f fd ps sp) (hr : Room k X.A) (hgu : X.A.guards = some []) (hg : Gl X x) (hm : X.mg x = some (.ref f)) (hk : PySem.W.keepIn X.K (.ref f) = true) (hb : Binds X.K fd ps []) (hx : ∀ σ, PassesAt CX X σ (E σ))
    (hdb : (x == ("__debug__" : Str)) = false := by decide) : PE X (.Call (.Name x p) [] [] pos) (tCallS sp E L2.tNil) :=
  ⟨fun pins s σ H Q I h => wpAny_Call_Name_kw (ld_glob I hg hm (PySem.W.callWith_K0 I.kIn hk (run_fnG (uz := []) F hr hgu hb (hx σ) I .nil h)) hdb)⟩
end
theorem Fun.okG {P : Program} {w : World} {K : PySem.W.Frag} {mg : Str → Option Value} {base : Heap} {x qual : Str} {st : Stmt} {f : Addr} {fd : FuncData} {N ps : List Str} {k : Nat} {sp : Sp} (F : L2.Fun K x qual st f fd) (S : FnScope N ps (defScope st)) (len : ∀ vs H Q E, sp vs H Q E → vs.length = ps.length)
    (hbody : ∀ (cdv : Value) (A : Around) (outer : List PySem.Env) (s : Shared) (H : Hp) (vs : List V) (Q : VK) (E : XK), Room k (A.deeper (envOfC qual (defScope st) s.heap.objs.size f cdv)) → A.guards = some [] → sp vs H Q E →
      ∃ t, PSs (cxOf (L2.CX P w) P w K mg base N qual (defScope st) f cdv A outer s H E) (defBody st) t ∧ t { nx := fun _ H' => Q .non H', rt := Q } (L2.start N vs) H) : FnG P w K mg base (L2.CX P w) (k + 1) f fd ps sp := by
  obtain ⟨oc, od, kV, doc, pm, an, cdv, ct, osl, rfl, lk, hcd⟩ := F.ex
  exact fn_ofG lk hcd S len fun A outer s H vs Q E hr hgu hsp => hbody cdv A outer s H vs Q E hr hgu hsp
theorem FnOk.toG {P : Program} {w : World} {K : PySem.W.Frag} {mg : Str → Option Value} {base : Heap} {CX : CXT} {k : Nat} {f : Addr} {fd : FuncData} {ps : List Str} {sp : Sp} (F : L2.FnOk P w K mg base CX k f fd ps sp) : FnG P w K mg base CX k f fd ps sp :=
  ⟨F.len, fun A outer s H args us vs Q E hr _ e0 hb hv hs => F.run A outer s H args us vs Q E hr e0 hb hv hs⟩
theorem FnG.imp {P : Program} {w : World} {K : PySem.W.Frag} {mg : Str → Option Value} {base : Heap} {CX : CXT} {k : Nat} {f : Addr} {fd : FuncData} {ps : List Str} {sp sp' : Sp} (F : FnG P w K mg base CX k f fd ps sp) (h : ∀ vs H Q E, sp' vs H Q E → sp vs H Q E) : FnG P w K mg base CX k f fd ps sp' :=
  ⟨fun vs H Q E q => F.len vs H Q E (h _ _ _ _ q), fun A outer s H args us vs Q E hr hgu he hb hv hs => F.run A outer s H args us vs Q E hr hgu he hb hv (h _ _ _ _ hs)⟩
theorem law_callG {P : Program} {w : World} {K : PySem.W.Frag} {mg mb : Str → Option Value} {CX : CXT} {k : Nat} {fa aa : Addr} {fd : FuncData} {xx : Str} {sp : Sp} {s1 : Shared} {vz : List Value} {nz : List Int}
    (KX : K.In s1.heap) (hns : s1.heap.Ns mainGlobals mg) (hbx : s1.heap.Ns builtinsNs mb) (hbb : ∀ xx : Str, xx ≠ "__name__" → mb xx = bootBuiltins xx) (hlim : s1.heap.NoLimit) (hg : s1.gens = #[])
    (ha : s1.heap.get? aa = some { cls := .type "list", data := .seq vz.toArray }) (hi : IntsAre vz nz) (hl : nz.length ≤ sizeLine) (hr : Room k callerA)
    (F : ∀ base : Heap, K.In base → base.Ns mainGlobals mg → FnG P w K mg base CX k fa fd [xx] sp) (hbind : ∀ (s : Shared) (uu : Value), BindsTo s fd ⟨[uu], []⟩ [(xx, uu)])
    (hsp : ∀ Hx : Hp, Only Hx → SqL K Hx aa (nz.map V.int) → sp [.ref aa] Hx (fun vv _ => vv = .bl true) fun _ _ _ => False)
    (hCX : ∀ Hx ee sz, CX [] Hx s1 (fun _ _ _ => False) ee sz → False) :
    codeAny (model P w) callerA (.call (.ref fa) ⟨[.ref aa], []⟩) (fun rr sz => rr = .ok (.ret (.bool true)) ∧ OldK s1.heap sz.heap ∧ sz.os = s1.os ∧ AllBare sz.gens) s1 := by
  have rvv := vals_ints hi
  have lnV := hi.length
  have cor : ∀ Hx : Hp, Only Hx → SqL K Hx aa (nz.map V.int) → HOk P w Hx s1.heap → (∀ bb, Hx bb ≠ none → bb = aa) → (Hx aa ≠ none → K.lookup aa = none) →
      codeAny (model P w) callerA (.call (.ref fa) ⟨[.ref aa], []⟩) (fun rr sz => rr = .ok (.ret (.bool true)) ∧ OldK s1.heap sz.heap ∧ sz.os = s1.os ∧ AllBare sz.gens) s1 := by
    intro Hx hOn hSq hkk hAd hKn
    have bsf : ∀ {bb : Addr} {oo : Obj}, s1.heap.get? bb = some oo → Hx bb = none → (hidT s1.heap Hx).get? bb = some oo := fun ee nn => hidT_get ee nn
    have nA : ∀ {bb : Addr} {oo : Obj} {ess : Array DictEntry} {epp : Nat}, s1.heap.get? bb = some oo → oo.data = .dict ess epp → Hx bb = none := fun {bb oo ess epp} ee dd => by
      cases qq : Hx bb with
      | none => rfl
      | some uu =>
        have ez : bb = aa := hAd bb (by rw [qq]; simp)
        subst ez
        rw [ha] at ee; cases ee
        have dz : Data.seq vz.toArray _ = Data.dict ess epp := dd
        cases dz
    have nK : ∀ {bb : Addr} {mm : Str → Option Value}, s1.heap.Ns bb mm → (hidT s1.heap Hx).Ns bb mm := fun {bb mm} ⟨oo, ess, epp, ee, dd, rr⟩ => ⟨oo, ess, epp, bsf ee (nA ee dd), dd, rr⟩
    have hKx : K.In (hidT s1.heap Hx) := fun bb oo ee => bsf (KX bb oo ee) (by
      cases qq : Hx bb with
      | none => rfl
      | some uu =>
        have ez : bb = aa := hAd bb (by rw [qq]; simp)
        subst ez
        rw [hKn (by rw [qq]; simp)] at ee; cases ee)
    have hMd : Mod K mg (hidT s1.heap Hx) := ⟨hKx, nK hns, ⟨mb, nK hbx, hbb⟩, let ⟨mc, h1, h2⟩ := hlim; ⟨mc, nK h1, h2⟩⟩
    have en0 : Env0 P w K mg (hidT s1.heap Hx) callerA [] s1 Hx := ⟨rfl, hMd, fun bb oo ee => of_hidT ee, Nat.le_of_eq (hidT_size _ _), trivial, fun bb hbx => absurd (show bb ∈ ([] : List Addr) from hbx) (by simp), hkk, .of_eq hg⟩
    refine codeAny_mono ((F _ hKx (nK hns)).run callerA [] s1 Hx ⟨[.ref aa], []⟩ [.ref aa] [.ref aa] _ _ hr rfl en0 (hbind s1 (.ref aa)) (.cons rfl .nil) (hsp Hx hOn hSq)) fun rr sz hh => ?_
    cases rr with
    | error ee => exact (hCX Hx ee sz hh).elim
    | ok flw =>
      cases flw with
      | next => exact False.elim hh
      | brk => exact False.elim hh
      | cont => exact False.elim hh
      | ret uu =>
        obtain ⟨vv, Hz, oss, bre, unn, hkz, rz, qq⟩ := hh
        have qz : vv = .bl true := qq
        subst qz
        obtain rfl : uu = Value.bool true := rz
        refine ⟨rfl, OldK.of_keep fun bb oo ee => ?_, oss, bre⟩
        cases qq : Hx bb with
        | none => exact unn.keep bb oo ee qq (by intro zz; exact absurd (show bb ∈ ([] : List Addr) from zz) (by simp)) (by simp)
        | some uu =>
          rcases hOn bb with zz | ⟨obb, xz, zz⟩
          · rw [qq] at zz; cases zz
          · have zb := unn.frzs bb obb _ zz
            obtain ⟨ea, _⟩ := hkk bb _ zz
            obtain ⟨eb, _⟩ := hkz bb _ zb
            rw [ee] at ea; cases ea
            exact eb
  cases hkl : K.lookup aa with
  | some oo =>
    have ee := KX aa oo hkl
    rw [ha] at ee
    cases ee
    refine cor (fun _ => none) (fun _ => .inl rfl) (.inr ⟨_, vz.toArray, _, hkl, rfl, rfl, rfl, by rw [List.size_toArray, lnV]; exact hl, by simpa using rvv⟩) (fun bb uu zz => by have zy : (none : Option HO) = some uu := zz; cases zy) (fun bb zz => absurd rfl zz) fun zz => absurd rfl zz
  | none =>
    refine cor (fun bb => if bb = aa then some (.frz { cls := .type "list", data := .seq vz.toArray } (.lst (nz.map V.int))) else none) (fun bb => ?_) (.inl (.inr ⟨{ cls := .type "list", data := .seq vz.toArray }, if_pos rfl⟩)) (fun bb uu zz => ?_) (fun bb zz => ?_) fun _ => hkl
    · by_cases hbx : bb = aa
      · exact .inr ⟨_, _, if_pos hbx⟩
      · exact .inl (if_neg hbx)
    · by_cases hbx : bb = aa
      · have zy := (if_pos hbx).symm.trans zz
        cases zy
        subst hbx
        exact ⟨ha, by rw [List.length_map]; exact hl, vz, _, rvv, ha⟩
      · have zy := (if_neg hbx).symm.trans zz
        cases zy
    · by_cases hbx : bb = aa
      · exact hbx
      · exact absurd (if_neg hbx) zz
theorem walk_ofG {l : PySem.W.OpenLaw} {n k : Nat} {q : Program} {loose : List Str} {XP : (Str → Option Value) → Heap → Prop} {YP : World → Heap → Prop} {d : DefRec} {K : Params → PySem.W.Frag} {CX : World → CXT} {sp : World → Sp} {x : Str}
    (h1n : l.most = some n) (h2n : n ≤ sizeLine) (h3n : d.params.defaults = []) (hr : Room k callerA)
    (hY : ∀ (w : World) (hh : Heap), YP w hh → (K w.params).In hh)
    (F : ∀ (w : World) (mgl : Str → Option Value) (faa : Addr) (hh : Heap), (K w.params).In hh → hh.Ns mainGlobals mgl → mgl d.name = some (.ref faa) →
      ∃ fdx : FuncData, (∀ (sx : Shared) (uu : Value), BindsTo sx fdx ⟨[uu], []⟩ [(x, uu)]) ∧
        ∀ base : Heap, (K w.params).In base → base.Ns mainGlobals mgl → FnG l.prog w (K w.params) mgl base (CX w) k faa fdx [x] (sp w))
    (hsp : ∀ (w : World) (H : Hp) (aa : Addr) (nz : List Int), nz.length ≤ n → Only H → SqL (K w.params) H aa (nz.map V.int) → sp w [.ref aa] H (fun v _ => v = .bl true) fun _ _ _ => False)
    (hCX : ∀ (w : World) (H : Hp) (sx : Shared) (ee : Value) (sz : Shared), CX w [] H sx (fun _ _ _ => False) ee sz → False) : PySem.W.WalkO q loose XP YP l.row.toRowW d [] (fun f vs => PySem.call f vs) := by
  refine Att.attach_call h1n h3n fun w s₀ s₁ mgl mbl faa o pm cd doc aa vs nz G Y ho hd hcd hmg hobj hints hlen hg => ?_
  have kin := hY w _ Y
  obtain ⟨fdx, hbx, hFx⟩ := F w mgl faa _ kin G.T.g hmg
  exact law_callG kin G.T.g G.T.b G.T.builtins G.T.nolimit hg hobj hints (Nat.le_trans hlen h2n) hr hFx hbx (fun H hO hS => hsp w H aa nz hlen hO hS) fun H ee sz => hCX w H s₁ ee sz
end DL
namespace DL
open PySem PySem.Spec PyProof.Rows L2
def MtAt (c : Base) (r : V → List V → Hp → VK → Prop) (g : D → List D → R D) : Prop := ∀ (W : WX) (σ : L2.St) (w : Wd) (x : D) (v : V) (xs : List D) (vs : List V) (Q : VK), WOk c w → RpW c w v x → RpsW c w vs xs → (g x xs).wp w.fu (PQ c w Q) (EK c W σ w) → r v vs w.H Q
def SlAt (c : Base) (r : V → Option Int → Option Int → Hp → VK → Prop) (g : D → Option Int → Option Int → R D) : Prop := ∀ (W : WX) (σ : L2.St) (w : Wd) (x : D) (v : V) (lo hi : Option Int) (Q : VK), WOk c w → RpW c w v x → (g x lo hi).wp w.fu (PQ c w Q) (EK c W σ w) → r v lo hi w.H Q
def asI : D → R Int
  | .int i => .ret i
  | _ => .bad
def noPart : Env → R (Option Int) := fun _ => .ret none
def part (fa : Env → R D) : Env → R (Option Int) := fun env => (fa env).bind fun x => (asI x).bind fun i => .ret (some i)
def slD (g : D → Option Int → Option Int → R D) (fa : Env → R D) (fl fh : Env → R (Option Int)) : Env → R D := fun env => (fa env).bind fun x => (fl env).bind fun l => (fh env).bind fun h => g x l h
def liftO (c : Base) (W : WX) (f : Env → R (Option Int)) : TO := fun σ H Q => ∃ w env, At c σ H w env ∧ (f env).wp w.fu (fun fu d => ∀ w', w'.fu = fu → Grow c w w' → Q d w'.H) (EK c W σ w)
def mtD (g : D → List D → R D) (fa : Env → R D) (fr : Env → R (List D)) : Env → R D := fun env => (fa env).bind fun x => (fr env).bind fun xs => g x xs
def strM (g : D → List D → R D) (fa fb : Env → R D) : Env → R D := fun env => (fa env).bind fun x => match x with
  | .str z => (fb env).bind fun y => g (.str z) [y]
  | _ => .bad
section
variable {X : Cx} {c : Base} {W : WX} {w w' w1 w2 : Wd} {σ : L2.St} {env : Env} {e a b d : Expr} {fa fb fc : Env → R D} {ft fu : Env → R Bool} {fr : Env → R (List D)} {pos p pos2 : Pos} {rest es : List Expr} {x : Str}
theorem asI_wp {x : D} {v : V} {fu : Nat} {Q : Nat → Int → Prop} {E : Nat → Er → Prop} (r : RpW c w v x) (h : (asI x).wp fu Q E) : ∃ k, v = .int k ∧ x = .int k ∧ Q fu k := by
  cases x with
  | int b => exact ⟨b, r.isInt, rfl, h⟩
  | _ => exact h.elim
theorem po_imp {e : Option Expr} {t t' : TO} (h : PO X e t) (i : ∀ σ H Q, t' σ H Q → t σ H Q) : PO X e t' := ⟨fun pins s σ H Q I q => h.run pins s σ H Q I (i _ _ _ q)⟩
theorem do_none : PO X none (liftO c W noPart) := po_imp po_none fun σ H Q ⟨w, env, a, q⟩ => by
  show Q none H
  rw [← a.h]
  exact q w rfl (Grow.refl a.ok)
theorem do_some (h : PE X e (liftE c W fa)) : PO X (some e) (liftO c W (part fa)) := po_imp (po_some h) fun σ H Q ⟨w, env, a, q⟩ => by
  refine ⟨w, env, a, R.wp_mono (wp_b q) (fun fu x hx v w1 e1 g1 r1 => ?_) fun _ _ h => h⟩
  subst e1
  obtain ⟨k, e, _, h⟩ := asI_wp r1 (wp_b hx)
  exact ⟨k, e, h w1 rfl g1⟩
theorem de_slice {lo hi : Option Expr} {fl fh : Env → R (Option Int)} {r : V → Option Int → Option Int → Hp → VK → Prop} {g : D → Option Int → Option Int → R D} (hr : SlR X r) (hg : SlAt c r g) (ha : PE X a (liftE c W fa)) (hl : PO X lo (liftO c W fl)) (hh : PO X hi (liftO c W fh)) :
    PE X (.Subscript a (.Slice lo hi none pos2) pos) (liftE c W (slD g fa fl fh)) := pe_imp (pe_slice hr ha hl hh) fun σ H Q ⟨w, env, a, q⟩ => by
  refine step a q fun x v w1 g1 r1 q1 => ?_
  refine ⟨w1, env, a.grow g1, R.wp_mono (wp_b q1) (fun fu l hl w2 e1 g2 => ?_) fun _ _ h => h⟩
  subst e1
  refine ⟨w2, env, (a.grow g1).grow g2, R.wp_mono (wp_b hl) (fun fu u hu w3 e1 g3 => ?_) fun _ _ h => h.grow g1.ok g2⟩
  subst e1
  have g13 := g2.trans g1.ok g3
  exact hg W σ w3 x v l u Q g3.ok ((g13.le g1.ok).rp r1) (R.wp_mono hu (fun _ _ h => h.grow g1.ok g13) fun _ _ h => h.grow g1.ok g13)
theorem de_callB {id : String} {r : List V → Hp → VK → Prop} {g : List D → R D} (hc : CallR X (.builtin id) r) (hgd : CallAt c r g) (hg : Gl X x) (hm : X.mg x = none) (hv : bootBuiltins x = some (.builtin id)) (ha : PA X (e :: es) (liftA c W fr)) (hn : x ≠ "__name__" := by decide) (hdb : (x == ("__debug__" : Str)) = false := by decide)
    (he : starEach (e :: es) X.env = (false, eval e X.env) :: starEach es X.env := by rfl) (hpl : (backTo pos (starEach es X.env)).any (·.1) = false := by rfl) : PE X (.Call (.Name x p) (e :: es) [] pos) (liftE c W (callD g fr)) :=
  pe_imp (pe_callB hc hg hm hv ha hn hdb he hpl) fun σ H Q ⟨w, env, a, q⟩ => stepAE a q fun xs vs w1 g1 r1 q1 => hgd W σ w1 xs vs Q g1.ok r1 q1
theorem de_callTy {id : String} {r : List V → Hp → VK → Prop} {g : List D → R D} (hc : CallR X (.type id) r) (hgd : CallAt c r g) (hg : Gl X x) (hm : X.mg x = none) (hv : bootBuiltins x = some (.type id)) (ha : PA X (e :: es) (liftA c W fr)) (hn : x ≠ "__name__" := by decide) (hdb : (x == ("__debug__" : Str)) = false := by decide)
    (he : starEach (e :: es) X.env = (false, eval e X.env) :: starEach es X.env := by rfl) (hpl : (backTo pos (starEach es X.env)).any (·.1) = false := by rfl) : PE X (.Call (.Name x p) (e :: es) [] pos) (liftE c W (callD g fr)) :=
  pe_imp (pe_callTy hc hg hm hv ha hn hdb he hpl) fun σ H Q ⟨w, env, a, q⟩ => stepAE a q fun xs vs w1 g1 r1 q1 => hgd W σ w1 xs vs Q g1.ok r1 q1
theorem de_m1 {name : Str} {apos : Pos} {o : Expr} {r : V → List V → Hp → VK → Prop} {g : D → List D → R D} (hg : MtAt c r g)
    (hx : PE X (.Call (.Attribute o name apos) [e] [] pos) (tM1 r (liftE c W fa) (liftE c W fb))) : PE X (.Call (.Attribute o name apos) [e] [] pos) (liftE c W (strM g fa fb)) :=
  pe_imp hx fun σ H Q ⟨w, env, a, q⟩ => step a q fun x v w1 g1 r1 q1 => by
    cases x with
    | str z =>
      refine ⟨⟨z, r1.isStr⟩, step (a.grow g1) q1 fun y u w2 g2 r2 q4 => ?_⟩
      exact hg W σ w2 (.str z) v [y] [u] Q g2.ok ((g2.le g1.ok).rp r1) (.cons r2 .nil) q4
    | _ => exact q1.elim
end
abbrev c0 (c : Base) (S dk : List Addr) (H : Hp) : Base := { c with S := S, dk := dk, H0 := H }
/-- a def as a function of data -/
def SpD (K : PySem.W.Frag) (mg : Str → Option Value) (DP : Nat → Hp → List V → Prop) (n : Nat) (F : List D → R D) : Sp := fun vs H Q E => vs.length = n ∧ ∃ S dk ds fu, 
  WOk ⟨K, mg, DP, S, dk, H⟩ ⟨[], [], H, fu⟩ ∧ RpAll K dk (hide S H) vs ds ∧ (F ds).wp fu
    (fun fu' d => ∀ v w', w'.fu = fu' → w'.fu ≤ fu → WOk ⟨K, mg, DP, S, dk, H⟩ w' → RpW ⟨K, mg, DP, S, dk, H⟩ w' v d → Q v w'.H)
    (fun fu' er => ∀ cls dd w', w'.fu = fu' → w'.fu ≤ fu → WOk ⟨K, mg, DP, S, dk, H⟩ w' → ErOk ⟨K, mg, DP, S, dk, H⟩ w' cls dd er → E cls dd w'.H)
section
variable {X : Cx} {c : Base} {W : WX} {w w' w1 w2 : Wd} {σ : L2.St} {env : Env}
theorem callee_in (k : WOk c w) : WOk (c0 c (c.hid w) (c.dks w) w.H) ⟨[], [], w.H, w.fu⟩ := by
  refine ⟨fun a h => dks_hid k h, fun a h => hid_there k h, fun a o h _ => h, fun a h => h, fun a h => (by cases h), fun a h => (by cases h), fun a h => (by cases h), fun a h => (by cases h), fun a h => ?_, k.mono, k.fb⟩
  exact k.deck a h
/-- the caller's world behind the callee's -/
def back (w w' : Wd) : Wd := { O := w.O, nk := w'.nk ++ w.nk, H := w'.H, fu := w'.fu }
theorem back_dks : c.dks (back w w') = (c0 c (c.hid w) (c.dks w) w.H).dks w' := by
  show (w'.nk ++ w.nk) ++ c.dk = w'.nk ++ (w.nk ++ c.dk)
  rw [List.append_assoc]
theorem back_vis : ∀ a o, (c0 c (c.hid w) (c.dks w) w.H).vis w' a = some o → c.vis (back w w') a = some o := fun a o h => by
  obtain ⟨h1, h2⟩ := hide_some.mp h
  refine hide_some.mpr ⟨fun z => h1 ?_, h2⟩
  have z : a ∈ w.O ++ ((w'.nk ++ w.nk) ++ c.S) := z
  show a ∈ w'.O ++ (w'.nk ++ (w.O ++ (w.nk ++ c.S)))
  simp only [List.mem_append] at z ⊢
  rcases z with z | (z | z) | z
  · exact .inr (.inr (.inl z))
  · exact .inr (.inl z)
  · exact .inr (.inr (.inr (.inl z)))
  · exact .inr (.inr (.inr (.inr z)))
theorem callee_out (k : WOk c w) (k' : WOk (c0 c (c.hid w) (c.dks w) w.H) w') (lf : w'.fu ≤ w.fu) : Grow c w (back w w') := by
  have nfree : ∀ a ∈ w'.nk, w.H a = none := fun a h => k'.nkf a h
  refine ⟨rfl, lf, fun a o h n => k'.keep0 a o h n, fun a h => k'.free0 a h, ⟨w'.nk, rfl, nfree⟩, ?_⟩
  refine ⟨k.dS, k.SH, fun a o h n => ?_, fun a h => k.free0 _ (k'.free0 _ h), fun a h => ?_, k.Of, fun a h => ?_, fun a h z => ?_, fun a h => ?_, k.mono, Nat.le_trans lf k.fb⟩
  · refine k'.keep0 a o (k.keep0 _ _ h n) fun z => ?_
    rcases List.mem_append.mp (show a ∈ w.nk ++ c.dk from z) with z | z
    · rw [k.nkf _ z] at h; cases h
    · exact n z
  · rcases List.mem_append.mp (show a ∈ w'.nk ++ w.nk from h) with h | h
    · exact k.free0 _ (nfree _ h)
    · exact k.nkf _ h
  · intro z
    exact k.Oh _ h (k'.free0 _ z)
  · rcases List.mem_append.mp (show a ∈ w'.nk ++ w.nk from z) with z | z
    · exact k.Oh _ h (nfree _ z)
    · exact k.dis _ h z
  · rw [back_dks] at h
    obtain ⟨vs, e1, e2⟩ := k'.deck a h
    exact ⟨vs, e1, k.mono _ _ _ _ _ (Nat.le_refl _) back_vis e2⟩
theorem back_rp {v : V} {d : D} (h : RpW (c0 c (c.hid w) (c.dks w) w.H) w' v d) : RpW c (back w w') v d := by
  refine h.mono back_vis fun a h => ?_
  rw [back_dks]; exact h
theorem back_er {cls : Value} {dd : Option Addr} {er : Er} (h : ErOk (c0 c (c.hid w) (c.dks w) w.H) w' cls dd er) : ErOk c (back w w') cls dd er :=
  ⟨h.cls, h.none, fun n d e => by
    obtain ⟨p, v, e1, e2, e3⟩ := h.one n d e
    exact ⟨p, v, e1, e2, back_rp e3⟩⟩
theorem spD_of {K : PySem.W.Frag} {n : Nat} {F : List D → R D} {ds : List D} {vs : List V} {Q : VK} (k : WOk c w) (r : RpsW c w vs ds) (hn : ds.length = n) (h : (F ds).wp w.fu (PQ c w Q) (EK c W σ w)) : SpD c.K c.mg c.DP n F vs w.H Q (fun cls dd H => W cls dd σ H) := by
  refine ⟨by rw [r.len]; exact hn, c.hid w, c.dks w, ds, w.fu, callee_in k, r, R.wp_mono h (fun fu d hd v w' e1 lf k' r' => ?_) fun fu er he cls dd w' e1 lf k' e => ?_⟩
  · exact hd v (back w w') e1 (callee_out k k' lf) (back_rp r')
  · exact he cls dd (back w w') e1 (callee_out k k' lf) (back_er e)
end
section
variable {X : Cx} {c : Base} {W : WX} {k n : Nat} {f : Addr} {fd : FuncData} {ps ks : List Str} {F : List D → R D} {x : Str} {p pos : Pos} {e : Expr} {es : List Expr} {kws : List Keyword} {fr fk : Env → R (List D)}
def callF (n : Nat) (F : List D → R D) (fr : Env → R (List D)) : Env → R D := fun env => (fr env).bind fun ds => guard' (decide (ds.length = n)) (F ds)
theorem de_call (FO : FnG X.prog X.w X.K X.mg X.base (L2.CX X.prog X.w) k f fd ps (SpD c.K c.mg c.DP n F)) (hr : Room k X.A) (hgu : X.A.guards = some []) (hg : Gl X x) (hm : X.mg x = some (.ref f)) (hk : PySem.W.keepIn X.K (.ref f) = true) (hb : Binds X.K fd ps []) (tk : Takes X W)
    (ha : PA X (e :: es) (liftA c W fr)) (hdb : (x == ("__debug__" : Str)) = false := by decide) (he : starEach (e :: es) X.env = (false, eval e X.env) :: starEach es X.env := by rfl) (hpl : (backTo pos (starEach es X.env)).any (·.1) = false := by rfl) :
    PE X (.Call (.Name x p) (e :: es) [] pos) (liftE c W (callF n F fr)) :=
  pe_imp (pe_callG (E := WE W) FO hr hgu hg hm hk hb (fun σ => passAt tk σ) ha hdb he hpl) fun σ H Q ⟨w, env, a, q⟩ => stepAE a q fun xs vs w1 g1 r1 q1 => by
    obtain ⟨h1, h2⟩ := wp_guard.mp q1
    exact spD_of (K := X.K) g1.ok r1 (of_decide_eq_true h1) h2
theorem de_call0 (FO : FnG X.prog X.w X.K X.mg X.base (L2.CX X.prog X.w) k f fd ps (SpD c.K c.mg c.DP 0 F)) (hr : Room k X.A) (hgu : X.A.guards = some []) (hg : Gl X x) (hm : X.mg x = some (.ref f)) (hk : PySem.W.keepIn X.K (.ref f) = true) (hb : Binds X.K fd ps []) (tk : Takes X W)
    (hdb : (x == ("__debug__" : Str)) = false := by decide) : PE X (.Call (.Name x p) [] [] pos) (liftE c W (callF 0 F nilA)) :=
  pe_imp (pe_callG0 (E := WE W) FO hr hgu hg hm hk hb (fun σ => passAt tk σ) hdb) fun σ H Q ⟨w, env, a, q⟩ => by
    obtain ⟨rfl⟩ := a.h
    obtain ⟨h1, h2⟩ := wp_guard.mp (show (guard' (decide (([] : List D).length = 0)) (F [])).wp w.fu (PQ c w Q) (EK c W σ w) from q)
    exact spD_of (K := X.K) a.ok .nil (of_decide_eq_true h1) h2
end
end DL
namespace DL
open PySem PySem.Spec PyProof.Rows L2
inductive Out where
  | nx (e : Env) | rt (d : D) | rl (ds : List D) | bk (e : Env) | ct (e : Env) | ex (e : Env) (er : Er)
def SK (c : Base) (W : WX) (Dn : Ends) (w : Wd) : Nat → Out → Prop
  | fu, .nx env' => ∀ σ' w', w'.fu = fu → WOk c w' → EnvOk c w' σ' env' → LE c w w' → Dn.nx σ' w'.H
  | fu, .rt d => ∀ v w', w'.fu = fu → w'.fu ≤ w.fu → WOk c w' → RpW c w' v d → Dn.rt v w'.H
  | fu, .rl ds => ∀ p vs w', w'.fu = fu → w'.fu ≤ w.fu → WOk c w' → p ∈ w'.O → w'.H p = some (.lst vs) → RpsW c w' vs ds → Dn.rt (.ref p) w'.H
  | fu, .bk env' => ∀ σ' w', w'.fu = fu → WOk c w' → EnvOk c w' σ' env' → LE c w w' → Dn.bk σ' w'.H
  | fu, .ct env' => ∀ σ' w', w'.fu = fu → WOk c w' → EnvOk c w' σ' env' → LE c w w' → Dn.ct σ' w'.H
  | fu, .ex env' er => ∀ cls dd σ' w', w'.fu = fu → WOk c w' → EnvOk c w' σ' env' → LE c w w' → ErOk c w' cls dd er → W cls dd σ' w'.H
def liftS (c : Base) (W : WX) (f : Env → R Out) : TS := fun Dn σ H => ∃ w env, At c σ H w env ∧ (f env).wp w.fu (SK c W Dn w) (fun _ _ => False)
/-- an expression within a statement -/
def exS {α : Type} (f : Env → R α) (k : α → Env → R Out) : Env → R Out := fun env => (f env).both (fun d => k d env) (fun er => .ret (.ex env er))
def setS (i : Nat) (f : Env → R D) : Env → R Out := exS f fun d env => .ret (.nx (env.set i (some (.val d))))
def setO (i : Nat) (f : Env → R (List D)) : Env → R Out := exS f fun ds env => .ret (.nx (env.set i (some (.own ds))))
def retS (f : Env → R D) : Env → R Out := exS f fun d _ => .ret (.rt d)
/-- a list of one's own, given back -/
def retO (i : Nat) : Env → R Out := fun env => match env[i]? with
  | some (some (.own ds)) => .ret (.rl ds)
  | some (some (.val d)) => .ret (.rt d)
  | _ => .bad
def retL (f : Env → R (List D)) : Env → R Out := exS f fun ds _ => .ret (.rl ds)
def retN : Env → R Out := fun _ => .ret (.rt .none)
def dropS (f : Env → R D) : Env → R Out := exS f fun _ env => .ret (.nx env)
def passS : Env → R Out := fun env => .ret (.nx env)
def brkS : Env → R Out := fun env => .ret (.bk env)
def ctS : Env → R Out := fun env => .ret (.ct env)
def ifS (ft : Env → R Bool) (fa fb : Env → R Out) : Env → R Out := exS ft fun k env => if k = true then fa env else fb env
def seqS (f g : Env → R Out) : Env → R Out := fun env => (f env).bind fun o => match o with
  | .nx e => g e
  | o => .ret o
def asgS (f : Env → R D) (tg : D → Env → R Env) : Env → R Out := exS f fun d env => (tg d env).bind fun e => .ret (.nx e)
/-- a name held no more as one's own -/
def frzE (i : Nat) (env : Env) : Env := match env[i]? with
  | some (some (.own ds)) => env.set i (some (.val (.list ds)))
  | _ => env
def frzS (i : Nat) (f : Env → R Out) : Env → R Out := fun env => f (frzE i env)
def tName (i : Nat) : D → Env → R Env := fun d env => .ret (env.set i (some (.val d)))
def tNil : List D → Env → R Env := fun ds env => match ds with
  | [] => .ret env
  | _ => .bad
def tCons (t : D → Env → R Env) (u : List D → Env → R Env) : List D → Env → R Env := fun ds env => match ds with
  | d :: r => (t d env).bind fun e => u r e
  | [] => .bad
def tTup (n : Nat) (u : List D → Env → R Env) : D → Env → R Env := fun d env => match d with
  | .tuple ds => guard' (decide (ds.length = n)) (u ds env)
  | _ => .bad
section
variable {X : Cx} {c : Base} {W : WX} {w w' w1 w2 : Wd} {σ : L2.St} {env : Env} {e a b d : Expr} {fa fb fc : Env → R D} {ft fu : Env → R Bool} {fr : Env → R (List D)} {pos p pos2 : Pos} {st : Stmt} {rest : List Stmt} {f g : Env → R Out}
theorem SK.le {Dn : Ends} (l : LE c w w1) {fu : Nat} {o : Out} (h : SK c W Dn w fu o) : SK c W Dn w1 fu o := by
  cases o with
  | nx _ => exact fun σ' w' e1 k E l' => h σ' w' e1 k E (l.trans l')
  | rt _ => exact fun v w' e1 lf k r => h v w' e1 (Nat.le_trans lf l.fu) k r
  | rl _ => exact fun p vs w' e1 lf k m hp r => h p vs w' e1 (Nat.le_trans lf l.fu) k m hp r
  | bk _ => exact fun σ' w' e1 k E l' => h σ' w' e1 k E (l.trans l')
  | ct _ => exact fun σ' w' e1 k E l' => h σ' w' e1 k E (l.trans l')
  | ex _ _ => exact fun cls dd σ' w' e1 k E l' => h cls dd σ' w' e1 k E (l.trans l')
theorem wp_bo {α β : Type} {m : R α} {f : α → R β} {g : Er → R β} {fu : Nat} {Q : Nat → β → Prop} {E : Nat → Er → Prop} (h : (m.both f g).wp fu Q E) : m.wp fu (fun fu a => (f a).wp fu Q E) (fun fu e => (g e).wp fu Q E) := (R.wp_both _ _ _ _ _ _).mp h
theorem EK_of {Dn : Ends} (k : WOk c w) (E : EnvOk c w σ env) {fu : Nat} {er : Er} (h : (R.ret (Out.ex env er)).wp fu (SK c W Dn w) fun _ _ => False) : EK c W σ w fu er := fun cls dd w' e1 g e =>
  (show SK c W Dn w fu (.ex env er) from h) cls dd σ w' e1 g.ok (E.grow k g) (g.le k) e
/-- a value within a statement -/
theorem stS {H : Hp} {Dn : Ends} {k : D → Env → R Out} {B : VK} (a : At c σ H w env) (h : (exS fa k env).wp w.fu (SK c W Dn w) fun _ _ => False)
    (hk : ∀ x v w1, Grow c w w1 → At c σ w1.H w1 env → RpW c w1 v x → (k x env).wp w1.fu (SK c W Dn w1) (fun _ _ => False) → B v w1.H) : liftE c W fa σ H B := by
  refine ⟨w, env, a, R.wp_mono (wp_bo h) (fun fu x hx v w1 e1 g1 r1 => ?_) fun fu er h => EK_of a.ok a.env h⟩
  subst e1
  exact hk x v w1 g1 (a.grow g1) r1 (R.wp_mono hx (fun _ _ q => q.le (g1.le a.ok)) fun _ _ q => q)
theorem stT {H : Hp} {Dn : Ends} {k : Bool → Env → R Out} {B : Bool → Hp → Prop} (a : At c σ H w env) (h : (exS ft k env).wp w.fu (SK c W Dn w) fun _ _ => False)
    (hk : ∀ x w1, Grow c w w1 → At c σ w1.H w1 env → (k x env).wp w1.fu (SK c W Dn w1) (fun _ _ => False) → B x w1.H) : liftT c W ft σ H B := by
  refine ⟨w, env, a, R.wp_mono (wp_bo h) (fun fu x hx w1 e1 g1 => ?_) fun fu er h => EK_of a.ok a.env h⟩
  subst e1
  exact hk x w1 g1 (a.grow g1) (R.wp_mono hx (fun _ _ q => q.le (g1.le a.ok)) fun _ _ q => q)
theorem set_get {α : Type} {l : List (Option α)} {i j : Nat} {y z : Option α} (h : (l.set i y)[j]? = some z) : (j = i ∧ z = y) ∨ (j ≠ i ∧ l[j]? = some z) := by
  by_cases q : i = j
  · subst q
    by_cases hl : i < l.length
    · rw [List.getElem?_set_self hl] at h; exact .inl ⟨rfl, (Option.some.inj h).symm⟩
    · rw [List.getElem?_eq_none (by simpa using hl)] at h; cases h
  · rw [List.getElem?_set_ne q] at h; exact .inr ⟨fun z => q z.symm, h⟩
theorem set_keep {α : Type} {l : List (Option α)} {i j : Nat} {y z : Option α} (h : l[j]? = some z) (q : j ≠ i) : (l.set i y)[j]? = some z := by
  rw [List.getElem?_set_ne (fun z => q z.symm)]; exact h
theorem set_at {α β : Type} {l : List α} {m : List β} (e : l.length = m.length) {i : Nat} {y : α} {z u : β} (h : (m.set i z)[i]? = some u) : (l.set i y)[i]? = some y := by
  have : i < l.length := by
    rw [e]
    have := (List.getElem?_eq_some_iff.mp h).1
    rwa [List.length_set] at this
  exact List.getElem?_set_self this
theorem EnvOk.setVal (E : EnvOk c w σ env) {i : Nat} {v : V} {x : D} (r : RpW c w v x) : EnvOk c w (σ.set i (some v)) (env.set i (some (.val x))) := by
  refine ⟨by rw [List.length_set, List.length_set]; exact E.len, fun j d h => ?_, fun j ds h => ?_, fun j k p es fs n h1 h2 h3 h4 => ?_⟩
  · rcases set_get h with ⟨q, z⟩ | ⟨q, z⟩
    · subst q
      cases z
      exact ⟨v, set_at E.len h, r⟩
    · obtain ⟨v', h1, h2⟩ := E.val j d z
      exact ⟨v', set_keep h1 q, h2⟩
  · rcases set_get h with ⟨q, z⟩ | ⟨q, z⟩
    · cases z
    · obtain ⟨p, vs, h1, h2⟩ := E.own j ds z
      exact ⟨p, vs, set_keep h1 q, h2⟩
  · rcases set_get h1 with ⟨q, z⟩ | ⟨q, z⟩
    · cases z
    rcases set_get h2 with ⟨q2, z2⟩ | ⟨q2, z2⟩
    · cases z2
    rw [List.getElem?_set_ne (fun z => q z.symm)] at h3
    rw [List.getElem?_set_ne (fun z => q2 z.symm)] at h4
    exact E.sep j k p es fs n z z2 h3 h4
theorem EnvOk.setNone (E : EnvOk c w σ env) {i : Nat} {v : Option V} : EnvOk c w (σ.set i v) (env.set i none) := by
  refine ⟨by rw [List.length_set, List.length_set]; exact E.len, fun j d h => ?_, fun j ds h => ?_, fun j k p es fs n h1 h2 h3 h4 => ?_⟩
  · rcases set_get h with ⟨q, z⟩ | ⟨q, z⟩
    · cases z
    · obtain ⟨v', h1, h2⟩ := E.val j d z
      exact ⟨v', set_keep h1 q, h2⟩
  · rcases set_get h with ⟨q, z⟩ | ⟨q, z⟩
    · cases z
    · obtain ⟨p, vs, h1, h2⟩ := E.own j ds z
      exact ⟨p, vs, set_keep h1 q, h2⟩
  · rcases set_get h1 with ⟨q, z⟩ | ⟨q, z⟩
    · cases z
    rcases set_get h2 with ⟨q2, z2⟩ | ⟨q2, z2⟩
    · cases z2
    rw [List.getElem?_set_ne (fun z => q z.symm)] at h3
    rw [List.getElem?_set_ne (fun z => q2 z.symm)] at h4
    exact E.sep j k p es fs n z z2 h3 h4
theorem EnvOk.setOwn (E : EnvOk c w σ env) {i : Nat} {p : Addr} {vs : List V} {ds : List D} (hp : p ∈ w.O) (h : w.H p = some (.lst vs)) (r : RpsW c w vs ds) (hn : ∀ j es, j ≠ i → env[j]? = some (some (.own es)) → σ[j]? ≠ some (some (.ref p))) :
    EnvOk c w (σ.set i (some (.ref p))) (env.set i (some (.own ds))) := by
  refine ⟨by rw [List.length_set, List.length_set]; exact E.len, fun j d h => ?_, fun j es h => ?_, fun j k q es fs n h1 h2 h3 h4 => ?_⟩
  · rcases set_get h with ⟨q, z⟩ | ⟨q, z⟩
    · cases z
    · obtain ⟨v', h1, h2⟩ := E.val j d z
      exact ⟨v', set_keep h1 q, h2⟩
  · rcases set_get h with ⟨q, z⟩ | ⟨q, z⟩
    · subst q
      cases z
      exact ⟨p, vs, set_at E.len h, hp, by assumption, r⟩
    · obtain ⟨p, vs, h1, h2⟩ := E.own j es z
      exact ⟨p, vs, set_keep h1 q, h2⟩
  · rcases set_get h1 with ⟨q1, z⟩ | ⟨q1, z⟩
    · rcases set_get h2 with ⟨q2, z2⟩ | ⟨q2, z2⟩
      · exact n (by rw [q1, q2])
      · rw [List.getElem?_set_ne (fun z => q2 z.symm)] at h4
        subst q1
        rw [set_at E.len h1] at h3
        cases h3
        exact hn k fs q2 z2 h4
    rcases set_get h2 with ⟨q2, z2⟩ | ⟨q2, z2⟩
    · rw [List.getElem?_set_ne (fun z => q1 z.symm)] at h3
      subst q2
      rw [set_at E.len h2] at h4
      cases h4
      exact hn j es q1 z h3
    · rw [List.getElem?_set_ne (fun z => q1 z.symm)] at h3
      rw [List.getElem?_set_ne (fun z => q2 z.symm)] at h4
      exact E.sep j k q es fs n z z2 h3 h4
/-- name = value -/
theorem ds_set {i : Nat} {st : Stmt} (h : PS X st (tAsg (liftE c W fa) (gName i))) : PS X st (liftS c W (setS i fa)) := ps_imp h fun Dn σ H ⟨w, env, a, q⟩ =>
  stS a q fun x v w1 g1 a1 r1 q1 => (show SK c W Dn w1 w1.fu (.nx _) from q1) _ w1 rfl a1.ok (a1.env.setVal r1) (LE.refl c w1)
theorem ds_setO {i : Nat} {st : Stmt} {f : Env → R (List D)} (h : PS X st (tAsg (liftL c W f) (gName i))) : PS X st (liftS c W (setO i f)) := ps_imp h fun Dn σ H ⟨w, env, a, q⟩ => by
  refine ⟨w, env, a, R.wp_mono (wp_bo q) (fun fu ds hx p vs w' e1 hO hp hp' k g r => ?_) fun fu er h => EK_of a.ok a.env h⟩
  subst e1
  have hs : ∀ x ∈ w.O, x ∈ w'.O := fun x hx => by rw [hO]; exact List.mem_cons_of_mem _ hx
  have le := g.le a.ok
  have vv : ∀ a' o, c.vis w a' = some o → c.vis w' a' = some o := fun a' o e => by
    obtain ⟨h1, h2⟩ := hide_some.mp (le.ex _ _ e)
    refine hide_some.mpr ⟨fun z => h1 ?_, h2⟩
    have z : a' ∈ w'.O ++ (w'.nk ++ c.S) := z
    rw [hO] at z
    rcases List.mem_cons.mp z with z | z
    · exact absurd (vis_sub e) (by rw [z, hp]; intro q; cases q)
    · exact z
  have l2 : LE c w w' := ⟨vv, le.dk, le.fu⟩
  have E1 : EnvOk c w' σ env := a.env.le l2 fun q hq => ⟨hs q hq, by
    cases e : w.H q with
    | none => exact absurd e (a.ok.Oh _ hq)
    | some o => exact g.keep _ _ e (own_notdk a.ok hq)⟩
  have hpO : p ∈ w'.O := by rw [hO]; exact List.mem_cons_self
  refine (show SK c W Dn w w'.fu (.nx _) from hx) _ w' rfl k (E1.setOwn hpO hp' r fun j es n h1 h2 => ?_) l2
  obtain ⟨p2, vs2, e1, e2, e3, _⟩ := a.env.own j es h1
  rw [e1] at h2
  cases h2
  rw [hp] at e3; cases e3
/-- target = value -/
def GD (c : Base) (vs : List Nat) (g : TG) (fg : D → Env → R Env) : Prop := ∀ (w : Wd) (σ : L2.St) (env : Env) (v : V) (x : D) (k : L2.St → Hp → Prop), WOk c w → EnvOk c w σ env → RpW c w v x →
  (fg x env).wp w.fu (fun fu env' => fu = w.fu → ∀ σ', EnvOk c w σ' env' → wipe σ' vs = wipe σ vs → k σ' w.H) (fun _ _ => False) → g v σ w.H k
def GsD (c : Base) (vs : List Nat) (g : TGs) (fg : List D → Env → R Env) : Prop := ∀ (w : Wd) (σ : L2.St) (env : Env) (v : List V) (x : List D) (k : L2.St → Hp → Prop), WOk c w → EnvOk c w σ env → RpsW c w v x →
  (fg x env).wp w.fu (fun fu env' => fu = w.fu → ∀ σ', EnvOk c w σ' env' → wipe σ' vs = wipe σ vs → k σ' w.H) (fun _ _ => False) → g v σ w.H k
theorem wipe_get (σ : L2.St) : ∀ (vs : List Nat) (j : Nat), (wipe σ vs)[j]? = if j ∈ vs then (σ[j]?).map (fun _ => none) else σ[j]?
  | [], j => by rw [if_neg (by simp)]; rfl
  | v :: vs, j => by
    have ih := wipe_get σ vs j
    unfold wipe
    by_cases h : v = j
    · subst h
      rw [if_pos List.mem_cons_self]
      by_cases hl : v < σ.length
      · rw [List.getElem?_set_self (by rw [wipe_length]; exact hl), List.getElem?_eq_getElem hl]; rfl
      · rw [List.getElem?_eq_none (by rw [List.length_set, wipe_length]; omega), List.getElem?_eq_none (by omega)]; rfl
    · rw [List.getElem?_set_ne h, ih]
      by_cases hj : j ∈ vs
      · rw [if_pos hj, if_pos (List.mem_cons_of_mem _ hj)]
      · rw [if_neg hj, if_neg (fun z => (List.mem_cons.mp z).elim (fun q => h q.symm) hj)]
theorem wipe_set {σ : L2.St} {vs : List Nat} {i : Nat} {y : Option V} (h : i ∈ vs) : wipe (σ.set i y) vs = wipe σ vs := by
  apply List.ext_getElem?
  intro j
  rw [wipe_get, wipe_get]
  by_cases hj : j ∈ vs
  · rw [if_pos hj, if_pos hj]
    by_cases q : i = j
    · subst q
      by_cases hl : i < σ.length
      · rw [List.getElem?_set_self hl, List.getElem?_eq_getElem hl]; rfl
      · rw [List.getElem?_eq_none (by rw [List.length_set]; omega), List.getElem?_eq_none (by omega)]
    · rw [List.getElem?_set_ne q]
  · rw [if_neg hj, if_neg hj, List.getElem?_set_ne (fun q => hj (by rw [← q]; exact h))]
theorem wipe_wipe (σ : L2.St) (vs : List Nat) : wipe (wipe σ vs) vs = wipe σ vs := by
  apply List.ext_getElem?
  intro j
  rw [wipe_get, wipe_get]
  split
  · cases σ[j]? <;> rfl
  · rfl
theorem gd_name {vs : List Nat} {i : Nat} (h : i ∈ vs) : GD c vs (gName i) (tName i) := fun w σ env v x k _ E r q => q rfl _ (E.setVal r) (wipe_set h)
theorem gd_nil {vs : List Nat} : GsD c vs gNil tNil := fun w σ env v x k _ E r q => by
  cases r with
  | nil => exact ⟨rfl, q rfl σ E rfl⟩
  | cons _ _ => exact q.elim
theorem gd_cons {vs : List Nat} {t : TG} {u : TGs} {ft : D → Env → R Env} {fu : List D → Env → R Env} (h1 : GD c vs t ft) (h2 : GsD c vs u fu) : GsD c vs (gCons t u) (tCons ft fu) := fun w σ env v x k ok E r q => by
  cases r with
  | nil => exact q.elim
  | @cons v vr d dr r1 r2 =>
    refine ⟨v, vr, rfl, h1 w σ env v d _ ok E r1 (R.wp_mono (wp_b q) (fun fu e1 q1 ef σ1 E1 e2 => ?_) fun _ _ h => h)⟩
    subst ef
    exact h2 w σ1 e1 vr dr _ ok E1 r2 (R.wp_mono q1 (fun fu e3 q3 ef σ3 E3 e4 => q3 ef σ3 E3 (e4.trans e2)) fun _ _ h => h)
theorem RpAll.len' {K : PySem.W.Frag} {dk : List Addr} {G : Hp} {vs : List V} {ds : List D} (h : RpAll K dk G vs ds) : vs.length = ds.length := h.len
theorem gd_tup {vs : List Nat} {n : Nat} {u : TGs} {fu : List D → Env → R Env} (h : GsD c vs u fu) (hK : c.K = X.K) : GD c vs (gTup X.K n u) (tTup n fu) := fun w σ env v x k ok E r q => by
  cases x with
  | tuple ds =>
    obtain ⟨a, xs, e, h1, h2⟩ := r.isTup
    obtain ⟨q1, q2⟩ := wp_guard.mp q
    refine ⟨a, xs, e, hK ▸ sqT_vis h1, ?_, h w σ env xs ds k ok E h2 q2⟩
    rw [h2.len]; exact of_decide_eq_true q1
  | _ => exact q.elim
theorem ds_asg {vs : List Nat} {g : TG} {fg : D → Env → R Env} {st : Stmt} (hg : GD c vs g fg) (h : PS X st (tAsg (liftE c W fa) g)) : PS X st (liftS c W (asgS fa fg)) := ps_imp h fun Dn σ H ⟨w, env, a, q⟩ =>
  stS a q fun x v w1 g1 a1 r1 q1 => hg w1 σ env v x _ a1.ok a1.env r1 (R.wp_mono (wp_b q1) (fun fu e q2 ef σ' E _ => (show SK c W Dn w1 fu (.nx e) from q2) σ' w1 ef.symm a1.ok E (LE.refl c w1)) fun _ _ h => h)
theorem ds_ret (ha : PE X a (liftE c W fa)) : PS X (.Return (some a) pos) (liftS c W (retS fa)) := ps_imp (ps_ret ha) fun Dn σ H ⟨w, env, a, q⟩ =>
  stS a q fun x v w1 g1 a1 r1 q1 => (show SK c W Dn w1 w1.fu (.rt x) from q1) v w1 rfl (Nat.le_refl _) a1.ok r1
theorem ds_retO {i : Nat} {p2 : Pos} {x : Str} (h : PE X (.Name x p2) (tVar i)) : PS X (.Return (some (.Name x p2)) pos) (liftS c W (retO i)) := ps_imp (ps_ret h) fun Dn σ H ⟨w, env, a, q⟩ => by
  obtain ⟨rfl⟩ := a.h
  unfold retO at q
  split at q
  · rename_i ds hd
    obtain ⟨p, vs, h1, h2, h3, h4⟩ := a.env.own i ds hd
    exact ⟨.ref p, h1, (show SK c W Dn w w.fu (.rl ds) from q) p vs w rfl (Nat.le_refl _) a.ok h2 h3 h4⟩
  · rename_i d hd
    obtain ⟨v, h1, h2⟩ := a.env.val i d hd
    exact ⟨v, h1, (show SK c W Dn w w.fu (.rt d) from q) v w rfl (Nat.le_refl _) a.ok h2⟩
  · exact q.elim
theorem ds_retL {fl : Env → R (List D)} (ha : PE X a (liftL c W fl)) : PS X (.Return (some a) pos) (liftS c W (retL fl)) := ps_imp (ps_ret ha) fun Dn σ H ⟨w, env, a, q⟩ => by
  refine ⟨w, env, a, R.wp_mono (wp_bo q) (fun fu ds hx p vs w' e1 hO hp hp' k g r => ?_) fun fu er h => EK_of a.ok a.env h⟩
  exact (show SK c W Dn w fu (.rl ds) from hx) p vs w' e1 g.fu k (by rw [hO]; exact List.mem_cons_self) hp' r
theorem ds_retN : PS X (.Return none pos) (liftS c W retN) := ps_imp ps_retN fun Dn σ H ⟨w, env, a, q⟩ => by
  show Dn.rt .non H
  rw [← a.h]; exact (show SK c W Dn w w.fu (.rt .none) from q) .non w rfl (Nat.le_refl _) a.ok .non
theorem ds_expr (ha : PE X a (liftE c W fa)) (hs : swapsWith a none pos.line X.env = pure false := by rfl) : PS X (.Expr a pos) (liftS c W (dropS fa)) := ps_imp (ps_expr ha hs) fun Dn σ H ⟨w, env, a, q⟩ =>
  stS a q fun x v w1 g1 a1 r1 q1 => (show SK c W Dn w1 w1.fu (.nx env) from q1) σ w1 rfl a1.ok a1.env (LE.refl c w1)
theorem ds_pass : PS X (.Pass pos) (liftS c W passS) := ps_imp ps_pass fun Dn σ H ⟨w, env, a, q⟩ => by
  show Dn.nx σ H
  rw [← a.h]; exact (show SK c W Dn w w.fu (.nx env) from q) σ w rfl a.ok a.env (LE.refl c w)
theorem ds_break : PS X (.Break pos) (liftS c W brkS) := ps_imp ps_break fun Dn σ H ⟨w, env, a, q⟩ => by
  show Dn.bk σ H
  rw [← a.h]; exact (show SK c W Dn w w.fu (.bk env) from q) σ w rfl a.ok a.env (LE.refl c w)
theorem ds_continue : PS X (.Continue pos) (liftS c W ctS) := ps_imp ps_continue fun Dn σ H ⟨w, env, a, q⟩ => by
  show Dn.ct σ H
  rw [← a.h]; exact (show SK c W Dn w w.fu (.ct env) from q) σ w rfl a.ok a.env (LE.refl c w)
theorem ds_if {sa sb : List Stmt} (hc : PT X d (liftT c W ft)) (ha : PSs X sa (liftS c W f)) (hb : PSs X sb (liftS c W g)) : PS X (.If d sa sb pos) (liftS c W (ifS ft f g)) := ps_imp (ps_if hc ha hb) fun Dn σ H ⟨w, env, a, q⟩ =>
  stT a q fun k w1 g1 a1 q1 => by
    cases k with
    | true => rw [if_pos rfl] at q1 ⊢; exact ⟨w1, env, a1, q1⟩
    | false => rw [if_neg (by decide)] at q1 ⊢; exact ⟨w1, env, a1, q1⟩
theorem dss_nil : PSs X [] (liftS c W passS) := pss_imp pss_nil fun Dn σ H ⟨w, env, a, q⟩ => by
  show Dn.nx σ H
  rw [← a.h]; exact (show SK c W Dn w w.fu (.nx env) from q) σ w rfl a.ok a.env (LE.refl c w)
theorem dss_one (h : PS X st (liftS c W f)) : PSs X [st] (liftS c W f) := pss_one h
theorem dss_cons (h : PS X st (liftS c W f)) (hr : PSs X rest (liftS c W g)) : PSs X (st :: rest) (liftS c W (seqS f g)) := pss_imp (pss_cons h hr) fun Dn σ H ⟨w, env, a, q⟩ => by
  refine ⟨w, env, a, R.wp_mono (wp_b q) (fun fu o h => ?_) fun _ _ h => h⟩
  cases o with
  | nx e => exact fun σ' w' e1 k E l => by subst e1; exact ⟨w', e, ⟨rfl, k, E⟩, R.wp_mono h (fun _ _ q => q.le l) fun _ _ h => h⟩
  | rt d => exact h
  | rl d => exact h
  | bk e => exact h
  | ct e => exact h
  | ex e er => exact h
/-- a list held no more is a value -/
theorem own_free {p : Addr} {vs : List V} {ds : List D} (k : WOk c w) (h2 : p ∈ w.O) (h3 : w.H p = some (.lst vs)) (h4 : RpsW c w vs ds) : RpW c { w with O := w.O.filter fun x => decide (x ≠ p) } (.ref p) (.list ds) := by
  have hs : ∀ x ∈ w.O.filter (fun x => decide (x ≠ p)), x ∈ w.O := fun x hx => (List.mem_filter.mp hx).1
  refine .lst (.inl (hide_some.mpr ⟨fun z => ?_, h3⟩)) ((LE.sub (c := c) hs).rpAll h4)
  rcases List.mem_append.mp z with z | z
  · have := (List.mem_filter.mp z).2
    simp at this
  · rcases List.mem_append.mp z with z | z
    · exact k.dis _ h2 z
    · exact k.SH _ z (k.Of _ h2)
theorem EnvOk.frz (k : WOk c w) (E : EnvOk c w σ env) (i : Nat) : ∃ w', w'.H = w.H ∧ w'.fu = w.fu ∧ WOk c w' ∧ EnvOk c w' σ (frzE i env) ∧ LE c w w' := by
  unfold frzE
  split
  · rename_i ds hd
    obtain ⟨p, vs, h1, h2, h3, h4⟩ := E.own i ds hd
    have hs : ∀ x ∈ w.O.filter (fun x => decide (x ≠ p)), x ∈ w.O := fun x hx => (List.mem_filter.mp hx).1
    have le := LE.sub (c := c) hs
    have hi : i < env.length := (List.getElem?_eq_some_iff.mp hd).1
    refine ⟨{ w with O := w.O.filter fun x => decide (x ≠ p) }, rfl, rfl, k.sub hs, ?_, le⟩
    have rp : RpW c { w with O := w.O.filter fun x => decide (x ≠ p) } (.ref p) (.list ds) := by
      refine .lst (.inl (hide_some.mpr ⟨fun z => ?_, h3⟩)) (le.rpAll h4)
      rcases List.mem_append.mp z with z | z
      · have := (List.mem_filter.mp z).2
        simp at this
      · rcases List.mem_append.mp z with z | z
        · exact k.dis _ h2 z
        · exact k.SH _ z (k.Of _ h2)
    refine ⟨by rw [List.length_set]; exact E.len, fun j d h => ?_, fun j es h => ?_, fun j k' q es fs n e1 e2 e3 e4 => ?_⟩
    · rcases set_get h with ⟨q, z⟩ | ⟨q, z⟩
      · subst q
        cases z
        exact ⟨.ref p, h1, rp⟩
      · obtain ⟨v', e1, e2⟩ := E.val j d z
        exact ⟨v', e1, le.rp e2⟩
    · rcases set_get h with ⟨q, z⟩ | ⟨q, z⟩
      · cases z
      · obtain ⟨p', vs', e1, e2, e3, e4⟩ := E.own j es z
        refine ⟨p', vs', e1, List.mem_filter.mpr ⟨e2, decide_eq_true fun z' => ?_⟩, e3, le.rpAll e4⟩
        subst z'
        exact E.sep j i p' es ds q z hd e1 h1
    · rcases set_get e1 with ⟨q1, z⟩ | ⟨q1, z⟩
      · cases z
      rcases set_get e2 with ⟨q2, z2⟩ | ⟨q2, z2⟩
      · cases z2
      exact E.sep j k' q es fs n z z2 e3 e4
  · exact ⟨w, rfl, rfl, k, E, LE.refl c w⟩
theorem ds_frz {i : Nat} (h : PS X st (liftS c W f)) : PS X st (liftS c W (frzS i f)) := ps_imp h fun Dn σ H ⟨w, env, a, q⟩ => by
  obtain ⟨w', h1, hf, k, E, le⟩ := a.env.frz a.ok i
  refine ⟨w', frzE i env, ⟨h1.trans a.h, k, E⟩, ?_⟩
  rw [hf]
  exact R.wp_mono (show (f (frzE i env)).wp w.fu (SK c W Dn w) _ from q) (fun _ _ q => q.le le) fun _ _ h => h
end
end DL
namespace DL
open PySem PySem.Spec PyProof.Rows L2
/-- an iterator that hands out these data, in every later world -/
structure ItD (c : Base) (J : It) (w : Wd) (ds : List D) : Prop where
  go : ∀ w' i, LE c w w' → WOk c w' → i < ds.length → J.go i w'.H
  yld : ∀ w' i x H2, LE c w w' → WOk c w' → J.yld i w'.H x H2 → ∀ d, ds[i]? = some d → ∃ w2, w2.H = H2 ∧ w2.fu = w'.fu ∧ Grow c w' w2 ∧ RpW c w2 x d
  stop : ∀ w' i, LE c w w' → WOk c w' → i = ds.length → J.stop i w'.H
/-- the same, over what the place's own lists are as long as nobody changes them -/
structure ItC (c : Base) (J : It) (w : Wd) (ds : List D) : Prop where
  go : ∀ w' i, LE c w w' → WOk c w' → (∀ p ∈ w.O, w'.H p = w.H p) → i < ds.length → J.go i w'.H
  yld : ∀ w' i x H2, LE c w w' → WOk c w' → (∀ p ∈ w.O, w'.H p = w.H p) → J.yld i w'.H x H2 → ∀ d, ds[i]? = some d → ∃ w2, w2.H = H2 ∧ w2.fu = w'.fu ∧ Grow c w' w2 ∧ RpW c w2 x d
  stop : ∀ w' i, LE c w w' → WOk c w' → (∀ p ∈ w.O, w'.H p = w.H p) → i = ds.length → J.stop i w'.H
theorem ItD.toC {c : Base} {J : It} {w : Wd} {ds : List D} (h : ItD c J w ds) : ItC c J w ds := ⟨fun w' i l k _ => h.go w' i l k, fun w' i x H2 l k _ => h.yld w' i x H2 l k, fun w' i l k _ => h.stop w' i l k⟩
def liftIc (c : Base) (W : WX) (f : Env → R (List D)) : TI := fun σ H Rr => ∃ w env, At c σ H w env ∧ (f env).wp w.fu (fun fu ds => ∀ J w', w'.fu = fu → Grow c w w' → ItC c J w' ds → Rr J w'.H) (EK c W σ w)
def liftI (c : Base) (W : WX) (f : Env → R (List D)) : TI := fun σ H Rr => ∃ w env, At c σ H w env ∧ (f env).wp w.fu (fun fu ds => ∀ J w', w'.fu = fu → Grow c w w' → ItD c J w' ds → Rr J w'.H) (EK c W σ w)
def loopL (body : D → Env → R Out) : List D → Env → R Out
  | [], env => .ret (.nx env)
  | x :: xs, env => (body x env).bind fun o => match o with
    | .nx e => loopL body xs e
    | .ct e => loopL body xs e
    | .bk e => .ret (.nx e)
    | o => .ret o
def forS (fi : Env → R (List D)) (tg : D → Env → R Env) (fb : Env → R Out) : Env → R Out := exS fi fun ds env => loopL (fun d e => (tg d e).bind fb) ds env
def loopW (ft : Env → R Bool) (fb : Env → R Out) : Nat → Env → R Out
  | 0, _ => .bad
  | n + 1, env => exS ft (fun k env => if k = true then (fb env).bind fun o => match o with
    | .nx e => loopW ft fb n e
    | .ct e => loopW ft fb n e
    | .bk e => .ret (.nx e)
    | o => .ret o
    else .ret (.nx env)) env
/-- a while, of any number of turns below a thousand million millions -/
def whileS (ft : Env → R Bool) (fb : Env → R Out) : Env → R Out := loopW ft fb 1000000000000000
def compL (body : D → R (Option D)) : List D → R (List D)
  | [] => .ret []
  | x :: xs => (body x).bind fun o => (compL body xs).bind fun r => .ret (match o with | some y => y :: r | none => r)
def noErr {α : Type} (m : R α) : R α := m.both .ret fun _ => .bad
def wipeE (env : Env) : List Nat → Env
  | [] => env
  | v :: vs => (wipeE env vs).set v none
def compD (fi : Env → R (List D)) (tg : D → Env → R Env) (ft : Env → R Bool) (fe : Env → R D) (vs : List Nat) : Env → R (List D) := fun env => (fi env).bind fun ds => guard' (decide (ds.length ≤ 16777216))
  (compL (fun d => noErr ((tg d (wipeE env vs)).bind fun e => (ft e).bind fun k => if k = true then (fe e).bind fun y => .ret (some y) else .ret none)) ds)
def yesT : Env → R Bool := fun _ => .ret true
section
variable {X : Cx} {c : Base} {W : WX} {w w' w1 w2 : Wd} {σ : L2.St} {env : Env} {e a b d : Expr} {fa fb fc : Env → R D} {ft fu : Env → R Bool} {fr fi : Env → R (List D)} {pos p pos2 : Pos} {st : Stmt} {rest : List Stmt} {f g : Env → R Out}
theorem noErr_wp {α : Type} {m : R α} {fu : Nat} {Q : Nat → α → Prop} {E : Nat → Er → Prop} (h : (noErr m).wp fu Q E) : m.wp fu Q (fun _ _ => False) := wp_bo h
theorem drop_at {α : Type} {l : List α} {i : Nat} {x : α} (h : l[i]? = some x) : l.drop i = x :: l.drop (i + 1) := by
  obtain ⟨h1, h2⟩ := List.getElem?_eq_some_iff.mp h
  rw [← h2]; exact List.drop_eq_getElem_cons h1
theorem ds_for {vs : List Nat} {g : TG} {tg : D → Env → R Env} (hx : PS X st (tFor (liftI c W fi) g (liftS c W f))) (hg : GD c vs g tg) : PS X st (liftS c W (forS fi tg f)) := ps_imp hx fun Dn σ H ⟨w, env, a, q⟩ => by
  refine ⟨w, env, a, R.wp_mono (wp_bo q) (fun fu ds hd J w1 e1 g1 it => ?_) fun fu er h => EK_of a.ok a.env h⟩
  subst e1
  have a1 := a.grow g1
  refine ⟨fun i m σ' H' => m = ds.length - i ∧ i ≤ ds.length ∧ ∃ w' env', At c σ' H' w' env' ∧ LE c w1 w' ∧ (loopL (fun d e => (tg d e).bind f) (ds.drop i) env').wp w'.fu (SK c W Dn w') fun _ _ => False, ⟨ds.length, rfl, Nat.zero_le _, w1, env, a1, LE.refl c w1, R.wp_mono hd (fun _ _ q => q.le (g1.le a.ok)) fun _ _ h => h⟩, ?_⟩
  rintro i m σ' H' ⟨rfl, hi, w', env', a', le, q'⟩
  obtain ⟨rfl⟩ := a'.h
  by_cases hlt : i < ds.length
  · refine .inr ⟨it.go w' i le a'.ok hlt, fun σ2 H2 => ∃ w2 e2, At c σ2 H2 w2 e2 ∧ LE c w1 w2 ∧ (loopL (fun d e => (tg d e).bind f) (ds.drop (i + 1)) e2).wp w2.fu (SK c W Dn w2) fun _ _ => False, fun σ2 H2 ⟨w2, e2, h1, h2, h3⟩ => ⟨ds.length - (i + 1), by omega, rfl, hlt, w2, e2, h1, h2, h3⟩, fun x H2 hy => ?_⟩
    obtain ⟨w2, rfl, hf2, g2, r2⟩ := it.yld w' i x H2 le a'.ok hy ds[i] (List.getElem?_eq_getElem hlt)
    rw [drop_at (List.getElem?_eq_getElem hlt)] at q'
    have a2 := a'.grow g2
    have le2 := g2.le a'.ok
    have q2 : (((tg ds[i] env').bind f).bind _).wp w'.fu (SK c W Dn w') (fun _ _ => False) := q'
    rw [← hf2] at q2
    refine hg w2 σ' env' x ds[i] _ a2.ok a2.env r2 (R.wp_mono (wp_b (wp_b q2)) (fun fu e3 q3 ef σ3 E3 _ => ?_) fun _ _ h => h)
    subst ef
    refine ⟨w2, e3, ⟨rfl, a2.ok, E3⟩, R.wp_mono q3 (fun fu o q4 => ?_) fun _ _ h => h⟩
    have q5 := R.wp_mono q4 (fun _ _ q => SK.le le2 q) fun _ _ h => h
    have nxt : ∀ e', (loopL (fun d e => (tg d e).bind f) (ds.drop (i + 1)) e').wp fu (SK c W Dn w2) (fun _ _ => False) → ∀ σ4 w4, w4.fu = fu → WOk c w4 → EnvOk c w4 σ4 e' → LE c w2 w4 → ∃ w2 e2, At c σ4 w4.H w2 e2 ∧ LE c w1 w2 ∧ (loopL (fun d e => (tg d e).bind f) (ds.drop (i + 1)) e2).wp w2.fu (SK c W Dn w2) fun _ _ => False :=
      fun e' q6 σ4 w4 ef k4 E4 l4 => by subst ef; exact ⟨w4, e', ⟨rfl, k4, E4⟩, le.trans (le2.trans l4), R.wp_mono q6 (fun _ _ q => q.le l4) fun _ _ h => h⟩
    cases o with
    | nx e' => exact nxt e' q5
    | ct e' => exact nxt e' q5
    | bk e' => exact q5
    | rt d => exact q5
    | rl d => exact q5
    | ex e' er => exact q5
  · have e : i = ds.length := by omega
    refine .inl ⟨it.stop w' i le a'.ok e, ?_⟩
    rw [List.drop_eq_nil_of_le (by omega)] at q'
    exact (show SK c W Dn w' w'.fu (.nx env') from q') σ' w' rfl a'.ok a'.env (LE.refl c w')
theorem ds_while (hx : PS X st (tWhile (liftT c W ft) (liftS c W f))) : PS X st (liftS c W (whileS ft f)) := ps_imp hx fun Dn σ H ⟨w, env, a, q⟩ => by
  refine ⟨fun m σ' H' => ∃ w' env', At c σ' H' w' env' ∧ (loopW ft f m env').wp w'.fu (SK c W Dn w') fun _ _ => False, ⟨1000000000000000, w, env, a, q⟩, ?_⟩
  rintro m σ' H' ⟨w', env', a', q'⟩
  obtain ⟨rfl⟩ := a'.h
  cases m with
  | zero => exact q'.elim
  | succ m =>
    refine stT a' q' fun k w1 g1 a1 q1 => ?_
    cases k with
    | false => rw [if_neg (by decide)] at q1 ⊢; exact (show SK c W Dn w1 w1.fu (.nx env') from q1) σ' w1 rfl a1.ok a1.env (LE.refl c w1)
    | true =>
      rw [if_pos rfl] at q1 ⊢
      refine ⟨fun σ2 H2 => ∃ w2 e2, At c σ2 H2 w2 e2 ∧ (loopW ft f m e2).wp w2.fu (SK c W Dn w2) fun _ _ => False, fun σ2 H2 h => ⟨m, Nat.lt_succ_self _, h⟩, w1, env', a1, R.wp_mono (wp_b q1) (fun fu o q4 => ?_) fun _ _ h => h⟩
      have nxt : ∀ e', (loopW ft f m e').wp fu (SK c W Dn w1) (fun _ _ => False) → ∀ σ4 w4, w4.fu = fu → WOk c w4 → EnvOk c w4 σ4 e' → LE c w1 w4 → ∃ w2 e2, At c σ4 w4.H w2 e2 ∧ (loopW ft f m e2).wp w2.fu (SK c W Dn w2) fun _ _ => False :=
        fun e' q6 σ4 w4 ef k4 E4 l4 => by subst ef; exact ⟨w4, e', ⟨rfl, k4, E4⟩, R.wp_mono q6 (fun _ _ q => q.le l4) fun _ _ h => h⟩
      cases o with
      | nx e' => exact nxt e' q4
      | ct e' => exact nxt e' q4
      | bk e' => exact q4
      | rt d => exact q4
      | rl d => exact q4
      | ex e' er => exact q4
theorem EnvOk.wipe (E : EnvOk c w σ env) : ∀ vs, EnvOk c w (L2.wipe σ vs) (wipeE env vs)
  | [] => E
  | v :: vs => (EnvOk.wipe E vs).setNone
/-- a comprehension's list -/
theorem tLc_ofC {vs : List Nat} {g : TG} {tg : D → Env → R Env} (hg : GD c vs g tg) : ∀ σ H Q, liftL c W (compD fi tg ft fa vs) σ H Q → tLc (liftIc c W fi) g (liftT c (fun _ _ _ _ => False) ft) (liftE c (fun _ _ _ _ => False) fa) vs σ H Q := fun σ H Q ⟨w, env, a, q⟩ => by
  refine ⟨w, env, a, R.wp_mono (wp_b q) (fun fu ds hd J w1 e1 g1 it => ?_) fun _ _ h => h⟩
  subst e1
  obtain ⟨hl, hd⟩ := guard_line hd
  intro Dp hDp
  generalize hbody : (fun d => noErr ((tg d (wipeE env vs)).bind fun e => (ft e).bind fun k => if k = true then (fa e).bind fun y => R.ret (some y) else R.ret none)) = body at hd
  obtain ⟨k1, kr⟩ := Grow.asOwn (vs := []) g1.ok hDp
  have a1 := a.grow g1
  let Post : Nat → List D → Prop := fun fu ds => ∀ p vs w', w'.fu = fu → w'.O = p :: w.O → w.H p = none → w'.H p = some (.lst vs) → WOk c w' → Grow c w { w' with O := w.O } → RpsW c w' vs ds → Q (.ref p) w'.H
  refine ⟨fun i m H' => m = ds.length - i ∧ i ≤ ds.length ∧ ∃ w' us acc, w'.H = H' ∧ w'.O = Dp :: w.O ∧ WOk c w' ∧ Grow c w1 { w' with O := w.O } ∧ w'.H Dp = some (.lst us) ∧ RpsW c w' us acc ∧ acc.length ≤ i ∧ (compL body (ds.drop i)).wp w'.fu (fun fu r => Post fu (acc ++ r)) (EK c W σ w), ⟨ds.length, rfl, Nat.zero_le _, { O := Dp :: w1.O, nk := w1.nk, H := upd w1.H Dp (.lst []), fu := w1.fu }, [], [], rfl, by rw [g1.O], k1, ?_, upd_same, .nil, Nat.le_refl _, ?_⟩, ?_⟩
  · have g := Grow.new (o := .lst []) g1.ok hDp
    have e : ({ O := w.O, nk := w1.nk, H := upd w1.H Dp (.lst []), fu := w1.fu } : Wd) = { w1 with H := upd w1.H Dp (.lst []) } := by rw [g1.O]
    show Grow c w1 { O := w.O, nk := w1.nk, H := upd w1.H Dp (.lst []), fu := w1.fu }
    rw [e]; exact g
  · exact R.wp_mono hd (fun _ r h => h) fun _ _ h => h
  rintro i m H' ⟨rfl, hi, w', us, acc, rfl, hO, k', gr, hD', rA, hal, q'⟩
  have hs : ∀ x ∈ w.O, x ∈ w'.O := fun x hx => by rw [hO]; exact List.mem_cons_of_mem _ hx
  -- the world in which the new list is owned lies behind w1
  have le1 : LE c w1 w' := by
    have le := gr.le g1.ok
    refine ⟨fun a' o e => ?_, le.dk, le.fu⟩
    obtain ⟨h1, h2⟩ := hide_some.mp (le.ex _ _ e)
    refine hide_some.mpr ⟨fun z => h1 ?_, h2⟩
    have z : a' ∈ w'.O ++ (w'.nk ++ c.S) := z
    rw [hO] at z
    rcases List.mem_cons.mp z with z | z
    · exact absurd (vis_sub e) (by rw [z, hDp]; intro q; cases q)
    · exact z
  have E' : EnvOk c w' (L2.wipe σ vs) (wipeE env vs) := (a1.env.wipe vs).le le1 fun q hq => ⟨hs q (by rw [← g1.O]; exact hq), by
    cases e : w1.H q with
    | none => exact absurd e (g1.ok.Oh _ hq)
    | some o => exact gr.keep _ _ e (own_notdk g1.ok hq)⟩
  have same1 : ∀ p ∈ w1.O, w'.H p = w1.H p := fun q hq => by
    cases e : w1.H q with
    | none => exact absurd e (g1.ok.Oh _ hq)
    | some o => exact gr.keep _ _ e (own_notdk g1.ok hq)
  by_cases hlt : i < ds.length
  · refine .inr ⟨it.go w' i le1 k' same1 hlt, fun H2 => ∃ w2 us2 acc2, w2.H = H2 ∧ w2.O = Dp :: w.O ∧ WOk c w2 ∧ Grow c w1 { w2 with O := w.O } ∧ w2.H Dp = some (.lst us2) ∧ RpsW c w2 us2 acc2 ∧ acc2.length ≤ i + 1 ∧ (compL body (ds.drop (i + 1))).wp w2.fu (fun fu r => Post fu (acc2 ++ r)) (EK c W σ w), fun H2 ⟨w2, us2, acc2, h⟩ => ⟨ds.length - (i + 1), by omega, rfl, hlt, w2, us2, acc2, h⟩, fun x H2 hy => ?_⟩
    obtain ⟨w2, rfl, hf2, g2, r2⟩ := it.yld w' i x H2 le1 k' same1 hy ds[i] (List.getElem?_eq_getElem hlt)
    rw [drop_at (List.getElem?_eq_getElem hlt)] at q'
    have q3 := wp_b (show ((body ds[i]).bind fun o => (compL body (ds.drop (i + 1))).bind fun r => R.ret (match o with | some y => y :: r | none => r)).wp w'.fu (fun fu r => Post fu (acc ++ r)) (EK c W σ w) from q')
    rw [← hbody] at q3
    have q4 := noErr_wp q3
    rw [hbody, ← hf2] at q4
    -- what persists from w' on
    have grow2 : ∀ w3, Grow c w' w3 → w3.O = Dp :: w.O ∧ WOk c w3 ∧ Grow c w1 { w3 with O := w.O } ∧ w3.H Dp = some (.lst us) ∧ RpsW c w3 us acc := fun w3 g3 => by
      have hDk := own_notdk k' (show Dp ∈ w'.O by rw [hO]; exact List.mem_cons_self)
      refine ⟨g3.O.trans hO, g3.ok, ?_, g3.keep _ _ hD' hDk, (g3.le k').rpAll rA⟩
      have gg : Grow c { w' with O := w.O } { w3 with O := w.O } := ⟨rfl, g3.fu, g3.keep, g3.free, g3.nk, g3.ok.sub (by rw [g3.O]; exact hs)⟩
      exact gr.trans g1.ok gg
    refine hg w2 _ _ x ds[i] _ g2.ok (E'.grow k' g2) r2 (R.wp_mono (wp_b q4) (fun fu e3 q5 ef σ3 E3 ew => ?_) fun _ _ h => h)
    subst ef
    refine ⟨ew.trans (wipe_wipe σ vs), w2, e3, ⟨rfl, g2.ok, E3⟩, R.wp_mono (wp_b q5) (fun fu kk q6 w4 ef4 g4 => ?_) fun fu er h => h.elim⟩
    subst ef4
    have g24 := g2.trans k' g4
    cases kk with
    | false =>
      rw [if_neg (by decide)] at q6
      refine iteF ?_
      obtain ⟨h1, h2, h3, h4, h5⟩ := grow2 w4 g24
      refine ⟨w4, us, acc, rfl, h1, h2, h3, h4, h5, by omega, ?_⟩
      exact R.wp_mono (wp_b (show ((compL body (ds.drop (i + 1))).bind fun r => R.ret r).wp w4.fu (fun fu r => Post fu (acc ++ r)) (EK c W σ w) from q6)) (fun _ r h => h) fun _ _ h => h
    | true =>
      rw [if_pos rfl] at q6
      refine iteT ?_
      refine ⟨w4, e3, ⟨rfl, g4.ok, E3.grow g2.ok g4⟩, R.wp_mono (wp_b q6) (fun fu y q7 v w5 ef5 g5 r5 => ?_) fun fu er h => h.elim⟩
      subst ef5
      have g25 := g24.trans k' g5
      obtain ⟨h1, h2, h3, h4, h5⟩ := grow2 w5 g25
      have hDO : Dp ∈ w5.O := by rw [h1]; exact List.mem_cons_self
      refine ⟨us, h4, by rw [h5.len]; omega, { w5 with H := upd w5.H Dp (.lst (us ++ [v])) }, us ++ [v], acc ++ [y], rfl, h1, h2.mut hDO, ?_, upd_same, ?_, by rw [List.length_append]; show acc.length + 1 ≤ _; omega, ?_⟩
      · -- the owned place's change is unseen
        refine ⟨h3.O, h3.fu, fun a' o e n => ?_, fun a' e => ?_, h3.nk, (h2.mut hDO).sub (fun x hx => by show x ∈ w5.O; rw [h1]; exact List.mem_cons_of_mem _ hx)⟩
        · show upd w5.H Dp _ a' = _
          rw [upd_ne (fun z => by rw [z, hDp] at e; cases e)]; exact h3.keep _ _ e n
        · by_cases z : a' = Dp
          · subst z; exact hDp
          · have e' : upd w5.H Dp (.lst (us ++ [v])) a' = none := e
            rw [upd_ne z] at e'; exact h3.free _ e'
      · have e := vis_mut (c := c) (o := .lst (us ++ [v])) hDO
        show RpAll c.K (c.dks w5) (c.vis { w5 with H := upd w5.H Dp (.lst (us ++ [v])) }) _ _
        rw [e]
        exact h5.app (.cons r5 .nil)
      · have q8 := wp_b (show ((compL body (ds.drop (i + 1))).bind fun r => R.ret (y :: r)).wp w5.fu (fun fu r => Post fu (acc ++ r)) (EK c W σ w) from q7)
        exact R.wp_mono q8 (fun _ r h => by rw [List.append_assoc]; exact h) fun _ _ h => h
  · have e : i = ds.length := by omega
    refine .inl ⟨it.stop w' i le1 k' same1 e, ?_⟩
    rw [List.drop_eq_nil_of_le (by omega)] at q'
    have q2 : Post w'.fu (acc ++ []) := q'
    rw [List.append_nil] at q2
    exact q2 Dp us w' rfl hO (g1.free _ hDp) hD' k' (g1.trans a.ok gr) rA
theorem tLc_of {vs : List Nat} {g : TG} {tg : D → Env → R Env} (hg : GD c vs g tg) : ∀ σ H Q, liftL c W (compD fi tg ft fa vs) σ H Q → tLc (liftI c W fi) g (liftT c (fun _ _ _ _ => False) ft) (liftE c (fun _ _ _ _ => False) fa) vs σ H Q := fun σ H Q h => by
  obtain ⟨w, env, a, q⟩ := tLc_ofC hg σ H Q h
  exact ⟨w, env, a, R.wp_mono q (fun fu ds hd J w1 e1 g1 it => hd J w1 e1 g1 it.toC) fun _ _ h => h⟩
theorem dl_lcC {vs : List Nat} {g : TG} {tg : D → Env → R Env} (hx : PE X e (tLc (liftIc c W fi) g (liftT c (fun _ _ _ _ => False) ft) (liftE c (fun _ _ _ _ => False) fa) vs)) (hg : GD c vs g tg) : PE X e (liftL c W (compD fi tg ft fa vs)) := pe_imp hx (tLc_ofC hg)
theorem dsl_lcC {i : Nat} {vs : List Nat} {g : TG} {tg : D → Env → R Env} (hx : PS X st (tAsg (tLc (liftIc c W fi) g (liftT c (fun _ _ _ _ => False) ft) (liftE c (fun _ _ _ _ => False) fa) vs) (gName i))) (hg : GD c vs g tg) : PS X st (tAsg (liftL c W (compD fi tg ft fa vs)) (gName i)) := ps_imp hx fun D σ H q => tLc_ofC hg σ H _ q
theorem dl_lc {vs : List Nat} {g : TG} {tg : D → Env → R Env} (hx : PE X e (tLc (liftI c W fi) g (liftT c (fun _ _ _ _ => False) ft) (liftE c (fun _ _ _ _ => False) fa) vs)) (hg : GD c vs g tg) : PE X e (liftL c W (compD fi tg ft fa vs)) := pe_imp hx (tLc_of hg)
/-- name = [..] on one line -/
theorem dsl_lc {i : Nat} {vs : List Nat} {g : TG} {tg : D → Env → R Env} (hx : PS X st (tAsg (tLc (liftI c W fi) g (liftT c (fun _ _ _ _ => False) ft) (liftE c (fun _ _ _ _ => False) fa) vs) (gName i))) (hg : GD c vs g tg) : PS X st (tAsg (liftL c W (compD fi tg ft fa vs)) (gName i)) := ps_imp hx fun D σ H q => tLc_of hg σ H _ q
theorem dts_nil : PTs X [] (liftT c W yesT) := ⟨fun pins s σ H Q I ⟨w, env, a, q⟩ => pts_nil.run pins s σ H Q I (by
  show Q true H
  rw [← a.h]
  exact (show BQ c w Q w.fu true from q) w rfl (Grow.refl a.ok))⟩
theorem dts_one {c' : Expr} (h : PT X c' (liftT c W ft)) : PTs X [c'] (liftT c W ft) := pts_one h
end
end DL
namespace DL
open PySem PySem.Spec PyProof.Rows L2
def orR (r r' : R2) : R2 := fun x y H Q => r x y H Q ∨ r' x y H Q
theorem OpR.or {X : Cx} {f : Value → Value → Sem Value} {r r' : R2} (h : OpR X f r) (h' : OpR X f r') : OpR X f (orR r r') := fun pins s σ H x y v u Q I rx ry q => by
  rcases q with q | q
  · exact h pins s σ H x y v u Q I rx ry q
  · exact h' pins s σ H x y v u Q I rx ry q
def orC (r r' : List V → Hp → VK → Prop) : List V → Hp → VK → Prop := fun x H Q => r x H Q ∨ r' x H Q
theorem CallR.or {X : Cx} {f : Value} {r r' : List V → Hp → VK → Prop} (h : CallR X f r) (h' : CallR X f r') : CallR X f (orC r r') := fun pins s σ H x v Q I rx q => by
  rcases q with q | q
  · exact h pins s σ H x v Q I rx q
  · exact h' pins s σ H x v Q I rx q
def gAdd : D → D → R D
  | .int i, .int j => .ret (.int (i + j))
  | .str a, .str b => guard' (decide (a.length + b.length ≤ 16777216)) (.ret (.str (a ++ b)))
  | .list a, .list b => guard' (decide (a.length + b.length ≤ 16777216)) (.ret (.list (a ++ b)))
  | .tuple a, .tuple b => guard' (decide (a.length + b.length ≤ 16777216)) (.ret (.tuple (a ++ b)))
  | _, _ => .bad
/-- list + list of any standing -/
def rCatL (K : PySem.W.Frag) : R2 := fun x y H Q => ∃ l b xs zs, x = .ref l ∧ y = .ref b ∧ SqL K H l xs ∧ SqL K H b zs ∧ xs.length + zs.length ≤ sizeLine ∧ ∀ p, H p = none → Q (.ref p) (upd H p (.lst (xs ++ zs)))
theorem op_catL {X : Cx} : OpR X (binaryOp .Add) (rCatL X.K) := by
  intro pins s σ H x y v u Q I rx ry h
  obtain ⟨l, b, xs, zs, rfl, rfl, hH, hB, hz, q⟩ := h
  cases rx
  cases ry
  obtain ⟨i1, r, ⟨⟨c1, d1, t1, s1⟩, n, e, k1, k2, k3⟩, _⟩ := I.list hH
  obtain ⟨i2, r2, ⟨⟨c2, d2, t2, s2⟩, n2, e2, j1, j2, j3⟩, _⟩ := I.list hB
  simp only at k1 k2 k3 j1 j2 j3
  subst k1 k2 k3 j1 j2 j3
  have hl := r.length
  have hl2 := r2.length
  have hs : i1.toArray.size + i2.toArray.size ≤ sizeLine := by
    rw [List.size_toArray, List.size_toArray]; omega
  refine concat_meets ⟨_, e, rfl⟩ ⟨_, e2, rfl⟩ noFill_list_add seq_list_add PySem.F.slot_list_add PySem.F.entry_list_add (PySem.F.args_list_add_2 _ _) (list_addW l b i1.toArray i2.toArray n n2 none none s1 s2 hs) ⟨e, e2, ?_⟩
  have ea : i1.toArray ++ i2.toArray = (i1 ++ i2).toArray := by simp
  rw [ea]
  exact ⟨.ref _, _, I.lnew (t' := s.toks) (r.append r2) (by rw [List.length_append]; omega), rfl, q _ I.fresh⟩
def rAddAll (K : PySem.W.Frag) : R2 := orR (rI0 fun i j => .int (i + j)) (orR rAddS (orR (rCatL K) (rCatF K)))
theorem op_addAll {X : Cx} : OpR X (binaryOp .Add) (rAddAll X.K) := OpR.or op_add (OpR.or op_add_str (OpR.or op_catL op_catF))
theorem new_tup {c : Base} {w : Wd} {Q : VK} {vs : List V} {ds : List D} (k : WOk c w) (r : RpsW c w vs ds) (h : PQ c w Q w.fu (.tuple ds)) : ∀ p ob, w.H p = none → ob.dict = none → Q (.ref p) (upd w.H p (.frz ob (.tup vs))) := fun p ob hp hd => by
  have g := Grow.new (o := .frz ob (.tup vs)) k hp
  exact h _ _ (by rfl) g (.tup (sqN_new k hp hd) ((g.le k).rpAll r))
theorem new_lst {c : Base} {w : Wd} {Q : VK} {vs : List V} {ds : List D} (k : WOk c w) (r : RpsW c w vs ds) (h : PQ c w Q w.fu (.list ds)) : ∀ p, w.H p = none → Q (.ref p) (upd w.H p (.lst vs)) := fun p hp => by
  have g := Grow.new (o := .lst vs) k hp
  exact h _ _ (by rfl) g (.lst (sqL_new k hp) ((g.le k).rpAll r))
theorem PQ.here {c : Base} {w : Wd} {Q : VK} {v : V} {d : D} (k : WOk c w) (h : PQ c w Q w.fu d) (r : RpW c w v d) : Q v w.H := h v w rfl (Grow.refl k) r
/-- K of the base is that of the place -/
def OpDK (r : PySem.W.Frag → R2) (g : D → D → R D) : Prop := ∀ c : Base, OpAt c (r c.K) g
theorem d_add : OpDK rAddAll gAdd := fun c W σ w x y v u Q k r1 r2 h => by
  cases x <;> cases y <;> first
    | exact h.elim
    | skip
  · obtain rfl := r1.isInt
    obtain rfl := r2.isInt
    exact .inl ⟨_, _, rfl, rfl, PQ.here k h (.int _)⟩
  · obtain rfl := r1.isStr
    obtain rfl := r2.isStr
    obtain ⟨h1, h2⟩ := wp_guard.mp h
    exact .inr (.inl ⟨_, _, rfl, rfl, line_eq.mpr (of_decide_eq_true h1), PQ.here k h2 (.str _)⟩)
  · obtain ⟨a, xs, rfl, s1, a1⟩ := r1.isLst
    obtain ⟨b, ys, rfl, s2, a2⟩ := r2.isLst
    obtain ⟨h1, h2⟩ := wp_guard.mp h
    exact .inr (.inr (.inl ⟨a, b, xs, ys, rfl, rfl, sqL_vis s1, sqL_vis s2, by rw [a1.len, a2.len]; exact line_eq.mpr (of_decide_eq_true h1), new_lst k (a1.app a2) h2⟩))
  · obtain ⟨a, xs, rfl, s1, a1⟩ := r1.isTupN
    obtain ⟨b, ys, rfl, s2, a2⟩ := r2.isTupN
    obtain ⟨h1, h2⟩ := wp_guard.mp h
    refine .inr (.inr (.inr ⟨a, b, xs, ys, rfl, rfl, sqT_vis s1.sqT, sqT_vis s2.sqT, by rw [a1.len, a2.len]; exact line_eq.mpr (of_decide_eq_true h1), fun e => ?_, fun _ e => ?_, fun _ _ => new_tup k (a1.app a2) h2⟩))
    · subst e
      cases a1
      exact PQ.here k h2 (.tup s2 a2)
    · subst e
      cases a2
      rw [List.append_nil] at h2
      exact PQ.here k h2 (.tup s1 a1)
def gSub (x y : D) : R D := match x, y with
  | .int i, .int j => .ret (.int (i - j))
  | _, _ => .bad
theorem d_sub : OpD (rI0 fun i j => .int (i - j)) gSub := fun c W σ w x y v u Q k r1 r2 h => by
  cases x <;> cases y <;> first
    | exact h.elim
    | skip
  obtain rfl := r1.isInt
  obtain rfl := r2.isInt
  exact ⟨_, _, rfl, rfl, PQ.here k h (.int _)⟩
/-- times: ints, a list or tuple so many times -/
def gMul (x y : D) : R D := match x, y with
  | .int i, .int j => guard' (decide ((-18446744073709551616 < i ∧ i < 18446744073709551616) ∨ (-18446744073709551616 < j ∧ j < 18446744073709551616))) (.ret (.int (i * j)))
  | _, _ => .bad
theorem d_mul : OpD (rI CMul fun i j => .int (i * j)) gMul := fun c W σ w x y v u Q k r1 r2 h => by
  cases x <;> cases y <;> first
    | exact h.elim
    | skip
  obtain rfl := r1.isInt
  obtain rfl := r2.isInt
  obtain ⟨h1, h2⟩ := wp_guard.mp h
  have h3 := of_decide_eq_true h1
  exact ⟨_, _, rfl, rfl, h3, PQ.here k h2 (.int _)⟩
def gMod (x y : D) : R D := match x, y with
  | .int i, .int j => guard' (decide (0 < j)) (.ret (.int (i % j)))
  | _, _ => .bad
theorem d_mod : OpD (rI (fun _ j => 0 < j) fun i j => .int (i % j)) gMod := fun c W σ w x y v u Q k r1 r2 h => by
  cases x <;> cases y <;> first
    | exact h.elim
    | skip
  obtain rfl := r1.isInt
  obtain rfl := r2.isInt
  obtain ⟨h1, h2⟩ := wp_guard.mp h
  exact ⟨_, _, rfl, rfl, of_decide_eq_true h1, PQ.here k h2 (.int _)⟩
def gDiv (x y : D) : R D := match x, y with
  | .int i, .int j => guard' (decide (0 < j ∧ j < 2 ^ 200)) (.ret (.int (i / j)))
  | _, _ => .bad
theorem d_div : OpD (rI CDivW fun i j => .int (i / j)) gDiv := fun c W σ w x y v u Q k r1 r2 h => by
  cases x <;> cases y <;> first
    | exact h.elim
    | skip
  obtain rfl := r1.isInt
  obtain rfl := r2.isInt
  obtain ⟨h1, h2⟩ := wp_guard.mp h
  obtain ⟨h3, h4⟩ := of_decide_eq_true h1
  exact ⟨_, _, rfl, rfl, wide_div h3 (b := 200) (by omega) (by decide) (by decide), PQ.here k h2 (.int _)⟩
def gPow (x y : D) : R D := match x, y with
  | .int i, .int j => guard' (decide (0 ≤ j ∧ j ≤ 1000 ∧ i.natAbs < 2 ^ 64)) (.ret (.int (i ^ j.toNat)))
  | _, _ => .bad
theorem d_pow : OpD (rI CPow fun i j => .int (i ^ j.toNat)) gPow := fun c W σ w x y v u Q k r1 r2 h => by
  cases x <;> cases y <;> first
    | exact h.elim
    | skip
  obtain rfl := r1.isInt
  obtain rfl := r2.isInt
  obtain ⟨h1, h2⟩ := wp_guard.mp h
  obtain ⟨h3, h4, h5⟩ := of_decide_eq_true h1
  exact ⟨_, _, rfl, rfl, ⟨h3, by omega, h5⟩, PQ.here k h2 (.int _)⟩
def gNeg (x : D) : R D := match x with
  | .int i => .ret (.int (-i))
  | _ => .bad
theorem d_neg : UnD (rU fun i => .int (-i)) gNeg := fun c W σ w x v Q k r1 h => by
  cases x <;> first
    | exact h.elim
    | skip
  obtain rfl := r1.isInt
  exact ⟨_, rfl, PQ.here k h (.int _)⟩
/-- texts, whatever their signs -/
def strEq : D → D → Option Bool
  | .str a, .str b => some (decide (a = b))
  | .str _, .int _ => some false
  | .int _, .str _ => some false
  | .str _, .bool _ => some false
  | .bool _, .str _ => some false
  | .str _, .none => some false
  | .none, .str _ => some false
  | _, _ => none
def gEq (x y : D) : R D := match strEq x y with
  | some b => .ret (.bool b)
  | none => guard' (SeqAt.shaped x && SeqAt.shaped y) (.ret (.bool (PyData.eqv x y)))
def gNe (x y : D) : R D := match strEq x y with
  | some b => .ret (.bool (!b))
  | none => guard' (SeqAt.shaped x && SeqAt.shaped y) (.ret (.bool (!PyData.eqv x y)))
def rEqAll (K : PySem.W.Frag) : R2 := orR rEq (rEqD K)
def rNeAll (K : PySem.W.Frag) : R2 := orR rNe (rNeD K)
theorem op_eqAll {X : Cx} (hu : X.A.units + 64 < cLine) : OpR X (compareOp .Eq) (rEqAll X.K) := OpR.or op_eq (op_eqD hu)
theorem op_neAll {X : Cx} (hu : X.A.units + 64 < cLine) : OpR X (compareOp .NotEq) (rNeAll X.K) := OpR.or op_ne (op_neD hu)
theorem strEq_v {c : Base} {w : Wd} {x y : D} {v u : V} {b : Bool} (r1 : RpW c w v x) (r2 : RpW c w u y) (h : strEq x y = some b) : scal v u = true ∧ decide (v = u) = b := by
  unfold strEq at h
  split at h <;> first
    | (cases h; done)
    | skip
  · obtain rfl := r1.isStr
    obtain rfl := r2.isStr
    cases h
    exact ⟨rfl, by simp⟩
  · obtain rfl := r1.isStr; obtain rfl := r2.isInt; cases h; exact ⟨rfl, by simp⟩
  · obtain rfl := r1.isInt; obtain rfl := r2.isStr; cases h; exact ⟨rfl, by simp⟩
  · obtain rfl := r1.isStr; obtain rfl := r2.isBl; cases h; exact ⟨rfl, by simp⟩
  · obtain rfl := r1.isBl; obtain rfl := r2.isStr; cases h; exact ⟨rfl, by simp⟩
  · obtain rfl := r1.isStr; obtain rfl := r2.isNon; cases h; exact ⟨rfl, by simp⟩
  · obtain rfl := r1.isNon; obtain rfl := r2.isStr; cases h; exact ⟨rfl, by simp⟩
theorem d_eq : OpDK rEqAll gEq := fun c W σ w x y v u Q k r1 r2 h => by
  unfold gEq at h
  split at h
  · rename_i b e
    obtain ⟨e1, e2⟩ := strEq_v r1 r2 e
    refine .inl ⟨e1, ?_⟩
    rw [e2]; exact PQ.here (d := .bool b) k h (.bl _)
  · obtain ⟨h1, h2⟩ := wp_guard.mp h
    obtain ⟨h3, h4⟩ := (Bool.and_eq_true _ _).mp h1
    exact .inr ⟨x, y, dp_mono (fun _ _ => vis_sub) (r1.dp (SeqAt.canLay_of_shaped h3)), dp_mono (fun _ _ => vis_sub) (r2.dp (SeqAt.canLay_of_shaped h4)), h3, h4, PQ.here k h2 (.bl _)⟩
theorem d_ne : OpDK rNeAll gNe := fun c W σ w x y v u Q k r1 r2 h => by
  unfold gNe at h
  split at h
  · rename_i b e
    obtain ⟨e1, e2⟩ := strEq_v r1 r2 e
    refine .inl ⟨e1, ?_⟩
    rw [e2]; exact PQ.here (d := .bool (!b)) k h (.bl _)
  · obtain ⟨h1, h2⟩ := wp_guard.mp h
    obtain ⟨h3, h4⟩ := (Bool.and_eq_true _ _).mp h1
    exact .inr ⟨x, y, dp_mono (fun _ _ => vis_sub) (r1.dp (SeqAt.canLay_of_shaped h3)), dp_mono (fun _ _ => vis_sub) (r2.dp (SeqAt.canLay_of_shaped h4)), h3, h4, PQ.here k h2 (.bl _)⟩
/-- the ints of a tuple -/
def intsOf : List D → Option (List Int)
  | [] => some []
  | .int i :: r => (intsOf r).map (i :: ·)
  | _ => none
theorem intsOf_map : ∀ {ds : List D} {ns : List Int}, intsOf ds = some ns → ds = ns.map PyData.int
  | [], ns, h => by cases h; rfl
  | d :: r, ns, h => by
    cases d with
    | int i =>
      unfold intsOf at h
      cases e : intsOf r with
      | none => rw [e] at h; cases h
      | some ms =>
        rw [e] at h
        cases h
        rw [intsOf_map e]; rfl
    | _ => cases h
theorem rpInts {K : PySem.W.Frag} {dk : List Addr} {G : Hp} : ∀ {ns : List Int} {vs : List V}, RpAll K dk G vs (ns.map PyData.int) → vs = ns.map V.int
  | [], _, h => by cases h; rfl
  | n :: r, _, h => by
    cases h with
    | cons h1 h2 => rw [h1.isInt, rpInts h2]; rfl
def tupLt (a b : List D) : R D := match intsOf a, intsOf b with
  | some ns, some ms => .ret (.bool (HT.lexLt ns ms))
  | _, _ => .bad
def gLt (x y : D) : R D := match x, y with
  | .int i, .int j => .ret (.bool (decide (i < j)))
  | .str a, .str b => .ret (.bool (decide (a.cps.toList < b.cps.toList)))
  | .tuple a, .tuple b => tupLt a b
  | _, _ => .bad
def gLe (x y : D) : R D := match x, y with
  | .int i, .int j => .ret (.bool (decide (i ≤ j)))
  | .str a, .str b => .ret (.bool (!decide (b.cps.toList < a.cps.toList)))
  | _, _ => .bad
def gGt (x y : D) : R D := match x, y with
  | .int i, .int j => .ret (.bool (decide (j < i)))
  | _, _ => .bad
def gGe (x y : D) : R D := match x, y with
  | .int i, .int j => .ret (.bool (decide (j ≤ i)))
  | _, _ => .bad
def rLtAll (K : PySem.W.Frag) : R2 := orR (rI0 fun i j => .bl (decide (i < j))) (orR (fun x y H Q => ∃ i j, x = .str i ∧ y = .str j ∧ Q (.bl (decide (i.cps.toList < j.cps.toList))) H) (rLtT K))
def rLeAll : R2 := orR (rI0 fun i j => .bl (decide (i ≤ j))) (fun x y H Q => ∃ i j, x = .str i ∧ y = .str j ∧ Q (.bl (!decide (j.cps.toList < i.cps.toList))) H)
theorem op_ltAll {X : Cx} (hu : X.A.units < cLine) : OpR X (compareOp .Lt) (rLtAll X.K) := OpR.or op_lt (OpR.or op_lt_str (op_ltT hu))
theorem op_leAll {X : Cx} : OpR X (compareOp .LtE) rLeAll := OpR.or op_le op_le_str
theorem d_lt : OpDK rLtAll gLt := fun c W σ w x y v u Q k r1 r2 h => by
  cases x <;> cases y <;> first
    | exact h.elim
    | skip
  · obtain rfl := r1.isInt
    obtain rfl := r2.isInt
    exact .inl ⟨_, _, rfl, rfl, PQ.here k h (.bl _)⟩
  · obtain rfl := r1.isStr
    obtain rfl := r2.isStr
    exact .inr (.inl ⟨_, _, rfl, rfl, PQ.here k h (.bl _)⟩)
  · obtain ⟨a, xs, rfl, s1, a1⟩ := r1.isTup
    obtain ⟨b, ys, rfl, s2, a2⟩ := r2.isTup
    rename_i ta tb
    have h5 : (tupLt ta tb).wp w.fu (PQ c w Q) (EK c W σ w) := h
    clear h
    unfold tupLt at h5
    split at h5
    · rename_i ns ms e1 e2
      have e1 := intsOf_map e1
      have e2 := intsOf_map e2
      subst e1 e2
      have f1 := rpInts a1
      have f2 := rpInts a2
      subst f1 f2
      exact .inr (.inr ⟨a, b, ns, ms, rfl, rfl, sqT_vis s1, sqT_vis s2, PQ.here (d := .bool _) k h5 (.bl _)⟩)
    · exact h5.elim
theorem d_le : OpD rLeAll gLe := fun c W σ w x y v u Q k r1 r2 h => by
  cases x <;> cases y <;> first
    | exact h.elim
    | skip
  · obtain rfl := r1.isInt
    obtain rfl := r2.isInt
    exact .inl ⟨_, _, rfl, rfl, PQ.here k h (.bl _)⟩
  · obtain rfl := r1.isStr
    obtain rfl := r2.isStr
    exact .inr ⟨_, _, rfl, rfl, PQ.here k h (.bl _)⟩
theorem d_gt : OpD (rI0 fun i j => .bl (decide (j < i))) gGt := fun c W σ w x y v u Q k r1 r2 h => by
  cases x <;> cases y <;> first
    | exact h.elim
    | skip
  obtain rfl := r1.isInt
  obtain rfl := r2.isInt
  exact ⟨_, _, rfl, rfl, PQ.here k h (.bl _)⟩
theorem d_ge : OpD (rI0 fun i j => .bl (decide (j ≤ i))) gGe := fun c W σ w x y v u Q k r1 r2 h => by
  cases x <;> cases y <;> first
    | exact h.elim
    | skip
  obtain rfl := r1.isInt
  obtain rfl := r2.isInt
  exact ⟨_, _, rfl, rfl, PQ.here k h (.bl _)⟩
/-- is None, is not None; is of truths -/
abbrev isNonD : D → Bool
  | .none => true
  | _ => false
def gIs (x y : D) : R D := match x, y with
  | x, .none => .ret (.bool (isNonD x))
  | .bool a, .bool b => .ret (.bool (decide (a = b)))
  | _, _ => .bad
def gIsNot (x y : D) : R D := match y with
  | .none => .ret (.bool (!isNonD x))
  | _ => .bad
theorem isNon_v {c : Base} {w : Wd} {v : V} {x : D} (r : RpW c w v x) : decide (v = V.non) = isNonD x := by
  cases r <;> simp [isNonD, deckD, scrD]
def rIsBl : R2 := fun x y H Q => ∃ a b, x = .bl a ∧ y = .bl b ∧ Q (.bl (decide (a = b))) H
def rIsNn : R2 := fun x y H Q => y = .non ∧ Q (.bl (decide (x = .non))) H
def rNotNn : R2 := fun x y H Q => y = .non ∧ Q (.bl (!decide (x = .non))) H
theorem op_isAll {X : Cx} : OpR X (compareOp .Is) (orR rIsNn rIsBl) := OpR.or op_isN op_is_bl
theorem op_isNotAll {X : Cx} : OpR X (compareOp .IsNot) rNotNn := op_notN
theorem d_is : OpD (orR rIsNn rIsBl) gIs := fun c W σ w x y v u Q k r1 r2 h => by
  cases y with
  | none =>
    have h' : (R.ret (PyData.bool (isNonD x))).wp w.fu (PQ c w Q) (EK c W σ w) := by
      cases x <;> exact h
    refine .inl ⟨r2.isNon, ?_⟩
    rw [isNon_v r1]
    exact PQ.here k h' (.bl _)
  | bool b =>
    cases x with
    | bool a => exact .inr ⟨_, _, r1.isBl, r2.isBl, PQ.here k h (.bl _)⟩
    | _ => exact h.elim
  | _ => cases x <;> exact h.elim
theorem d_isNot : OpD rNotNn gIsNot := fun c W σ w x y v u Q k r1 r2 h => by
  cases y with
  | none =>
    refine ⟨r2.isNon, ?_⟩
    rw [isNon_v r1]
    exact PQ.here k h (.bl _)
  | _ => exact h.elim
def gIn (x y : D) : R D := match y with
  | .list ds => guard' (SeqAt.shaped x && SeqAt.shaped (.list ds)) (.ret (.bool (ds.any fun z => PyData.eqv z x)))
  | _ => .bad
def gNotIn (x y : D) : R D := match y with
  | .list ds => guard' (SeqAt.shaped x && SeqAt.shaped (.list ds)) (.ret (.bool (!ds.any fun z => PyData.eqv z x)))
  | _ => .bad
theorem d_in : OpDK rInD gIn := fun c W σ w x y v u Q k r1 r2 h => by
  cases y with
  | list ds =>
    obtain ⟨h1, h2⟩ := wp_guard.mp h
    obtain ⟨h3, h4⟩ := (Bool.and_eq_true _ _).mp h1
    exact ⟨x, ds, dp_mono (fun _ _ => vis_sub) (r1.dp (SeqAt.canLay_of_shaped h3)), dp_mono (fun _ _ => vis_sub) (r2.dp (SeqAt.canLay_of_shaped h4)), h3, h4, PQ.here k h2 (.bl _)⟩
  | _ => exact h.elim
theorem d_notIn : OpDK rNotInD gNotIn := fun c W σ w x y v u Q k r1 r2 h => by
  cases y with
  | list ds =>
    obtain ⟨h1, h2⟩ := wp_guard.mp h
    obtain ⟨h3, h4⟩ := (Bool.and_eq_true _ _).mp h1
    exact ⟨x, ds, dp_mono (fun _ _ => vis_sub) (r1.dp (SeqAt.canLay_of_shaped h3)), dp_mono (fun _ _ => vis_sub) (r2.dp (SeqAt.canLay_of_shaped h4)), h3, h4, PQ.here k h2 (.bl _)⟩
  | _ => exact h.elim
/-- the script's numbers -/
def scrOf : D → Option (List Int)
  | .dict [(.list ds, .bool true)] => intsOf ds
  | _ => none
theorem intsOf_of (ns : List Int) : intsOf (ns.map PyData.int) = some ns := by
  induction ns with
  | nil => rfl
  | cons n r ih =>
    show (intsOf (r.map PyData.int)).map (n :: ·) = _
    rw [ih]; rfl
theorem scrOf_scr (ns : List Int) : scrOf (scrD ns) = some ns := intsOf_of ns
theorem scrOf_eq {d : D} {ns : List Int} (h : scrOf d = some ns) : d = scrD ns := by
  unfold scrOf at h
  split at h
  · rw [intsOf_map h]; rfl
  · cases h
def scrGo {α : Type} (d : D) (k : List Int → R α) : R α := match scrOf d with
  | some ns => k ns
  | none => .bad
theorem scrGo_scr {α : Type} {ns : List Int} {k : List Int → R α} : scrGo (scrD ns) k = k ns := by
  unfold scrGo
  rw [scrOf_scr]
theorem scrGo_wp {α : Type} {c : Base} {w : Wd} {v : V} {d : D} {k : List Int → R α} {fu : Nat} {Q : Nat → α → Prop} {E : Nat → Er → Prop} (r : RpW c w v d) (h : (scrGo d k).wp fu Q E) : ∃ ns a, d = scrD ns ∧ v = .ref a ∧ SqL c.K w.H a (ns.map V.int) ∧ (k ns).wp fu Q E := by
  unfold scrGo at h
  split at h
  · rename_i ns e
    have e := scrOf_eq e
    subst e
    obtain ⟨a, e1, e2⟩ := r.isScr
    exact ⟨ns, a, rfl, e1, sqL_vis e2, h⟩
  · exact h.elim
def ixL (ds : List D) (i : Int) : R D := match atI ds i with
  | some d => .ret d
  | none => .bad
def gIx (x y : D) : R D := match x, y with
  | .list ds, .int i => ixL ds i
  | .tuple ds, .int i => ixL ds i
  | .str z, .int i => guard' (decide (z.length ≤ 16777216)) (match atI z.cps.toList i with | some n => .ret (.str ⟨#[n]⟩) | none => .bad)
  | .dict k, y => scrGo (.dict k) fun ns => match y with
    | .int i => ixL (ns.map PyData.int) i
    | _ => .bad
  | _, _ => .bad
theorem atI_rp {K : PySem.W.Frag} {dk : List Addr} {G : Hp} {vs : List V} {ds : List D} {i : Int} {d : D} (r : RpAll K dk G vs ds) (h : atI ds i = some d) : ∃ v, atI vs i = some v ∧ Rp K dk G v d := by
  unfold atI at h ⊢
  rw [r.len]
  cases e : ixN ds.length i with
  | none => rw [e] at h; cases h
  | some j =>
    rw [e] at h
    exact r.at' h
theorem atI_map {α β : Type} (f : α → β) (l : List α) (i : Int) : atI (l.map f) i = (atI l i).map f := by
  unfold atI
  rw [List.length_map]
  cases ixN l.length i with
  | none => rfl
  | some j => show (l.map f)[j]? = _; rw [List.getElem?_map]; rfl
theorem d_ixScr {c : Base} {W : WX} {σ : L2.St} {w : Wd} {x y : D} {v u : V} {Q : VK} (k : WOk c w) (r1 : RpW c w v x) (r2 : RpW c w u y) (h : (scrGo x fun ns => match y with | .int i => ixL (ns.map PyData.int) i | _ => .bad).wp w.fu (PQ c w Q) (EK c W σ w)) : rIx c.K v u w.H Q := by
  obtain ⟨ns, a, rfl, rfl, e, h⟩ := scrGo_wp r1 h
  cases y with
  | int i =>
    obtain rfl := r2.isInt
    have h : (ixL (ns.map PyData.int) i).wp w.fu (PQ c w Q) (EK c W σ w) := h
    unfold ixL at h
    rw [atI_map] at h
    cases e2 : atI ns i with
    | none => rw [e2] at h; exact h.elim
    | some n =>
      rw [e2] at h
      refine .inl ⟨a, ns.map V.int, i, .int n, rfl, rfl, e, by rw [atI_map, e2]; rfl, PQ.here (d := .int n) k h (.int n)⟩
  | _ => exact h.elim
theorem d_ix : OpDK rIx gIx := fun c W σ w x y v u Q k r1 r2 h => by
  cases x <;> cases y <;> first
    | exact h.elim
    | exact d_ixScr k r1 r2 h
    | skip
  · obtain rfl := r1.isStr
    obtain rfl := r2.isInt
    obtain ⟨h1, h2⟩ := wp_guard.mp h
    split at h2
    · rename_i e
      exact .inr (.inr ⟨_, _, _, rfl, rfl, line_eq.mpr (of_decide_eq_true h1), e, PQ.here k h2 (.str _)⟩)
    · exact h2.elim
  · obtain ⟨a, xs, rfl, s1, a1⟩ := r1.isLst
    obtain rfl := r2.isInt
    rename_i da ia
    have h : (ixL da ia).wp w.fu (PQ c w Q) (EK c W σ w) := h
    unfold ixL at h
    split at h
    · rename_i d e
      obtain ⟨z, e2, r⟩ := atI_rp a1 e
      exact .inl ⟨a, xs, _, z, rfl, rfl, sqL_vis s1, e2, PQ.here k h r⟩
    · exact h.elim
  · obtain ⟨a, xs, rfl, s1, a1⟩ := r1.isTup
    obtain rfl := r2.isInt
    rename_i da ia
    have h : (ixL da ia).wp w.fu (PQ c w Q) (EK c W σ w) := h
    unfold ixL at h
    split at h
    · rename_i d e
      obtain ⟨z, e2, r⟩ := atI_rp a1 e
      exact .inr (.inl ⟨a, xs, _, z, rfl, rfl, sqT_vis s1, e2, PQ.here k h r⟩)
    · exact h.elim
def cutD {α : Type} (xs : List α) (lo hi : Option Int) : List α := (xs.drop (HT.sIx xs.length 0 lo)).take (HT.sIx xs.length xs.length hi - HT.sIx xs.length 0 lo)
def gSl (x : D) (lo hi : Option Int) : R D := match x with
  | .list ds => .ret (.list (cutD ds lo hi))
  | .tuple ds => .ret (.tuple (cutD ds lo hi))
  | .str z => guard' (decide (z.length ≤ 16777216)) (.ret (.str (cutS z lo hi)))
  | _ => .bad
def rSlAll (K : PySem.W.Frag) : V → Option Int → Option Int → Hp → VK → Prop := fun x lo hi H Q => rSlL K x lo hi H Q ∨ (fun x lo hi H Q => rSlF K x lo hi H Q ∨ rSlS x lo hi H Q) x lo hi H Q
theorem sl_all {X : Cx} : SlR X (rSlAll X.K) := SlR.or sl_list (SlR.or sl_tupF sl_str)
theorem cutV_rp {K : PySem.W.Frag} {dk : List Addr} {G : Hp} {vs : List V} {ds : List D} {lo hi : Option Int} (r : RpAll K dk G vs ds) : RpAll K dk G (cutV vs lo hi) (cutD ds lo hi) := by
  unfold cutV cutD
  rw [r.len]
  exact (r.drop _).take _
def SlDK (r : PySem.W.Frag → V → Option Int → Option Int → Hp → VK → Prop) (g : D → Option Int → Option Int → R D) : Prop := ∀ c : Base, SlAt c (r c.K) g
theorem d_sl : SlDK rSlAll gSl := fun c W σ w x v lo hi Q k r1 h => by
  cases x <;> first
    | exact h.elim
    | skip
  · obtain rfl := r1.isStr
    obtain ⟨h1, h2⟩ := wp_guard.mp h
    exact .inr (.inr ⟨_, rfl, line_eq.mpr (of_decide_eq_true h1), PQ.here k h2 (.str _)⟩)
  · obtain ⟨a, xs, rfl, s1, a1⟩ := r1.isLst
    exact .inl ⟨a, xs, rfl, sqL_vis s1, new_lst k (cutV_rp a1) h⟩
  · obtain ⟨a, xs, rfl, s1, a1⟩ := r1.isTupN
    refine .inr (.inl ⟨a, xs, rfl, sqT_vis s1.sqT, fun e => ?_, fun _ => new_tup k (cutV_rp a1) h⟩)
    refine PQ.here k h ?_
    have e2 : cutV xs lo hi = xs := by
      unfold cutV
      rw [e.1, e.2]; simp
    have := cutV_rp (lo := lo) (hi := hi) a1
    rw [e2] at this
    exact .tup s1 this
end DL
namespace DL
open PySem PySem.Spec PyProof.Rows L2
def CallDK (r : PySem.W.Frag → List V → Hp → VK → Prop) (g : List D → R D) : Prop := ∀ c : Base, CallAt c (r c.K) g
def lenD : D → R Int
  | .str z => guard' (decide (z.length ≤ 16777216)) (.ret z.length)
  | .list ds => .ret ds.length
  | .tuple ds => .ret ds.length
  | .dict k => scrGo (.dict k) fun ns => .ret ns.length
  | _ => .bad
def gLen (xs : List D) : R D := match xs with
  | [x] => (lenD x).bind fun n => .ret (.int n)
  | _ => .bad
def rLenV (K : PySem.W.Frag) : List V → Hp → VK → Prop := fun xs H Q => ∃ x n, xs = [x] ∧ LenV K x H n ∧ Q (.int n) H
theorem c_lenV {X : Cx} : CallR X (.builtin "len") (rLenV X.K) := call_len
theorem d_len : CallDK rLenV gLen := fun c W σ w x v Q k r h => by
  cases r with
  | nil => exact h.elim
  | cons r1 r2 =>
    cases r2 with
    | cons _ _ => exact h.elim
    | nil =>
      rename_i v d
      have h : ((lenD d).bind fun n => R.ret (PyData.int n)).wp w.fu (PQ c w Q) (EK c W σ w) := h
      have h := wp_b h
      cases d with
      | str z =>
        obtain rfl := r1.isStr
        obtain ⟨h1, h2⟩ := guard_line h
        exact ⟨_, z.length, rfl, ⟨h1, rfl⟩, PQ.here (d := .int _) k h2 (.int _)⟩
      | list ds =>
        obtain ⟨a, xs, rfl, s1, a1⟩ := r1.isLst
        refine ⟨_, xs.length, rfl, .inl ⟨xs, sqL_vis s1, rfl⟩, ?_⟩
        rw [a1.len]
        exact PQ.here (d := .int _) k h (.int _)
      | tuple ds =>
        obtain ⟨a, xs, rfl, s1, a1⟩ := r1.isTup
        refine ⟨_, xs.length, rfl, .inr ⟨xs, sqT_vis s1, rfl⟩, ?_⟩
        rw [a1.len]
        exact PQ.here (d := .int _) k h (.int _)
      | dict kv =>
        obtain ⟨ns, a, e1, rfl, e2, h⟩ := scrGo_wp r1 h
        refine ⟨_, ns.length, rfl, .inl ⟨_, e2, by rw [List.length_map]⟩, ?_⟩
        exact PQ.here (d := .int _) k h (.int _)
      | _ => exact h.elim
def gInt (xs : List D) : R D := match xs with
  | [.int i] => .ret (.int i)
  | [.bool k] => .ret (.int (if k then 1 else 0))
  | _ => .bad
theorem d_int : CallD (fun xs H Q => (∃ i, xs = [.int i] ∧ Q (.int i) H) ∨ ∃ k, xs = [.bl k] ∧ Q (.int (if k then 1 else 0)) H) gInt := fun c W σ w x v Q k r h => by
  unfold gInt at h
  split at h
  · cases r with | cons r1 r2 => cases r2; obtain rfl := r1.isInt; exact .inl ⟨_, rfl, PQ.here k h (.int _)⟩
  · cases r with | cons r1 r2 => cases r2; obtain rfl := r1.isBl; exact .inr ⟨_, rfl, PQ.here k h (.int _)⟩
  · exact h.elim
def gAbs (xs : List D) : R D := match xs with
  | [.int i] => .ret (.int (if i < 0 then -i else i))
  | _ => .bad
theorem d_abs : CallD (fun xs H Q => ∃ i, xs = [.int i] ∧ Q (.int (if i < 0 then -i else i)) H) gAbs := fun c W σ w x v Q k r h => by
  unfold gAbs at h
  split at h
  · cases r with | cons r1 r2 => cases r2; obtain rfl := r1.isInt; exact ⟨_, rfl, PQ.here k h (.int _)⟩
  · exact h.elim
def gMax (xs : List D) : R D := match xs with
  | [.int i, .int j] => .ret (.int (if j > i then j else i))
  | _ => .bad
def gMin (xs : List D) : R D := match xs with
  | [.int i, .int j] => .ret (.int (if j < i then j else i))
  | _ => .bad
theorem d_max : CallD (fun xs H Q => ∃ i j, xs = [.int i, .int j] ∧ Q (.int (if j > i then j else i)) H) gMax := fun c W σ w x v Q k r h => by
  unfold gMax at h
  split at h
  · cases r with | cons r1 r2 => cases r2 with | cons r2 r3 => cases r3; obtain rfl := r1.isInt; obtain rfl := r2.isInt; exact ⟨_, _, rfl, PQ.here k h (.int _)⟩
  · exact h.elim
theorem d_min : CallD (fun xs H Q => ∃ i j, xs = [.int i, .int j] ∧ Q (.int (if j < i then j else i)) H) gMin := fun c W σ w x v Q k r h => by
  unfold gMin at h
  split at h
  · cases r with | cons r1 r2 => cases r2 with | cons r2 r3 => cases r3; obtain rfl := r1.isInt; obtain rfl := r2.isInt; exact ⟨_, _, rfl, PQ.here k h (.int _)⟩
  · exact h.elim
def blsOf : List D → Option (List Bool)
  | [] => some []
  | .bool i :: r => (blsOf r).map (i :: ·)
  | _ => none
theorem blsOf_map : ∀ {ds : List D} {ns : List Bool}, blsOf ds = some ns → ds = ns.map PyData.bool
  | [], ns, h => by cases h; rfl
  | d :: r, ns, h => by
    cases d with
    | bool i =>
      unfold blsOf at h
      cases e : blsOf r with
      | none => rw [e] at h; cases h
      | some ms =>
        rw [e] at h
        cases h
        rw [blsOf_map e]; rfl
    | _ => cases h
theorem blsOf_of (ns : List Bool) : blsOf (ns.map PyData.bool) = some ns := by
  induction ns with
  | nil => rfl
  | cons n r ih =>
    show (blsOf (r.map PyData.bool)).map (n :: ·) = _
    rw [ih]; rfl
theorem rpBls {K : PySem.W.Frag} {dk : List Addr} {G : Hp} : ∀ {ns : List Bool} {vs : List V}, RpAll K dk G vs (ns.map PyData.bool) → vs = ns.map V.bl
  | [], _, h => by cases h; rfl
  | n :: r, _, h => by
    cases h with
    | cons h1 h2 => rw [h1.isBl, rpBls h2]; rfl
def gBls (f : List Bool → Bool) (xs : List D) : R D := match xs with
  | [.list ds] => match blsOf ds with
    | some bs => .ret (.bool (f bs))
    | none => .bad
  | _ => .bad
theorem bls_go {f : List Bool → Bool} {c : Base} {W : WX} {σ : L2.St} {w : Wd} {x : List D} {v : List V} {Q : VK} (k : WOk c w) (r : RpsW c w v x) (h : (gBls f x).wp w.fu (PQ c w Q) (EK c W σ w)) : ∃ (a : Addr) (bs : List Bool), v = [V.ref a] ∧ SqL c.K w.H a (bs.map V.bl) ∧ Q (.bl (f bs)) w.H := by
  unfold gBls at h
  split at h
  · split at h
    · rename_i bs e
      have e := blsOf_map e
      subst e
      cases r with
      | cons r1 r2 =>
        cases r2
        obtain ⟨a, xs, rfl, s1, a1⟩ := r1.isLst
        obtain rfl := rpBls a1
        exact ⟨a, bs, rfl, sqL_vis s1, PQ.here (d := .bool _) k h (.bl _)⟩
    · exact h.elim
  · exact h.elim
def gAll : List D → R D := gBls fun bs => bs.all id
def gAny : List D → R D := gBls fun bs => bs.any id
theorem d_all : CallDK rAll gAll := fun c W σ w x v Q k r h => bls_go k r h
theorem d_any : CallDK rAny gAny := fun c W σ w x v Q k r h => bls_go k r h
def gSum (xs : List D) : R D := match xs with
  | [.list ds] => match intsOf ds with
    | some ns => .ret (.int ns.sum)
    | none => .bad
  | _ => .bad
theorem d_sum : CallDK rSum gSum := fun c W σ w x v Q k r h => by
  unfold gSum at h
  split at h
  · split at h
    · rename_i ns e
      have e := intsOf_map e
      subst e
      cases r with
      | cons r1 r2 =>
        cases r2
        obtain ⟨a, xs, rfl, s1, a1⟩ := r1.isLst
        obtain rfl := rpInts a1
        exact ⟨a, ns, rfl, sqL_vis s1, PQ.here (d := .int _) k h (.int _)⟩
    · exact h.elim
  · exact h.elim
/-- tuple(x) -/
def gTuple (xs : List D) : R D := match xs with
  | [.list ds] => .ret (.tuple ds)
  | [.tuple ds] => .ret (.tuple ds)
  | _ => .bad
theorem d_tuple : CallDK rTupOf gTuple := fun c W σ w x v Q k r h => by
  unfold gTuple at h
  split at h
  · cases r with
    | cons r1 r2 =>
      cases r2
      obtain ⟨a, xs, rfl, s1, a1⟩ := r1.isLst
      exact ⟨a, xs, rfl, .inl ⟨sqL_vis s1, new_tup k a1 h⟩⟩
  · cases r with
    | cons r1 r2 =>
      cases r2
      obtain ⟨a, xs, rfl, s1, a1⟩ := r1.isTupN
      exact ⟨a, xs, rfl, .inr ⟨sqT_vis s1.sqT, PQ.here k h (.tup s1 a1)⟩⟩
  · exact h.elim
/-- list(x), a new list -/
def elems (x : D) : R (List D) := match x with
  | .list ds => .ret ds
  | .tuple ds => .ret ds
  | .dict k => scrGo (.dict k) fun ns => .ret (ns.map PyData.int)
  | _ => .bad
def listF (f : Env → R D) : Env → R (List D) := fun env => (f env).bind elems
def rLstOf (K : PySem.W.Frag) : List V → Hp → VK → Prop := fun xs H Q => ∃ p ys, xs = [.ref p] ∧ (SqL K H p ys ∨ SqT K H p ys) ∧ ∀ l, H l = none → Q (.ref l) (upd H l (.lst ys))
theorem c_lstOf {X : Cx} : CallR X (.type "list") (rLstOf X.K) := call_list_of
theorem elems_wp {c : Base} {w : Wd} {v : V} {d : D} {fu : Nat} {Q : Nat → List D → Prop} {E : Nat → Er → Prop} (r : RpW c w v d) (h : (elems d).wp fu Q E) : ∃ a ys ds, v = .ref a ∧ (SqL c.K w.H a ys ∨ SqT c.K w.H a ys) ∧ RpsW c w ys ds ∧ Q fu ds := by
  unfold elems at h
  split at h
  · obtain ⟨a, xs, rfl, s1, a1⟩ := r.isLst
    exact ⟨a, xs, _, rfl, .inl (sqL_vis s1), a1, h⟩
  · obtain ⟨a, xs, rfl, s1, a1⟩ := r.isTup
    exact ⟨a, xs, _, rfl, .inr (sqT_vis s1), a1, h⟩
  · obtain ⟨ns, a, e1, rfl, e2, h⟩ := scrGo_wp r h
    exact ⟨a, _, _, rfl, .inl e2, RpAll.ints ns, h⟩
  · exact h.elim
section
variable {X : Cx} {c : Base} {W : WX} {w w' w1 w2 : Wd} {σ : L2.St} {env : Env} {e a b d : Expr} {fa fb fc : Env → R D} {ft fu : Env → R Bool} {fr fi : Env → R (List D)} {pos p pos2 : Pos} {st : Stmt} {es : List Expr} {rest : List Stmt} {f g : Env → R Out} {x : Str}
/-- a new list, laid here -/
theorem own_new {H : Hp} (a : At c σ H w env) (g1 : Grow c w w1) {vs : List V} {ds : List D} {Q : VK} (r : RpsW c w1 vs ds)
    (h : ∀ p vs w', w'.fu = w1.fu → w'.O = p :: w.O → w.H p = none → w'.H p = some (.lst vs) → WOk c w' → Grow c w { w' with O := w.O } → RpsW c w' vs ds → Q (.ref p) w'.H) : ∀ p, w1.H p = none → Q (.ref p) (upd w1.H p (.lst vs)) := fun p hp => by
  obtain ⟨k1, k2⟩ := Grow.asOwn (vs := vs) g1.ok hp
  exact h p vs { O := p :: w1.O, nk := w1.nk, H := upd w1.H p (.lst vs), fu := w1.fu } rfl (by rw [g1.O]) (g1.free _ hp) upd_same k1 (by
    have g := g1.trans a.ok (Grow.new (o := .lst vs) g1.ok hp)
    have e : ({ O := w.O, nk := w1.nk, H := upd w1.H p (.lst vs), fu := w1.fu } : Wd) = { w1 with H := upd w1.H p (.lst vs) } := by rw [g1.O]
    show Grow c w { O := w.O, nk := w1.nk, H := upd w1.H p (.lst vs), fu := w1.fu }
    rw [e]; exact g) (k2 _ _ r)
theorem dl_list (hK : c.K = X.K) (h : PE X e (tCB (rLstOf X.K) (L2.tCons (liftE c W fa) L2.tNil))) : PE X e (liftL c W (listF fa)) := pe_imp h fun σ H Q ⟨w, env, a, q⟩ => by
  refine ⟨w, env, a, R.wp_mono (wp_b q) (fun fu x hx v w1 e1 g1 r1 => ?_) fun _ _ h => h⟩
  subst e1
  obtain ⟨a', ys, ds, rfl, hs, rs, h⟩ := elems_wp r1 hx
  exact ⟨a', ys, rfl, hK ▸ hs, own_new a g1 rs h⟩
/-- list(range(..)), the ends told -/
def rngD (i j : Int) : List D := (List.range (j - i).toNat).map fun k => .int (i + (k : Nat))
def rngOk (i j : Int) : Bool := decide (-(2 ^ 62) ≤ i ∧ i < 2 ^ 62 ∧ -(2 ^ 62) ≤ j ∧ j < 2 ^ 62)
def rngL (fr : Env → R (List D)) : Env → R (List D) := fun env => (fr env).bind fun ds => match ds with
  | [.int j] => guard' (rngOk 0 j) (.ret (rngD 0 j))
  | [.int i, .int j] => guard' (rngOk i j) (.ret (rngD i j))
  | _ => .bad
theorem rngV_rp {K : PySem.W.Frag} {dk : List Addr} {G : Hp} (i j : Int) : RpAll K dk G (rgV i j) (rngD i j) := by
  unfold rgV rngD
  generalize (List.range (j - i).toNat) = l
  induction l with
  | nil => exact .nil
  | cons n r ih => exact .cons (.int _) ih
def rng1 (fa : Env → R D) : Env → R (List D) := fun env => (fa env).bind fun x => (asI x).bind fun j => guard' (rngOk 0 j && decide (j ≤ 16777216)) (.ret (rngD 0 j))
def rng2 (fa fb : Env → R D) : Env → R (List D) := fun env => (fa env).bind fun x => (fb env).bind fun y => (asI x).bind fun i => (asI y).bind fun j => guard' (rngOk i j && decide (j - i ≤ 16777216)) (.ret (rngD i j))
theorem dl_rng1 (h : PE X e (tLstRg (tRg1 (liftE c W fa)))) : PE X e (liftL c W (rng1 fa)) := pe_imp h fun σ H Q ⟨w, env, a, q⟩ => by
  refine ⟨w, env, a, R.wp_mono (wp_b q) (fun fu x hx v w1 e1 g1 r1 => ?_) fun _ _ h => h⟩
  subst e1
  obtain ⟨j, rfl, _, h⟩ := asI_wp r1 (wp_b hx)
  obtain ⟨h1, h2⟩ := wp_guard.mp h
  obtain ⟨h3, h4⟩ := (Bool.and_eq_true _ _).mp h1
  obtain ⟨b1, b2, b3, b4⟩ := of_decide_eq_true h3
  have h5 := of_decide_eq_true h4
  exact ⟨j, rfl, ⟨b1, b2, b3, b4, by omega⟩, own_new a g1 (rngV_rp 0 j) h2⟩
theorem dl_rng2 (h : PE X e (tLstRg (tRg2 (liftE c W fa) (liftE c W fb)))) : PE X e (liftL c W (rng2 fa fb)) := pe_imp h fun σ H Q ⟨w, env, a, q⟩ => by
  refine ⟨w, env, a, R.wp_mono (wp_b q) (fun fu x hx v w1 e1 g1 r1 => ?_) fun _ _ h => h⟩
  subst e1
  refine ⟨w1, env, a.grow g1, R.wp_mono (wp_b hx) (fun fu y hy u w2 e1 g2 r2 => ?_) fun _ _ h => h.grow a.ok g1⟩
  subst e1
  obtain ⟨i, rfl, _, h⟩ := asI_wp r1 (wp_b hy)
  obtain ⟨j, rfl, _, h⟩ := asI_wp r2 (wp_b h)
  obtain ⟨h1, h2⟩ := wp_guard.mp h
  obtain ⟨h3, h4⟩ := (Bool.and_eq_true _ _).mp h1
  obtain ⟨b1, b2, b3, b4⟩ := of_decide_eq_true h3
  have h5 := of_decide_eq_true h4
  exact ⟨i, j, rfl, rfl, ⟨b1, b2, b3, b4, by omega⟩, own_new a (g1.trans a.ok g2) (rngV_rp i j) h2⟩
def tyName : D → String
  | .none => "NoneType" | .bool _ => "bool" | .int _ => "int" | .str _ => "str" | .list _ => "list" | .tuple _ => "tuple" | .dict _ => "dict"
def isiV (T : String) (d : D) : R D := match d with
  | .dict ((.list _, _) :: _) => .bad
  | d => match kitB (tyName d) T with
    | some b => .ret (.bool b)
    | none => .bad
def isiD (T : String) (fa : Env → R D) : Env → R D := fun env => (fa env).bind (isiV T)
theorem Rp.ty {v : V} {d : D} (h : RpW c w v d) (n : ∀ l v r, d ≠ .dict ((.list l, v) :: r)) : TyX c.K w.H v (.type (tyName d)) := by
  cases h with
  | non => exact .base .non
  | bl b => exact .base (.bl b)
  | int i => exact .base (.int i)
  | str x => exact .base (.str x)
  | scr e => exact absurd rfl (n _ _ _)
  | deck e => exact absurd rfl (n _ _ _)
  | lst e _ =>
    rcases e with e | ⟨o, its, n, e, c, _⟩
    · exact .base (.lst (vis_sub e))
    · exact .kList e c
  | dct e _ => exact .base (.dK (vis_sub e))
  | tup hs _ =>
    rcases hs.sqT with (h | ⟨o, h⟩) | ⟨o, its, n, e, c, _⟩
    · exact .base (.tup (vis_sub h))
    · exact .fTuple (vis_sub h)
    · exact .kTuple e c
def rIsi1 (K : PySem.W.Frag) (T : String) : List V → Hp → VK → Prop := fun xs H Q => ∃ (x : V) (t : String) (b : Bool), xs = [x, .ty T] ∧ TyX K H x (.type t) ∧ kitB t T = some b ∧ Q (.bl b) H
theorem c_isi1 {T : String} : CallR X (.builtin "isinstance") (rIsi1 X.K T) := fun pins s σ H xs us Q I r ⟨x, t, b, e, ty, hk, q⟩ => call_isi pins s σ H xs us Q I r ⟨x, .ty T, .type t, .type T, b, e, .ty T, ty, kit_ty hk, q⟩
theorem de_isi {T : String} (hK : c.K = X.K) (h : PE X e (tCB (rIsi1 X.K T) (L2.tCons (liftE c W fa) (L2.tCons (tC (.ty T)) L2.tNil)))) : PE X e (liftE c W (isiD T fa)) := pe_imp h fun σ H Q ⟨w, env, a, q⟩ => step a q fun x v w1 g1 r1 q1 => by
  have hx : (∀ l v r, x ≠ .dict ((.list l, v) :: r)) ∧ ∃ b, kitB (tyName x) T = some b ∧ (R.ret (PyData.bool b)).wp w1.fu (PQ c w1 Q) (EK c W σ w1) := by
    have gen : ∀ (m : D), (match kitB (tyName m) T with | some b => R.ret (PyData.bool b) | none => R.bad).wp w1.fu (PQ c w1 Q) (EK c W σ w1) → ∃ b, kitB (tyName m) T = some b ∧ (R.ret (PyData.bool b)).wp w1.fu (PQ c w1 Q) (EK c W σ w1) := fun m h => by
      split at h
      · rename_i b e; exact ⟨b, e, h⟩
      · exact h.elim
    unfold isiV at q1
    split at q1
    · exact q1.elim
    · rename_i hno
      exact ⟨fun l v r z => hno _ _ _ z, gen _ q1⟩
  obtain ⟨hn, b, hb, q2⟩ := hx
  exact ⟨v, tyName x, b, rfl, hK ▸ Rp.ty r1 hn, hb, PQ.here g1.ok q2 (.bl b)⟩
end
end DL
namespace DL
open PySem PySem.Spec PyProof.Rows L2
def chars (z : Str) : List D := z.cps.toList.map fun n => .str ⟨#[n]⟩
def iterE (x : D) : R (List D) := match x with
  | .list ds => .ret ds
  | .tuple ds => .ret ds
  | .str z => .ret (chars z)
  | .dict k => scrGo (.dict k) fun ns => .ret (ns.map PyData.int)
  | _ => .bad
def iterF (f : Env → R D) : Env → R (List D) := fun env => (f env).bind iterE
/-- a walk of a list, a tuple or a text -/
def iAny (K : PySem.W.Frag) (te : TE) : TI := fun σ H R => te σ H fun x H1 => (∃ a xs, x = .ref a ∧ SqL K H1 a xs ∧ R (Itl K a) H1) ∨ (∃ a xs, x = .ref a ∧ SqT K H1 a xs ∧ R (Itt K a) H1) ∨ ∃ z, x = .str z ∧ R (Its z) H1
section
variable {X : Cx} {tg e : Expr} {te : TE}
theorem pi_any (he : PE X e te) : PI X tg e (iAny X.K te) := by
  constructor
  intro pins s σ H R' I h
  refine thn (he.run pins s σ H _ I h) fun v s1 hh => ?_
  obtain ⟨y, Hy, Iy, ry, ⟨a, xs, rfl, hq, qy⟩ | ⟨a, xs, rfl, hq, qy⟩ | ⟨z, rfl, qy⟩⟩ := hh
  · cases ry
    obtain ⟨its, _, pl, _⟩ := Iy.list hq
    exact wpAny_pyIter_list pl.isList (pi_one (tk := s1.toks) Iy _ (turn_list a _) ⟨_, Heap.get?_push_size _ rfl, rfl, rfl⟩ qy)
  · cases ry
    obtain ⟨its, _, pl, _⟩ := Iy.tuple hq
    exact wpAny_pyIter_tuple (show s1.heap.IsTuple a its.toArray from pl) (pi_one (tk := s1.toks) Iy _ (turn_tuple a _) ⟨_, Heap.get?_push_size _ rfl, rfl, rfl⟩ qy)
  · obtain ⟨t, rfl⟩ := ry
    cases hz : z.cps.all (· < 128)
    · exact wpAny_pyIter_wide hz (pi_one (tk := s1.toks) Iy _ (turn_str _ z t "str_iterator" (.inr rfl)) ⟨_, Heap.get?_push_size _ rfl, rfl, rfl⟩ qy)
    · exact wpAny_pyIter_ascii hz (pi_one (tk := s1.toks) Iy _ (turn_str _ z t "str_ascii_iterator" (.inl rfl)) ⟨_, Heap.get?_push_size _ rfl, rfl, rfl⟩ qy)
end
section
variable {X : Cx} {c : Base} {W : WX} {w w' w1 w2 : Wd} {σ : L2.St} {env : Env} {tg iter e a b d : Expr} {fa fb fc : Env → R D} {ft fu : Env → R Bool} {fr fi : Env → R (List D)} {pos p pos2 : Pos} {st : Stmt} {es : List Expr} {rest : List Stmt} {f g : Env → R Out} {x : Str} {ds : List D}
theorem pi_imp {e : Expr} {t t' : TI} (h : PI X tg e t) (i : ∀ σ H Q, t' σ H Q → t σ H Q) : PI X tg e t' := ⟨fun pins s σ H Q I q => h.run pins s σ H Q I (i _ _ _ q)⟩
theorem itd_list {a : Addr} {xs : List V} (h : SqLt c.K (c.vis w) a xs) (r : RpsW c w xs ds) : ItD c (Itl c.K a) w ds := by
  refine ⟨fun w' i le k hi => ?_, fun w' i x H2 le k hy d hd => ?_, fun w' i le k hi => ?_⟩
  · obtain ⟨v, e, _⟩ := r.at' (List.getElem?_eq_getElem hi)
    exact ⟨xs, v, sqL_vis (sqLt_mono le.ex h).sqL, e⟩
  · obtain ⟨e1, e2⟩ := hy
    obtain ⟨v, e, rv⟩ := r.at' hd
    have e3 := e2 xs (sqL_vis (sqLt_mono le.ex h).sqL)
    rw [e] at e3
    cases e3
    exact ⟨w', e1.symm, rfl, Grow.refl k, le.rp rv⟩
  · exact ⟨xs, sqL_vis (sqLt_mono le.ex h).sqL, by rw [r.len]; omega⟩
theorem itd_tup {a : Addr} {xs : List V} (h : SqT c.K (c.vis w) a xs) (r : RpsW c w xs ds) : ItD c (Itt c.K a) w ds := by
  refine ⟨fun w' i le k hi => ?_, fun w' i x H2 le k hy d hd => ?_, fun w' i le k hi => ?_⟩
  · obtain ⟨v, e, _⟩ := r.at' (List.getElem?_eq_getElem hi)
    exact ⟨xs, v, sqT_vis (sqT_mono le.ex h), e⟩
  · obtain ⟨e1, e2⟩ := hy
    obtain ⟨v, e, rv⟩ := r.at' hd
    have e3 := e2 xs (sqT_vis (sqT_mono le.ex h))
    rw [e] at e3
    cases e3
    exact ⟨w', e1.symm, rfl, Grow.refl k, le.rp rv⟩
  · exact ⟨xs, sqT_vis (sqT_mono le.ex h), by rw [r.len]; omega⟩
theorem itd_scr {a : Addr} {ns : List Int} (h : SqL c.K (c.vis w) a (ns.map V.int)) : ItD c (Itl c.K a) w (ns.map PyData.int) := by
  refine ⟨fun w' i le k hi => ?_, fun w' i x H2 le k hy d hd => ?_, fun w' i le k hi => ?_⟩
  · rw [List.length_map] at hi
    exact ⟨_, .int ns[i], sqL_vis (sqL_mono le.ex h), by rw [List.getElem?_map, List.getElem?_eq_getElem hi]; rfl⟩
  · obtain ⟨e1, e2⟩ := hy
    have e3 := e2 _ (sqL_vis (sqL_mono le.ex h))
    rw [List.getElem?_map] at e3 hd
    cases e : ns[i]? with
    | none => rw [e] at hd; cases hd
    | some n =>
      rw [e] at hd e3
      cases hd
      cases e3
      exact ⟨w', e1.symm, rfl, Grow.refl k, .int n⟩
  · exact ⟨_, sqL_vis (sqL_mono le.ex h), by rw [List.length_map] at hi ⊢; omega⟩
theorem itd_str {z : Str} : ItD c (Its z) w (chars z) := by
  refine ⟨fun w' i le k hi => ?_, fun w' i x H2 le k hy d hd => ?_, fun w' i le k hi => ?_⟩
  · have : i < (z.cps.toList.map fun n => (PyData.str ⟨#[n]⟩ : D)).length := hi
    rw [List.length_map, Array.length_toList] at this
    exact this
  · obtain ⟨e1, n, e2, rfl⟩ := hy
    have hd : (z.cps.toList.map fun n => (PyData.str ⟨#[n]⟩ : D))[i]? = some d := hd
    rw [List.getElem?_map, Array.getElem?_toList, e2] at hd
    cases hd
    exact ⟨w', e1.symm, rfl, Grow.refl k, .str _⟩
  · have : i = (z.cps.toList.map fun n => (PyData.str ⟨#[n]⟩ : D)).length := hi
    rw [List.length_map, Array.length_toList] at this
    show z.cps.size ≤ i
    omega
theorem itd_range {i j : Int} : ItD c (Itr i (j - i).toNat) w (rngD i j) := by
  have hl : (rngD i j).length = (j - i).toNat := by unfold rngD; rw [List.length_map, List.length_range]
  refine ⟨fun w' m le k hi => by rw [hl] at hi; exact hi, fun w' m x H2 le k hy d hd => ?_, fun w' m le k hi => by rw [hl] at hi; exact Nat.le_of_eq hi.symm⟩
  obtain ⟨e1, rfl⟩ := hy
  unfold rngD at hd
  rw [List.getElem?_map] at hd
  by_cases hm : m < (j - i).toNat
  · rw [List.getElem?_range hm] at hd
    cases hd
    exact ⟨w', e1.symm, rfl, Grow.refl k, .int _⟩
  · rw [List.getElem?_eq_none (by rw [List.length_range]; omega)] at hd; cases hd
theorem di_any (hK : c.K = X.K) (he : PE X e (liftE c W fa)) : PI X tg e (liftI c W (iterF fa)) := pi_imp (pi_any he) fun σ H Q ⟨w, env, a, q⟩ => by
  refine ⟨w, env, a, R.wp_mono (wp_b q) (fun fu x hx v w1 e1 g1 r1 => ?_) fun _ _ h => h⟩
  subst e1
  unfold iterE at hx
  split at hx
  · obtain ⟨a', xs, rfl, s1, a1⟩ := r1.isLst'
    exact .inl ⟨a', xs, rfl, hK ▸ sqL_vis s1.sqL, hK ▸ hx _ w1 rfl g1 (itd_list s1 a1)⟩
  · obtain ⟨a', xs, rfl, s1, a1⟩ := r1.isTup
    exact .inr (.inl ⟨a', xs, rfl, hK ▸ sqT_vis s1, hK ▸ hx _ w1 rfl g1 (itd_tup s1 a1)⟩)
  · obtain rfl := r1.isStr
    exact .inr (.inr ⟨_, rfl, hx _ w1 rfl g1 itd_str⟩)
  · rename_i k
    unfold scrGo at hx
    split at hx
    · rename_i ns e
      have e := scrOf_eq e
      rw [e] at r1
      obtain ⟨a', rfl, s1⟩ := r1.isScr
      exact .inl ⟨a', _, rfl, hK ▸ sqL_vis s1, hK ▸ hx _ w1 rfl g1 (itd_scr s1)⟩
    · exact hx.elim
  · exact hx.elim
def rngI (fr : Env → R (List D)) : Env → R (List D) := fun env => (fr env).bind fun ds => match ds with
  | [.int j] => guard' (rngOk 0 j) (.ret (rngD 0 j))
  | [.int i, .int j] => guard' (rngOk i j) (.ret (rngD i j))
  | _ => .bad
theorem di_rng1 {n : Str} (h : PI X tg e (iRng1 (liftA c W fr))) (hl : ∀ env fu (Q : Nat → List D → Prop) E, (fr env).wp fu Q E → (fr env).wp fu (fun fu ds => Q fu ds ∧ ds.length = 1) E) : PI X tg e (liftI c W (rngI fr)) := pi_imp h fun σ H Q ⟨w, env, a, q⟩ => by
  refine ⟨w, env, a, R.wp_mono (hl _ _ _ _ (wp_b q)) (fun fu ds ⟨hx, hl⟩ v w1 e1 g1 r1 => ?_) fun _ _ h => h⟩
  subst e1
  match ds, hl, r1, hx with
  | [d], _, .cons r1 .nil, hx =>
    cases d with
    | int j =>
      obtain rfl := r1.isInt
      obtain ⟨h1, h2⟩ := wp_guard.mp hx
      obtain ⟨b1, b2, b3, b4⟩ := of_decide_eq_true h1
      refine ⟨j, rfl, b3, b4, ?_⟩
      have := h2 _ w1 rfl g1 (itd_range (i := 0) (j := j))
      simpa using this
    | _ => exact hx.elim
theorem di_rng2 {n : Str} (h : PI X tg e (iRng2 (liftA c W fr))) (hl : ∀ env fu (Q : Nat → List D → Prop) E, (fr env).wp fu Q E → (fr env).wp fu (fun fu ds => Q fu ds ∧ ds.length = 2) E) : PI X tg e (liftI c W (rngI fr)) := pi_imp h fun σ H Q ⟨w, env, a, q⟩ => by
  refine ⟨w, env, a, R.wp_mono (hl _ _ _ _ (wp_b q)) (fun fu ds ⟨hx, hl⟩ v w1 e1 g1 r1 => ?_) fun _ _ h => h⟩
  subst e1
  match ds, hl, r1, hx with
  | [d, d'], _, .cons r1 (.cons r2 .nil), hx =>
    cases d with
    | int i =>
      cases d' with
      | int j =>
        obtain rfl := r1.isInt
        obtain rfl := r2.isInt
        obtain ⟨h1, h2⟩ := wp_guard.mp hx
        obtain ⟨b1, b2, b3, b4⟩ := of_decide_eq_true h1
        exact ⟨i, j, rfl, ⟨b1, b2, b3, b4⟩, h2 _ w1 rfl g1 (itd_range (i := i) (j := j))⟩
      | _ => exact hx.elim
    | _ => exact hx.elim
theorem len_cons {fr : Env → R (List D)} {n : Nat} (hl : ∀ env fu (Q : Nat → List D → Prop) E, (fr env).wp fu Q E → (fr env).wp fu (fun fu ds => Q fu ds ∧ ds.length = n) E) : ∀ env fu (Q : Nat → List D → Prop) E, (consA fa fr env).wp fu Q E → (consA fa fr env).wp fu (fun fu ds => Q fu ds ∧ ds.length = n + 1) E := fun env fu Q E h => by
  refine (R.wp_bind _ _ _ _ _).mpr (R.wp_mono (wp_b h) (fun fu x hx => ?_) fun _ _ h => h)
  refine (R.wp_bind _ _ _ _ _).mpr (R.wp_mono (hl _ _ _ _ (wp_b hx)) (fun fu r ⟨h1, h2⟩ => ⟨h1, ?_⟩) fun _ _ h => h)
  show r.length + 1 = _; rw [h2]
theorem len_nil : ∀ env fu (Q : Nat → List D → Prop) E, (nilA env).wp fu Q E → (nilA env).wp fu (fun fu ds => Q fu ds ∧ ds.length = 0) E := fun env fu Q E h => ⟨h, rfl⟩

def appS (i : Nat) (fa : Env → R D) : Env → R Out := fun env => match env[i]? with
  | some (some (.own es)) => exS fa (fun d env => guard' (decide (es.length < 16777216)) (.ret (.nx (env.set i (some (.own (es ++ [d]))))))) env
  | _ => .bad
theorem own_here (a : At c σ w.H w env) {i : Nat} {es : List D} (h : env[i]? = some (some (.own es))) : ∃ p vs, σ[i]? = some (some (.ref p)) ∧ p ∈ w.O ∧ w.H p = some (.lst vs) ∧ RpsW c w vs es := a.env.own i es h
theorem own_mut (a : At c σ w.H w env) {i : Nat} {es es' : List D} {p : Addr} {vs vs' : List V} (h : env[i]? = some (some (.own es))) (h1 : σ[i]? = some (some (.ref p))) (h2 : p ∈ w.O) (r : RpsW c w vs' es') {Dn : Ends}
    (q : SK c W Dn w w.fu (.nx (env.set i (some (.own es'))))) : Dn.nx σ (upd w.H p (.lst vs')) := by
  have k := a.ok.mut (o := .lst vs') h2
  have ev := vis_mut (c := c) (o := .lst vs') h2
  have le : LE c w { w with H := upd w.H p (.lst vs') } := ⟨fun x o e => by rw [ev]; exact e, fun _ h => h, Nat.le_refl _⟩
  have E : EnvOk c { w with H := upd w.H p (.lst vs') } σ (env.set i (some (.own es'))) := by
    refine ⟨by rw [List.length_set]; exact a.env.len, fun j d hj => ?_, fun j ds hj => ?_, fun j j' q' es1 es2 n e1 e2 e3 e4 => ?_⟩
    · rcases set_get hj with ⟨_, z⟩ | ⟨_, z⟩
      · cases z
      · obtain ⟨v, e1, e2⟩ := a.env.val j d z
        exact ⟨v, e1, le.rp e2⟩
    · rcases set_get hj with ⟨hji, z⟩ | ⟨hji, z⟩
      · cases z
        subst hji
        exact ⟨p, vs', h1, h2, upd_same, le.rpAll r⟩
      · obtain ⟨p', us, e1, e2, e3, e4⟩ := a.env.own j ds z
        refine ⟨p', us, e1, e2, ?_, le.rpAll e4⟩
        show upd w.H p _ p' = _
        rw [upd_ne (fun z' => a.env.sep j i p ds es hji z h (by rw [← z']; exact e1) h1)]; exact e3
    · have old : ∀ {m : Nat} {u : List D}, (env.set i (some (.own es')))[m]? = some (some (.own u)) → ∃ u', env[m]? = some (some (.own u')) := fun {m u} e => by
        rcases set_get e with ⟨hm, _⟩ | ⟨_, z⟩
        · subst hm; exact ⟨es, h⟩
        · exact ⟨u, z⟩
      obtain ⟨u1, o1⟩ := old e1
      obtain ⟨u2, o2⟩ := old e2
      exact a.env.sep j j' q' u1 u2 n o1 o2 e3 e4
  exact q σ { w with H := upd w.H p (.lst vs') } rfl k E le
theorem ds_app {i : Nat} (h : PS X st (tDrop (tBM X.K "list" rAppend (tVar i) (L2.tCons (liftE c W fa) L2.tNil)))) : PS X st (liftS c W (appS i fa)) := ps_imp h fun Dn σ H ⟨w, env, a, q⟩ => by
  obtain ⟨rfl⟩ := a.h
  unfold appS at q
  split at q
  · rename_i es he
    obtain ⟨p, vs, h1, h2, h3, h4⟩ := own_here a he
    refine ⟨.ref p, h1, .inl ⟨rfl, vs, .inl (.inl h3)⟩, ?_⟩
    refine stS a q fun x v w1 g1 a1 r1 q1 => ?_
    obtain ⟨hl, q2⟩ := wp_guard.mp q1
    have h3' := g1.keep _ _ h3 (own_notdk a.ok h2)
    have h4' := (g1.le a.ok).rpAll h4
    refine ⟨p, vs, v, rfl, rfl, h3', ?_, ?_⟩
    · rw [h4.len, sizeLine_eq]; exact of_decide_eq_true hl
    · exact own_mut (vs := vs) a1 he h1 (by rw [g1.O]; exact h2) (h4'.app (.cons r1 .nil)) q2
  · exact q.elim
/-- x[k] = e -/
def putS (i : Nat) (fe fk : Env → R D) : Env → R Out := exS fe fun d env => match env[i]? with
  | some (some (.own es)) => exS fk (fun k env => (match k with
    | .int j => match ixN es.length j with
      | some m => .ret (.nx (env.set i (some (.own (es.set m d)))))
      | none => .bad
    | _ => .bad)) env
  | _ => .bad
theorem ds_put {i : Nat} (h : PS X st (tAsg (liftE c W fa) (L2.gSub (tVar i) (liftE c W fb) rSetL))) : PS X st (liftS c W (putS i fa fb)) := ps_imp h fun Dn σ H ⟨w, env, a, q⟩ => by
  refine stS a q fun x v w1 g1 a1 r1 q1 => ?_
  split at q1
  · rename_i es he
    obtain ⟨p, vs, h1, h2, h3, h4⟩ := own_here a1 he
    refine ⟨.ref p, h1, ?_⟩
    refine stS a1 q1 fun y u w2 g2 a2 r2 q2 => ?_
    cases y with
    | int j =>
      obtain rfl := r2.isInt
      have q2 : (match ixN es.length j with | some m => R.ret (Out.nx (env.set i (some (.own (es.set m x))))) | none => R.bad).wp w2.fu (SK c W Dn w2) (fun _ _ => False) := q2
      cases e : ixN es.length j with
      | none => rw [e] at q2; exact q2.elim
      | some m =>
        rw [e] at q2
        have h3' := g2.keep _ _ h3 (own_notdk a1.ok h2)
        have h4' := (g2.le a1.ok).rpAll h4
        refine ⟨p, vs, j, m, rfl, rfl, h3', by rw [h4.len]; exact e, ?_⟩
        exact own_mut (vs := vs) a2 he h1 (by rw [g2.O]; exact h2) (h4'.set m ((g2.le a1.ok).rp r1)) q2
    | _ => exact q2.elim
  · exact q1.elim
/-- x[k], x[a:b], len(x) of one's own or any -/
def ownIx (i : Nat) (fk : Env → R D) : Env → R D := fun env => match env[i]? with
  | some (some (.own es)) => (fk env).bind fun k => match k with
    | .int j => ixL es j
    | _ => .bad
  | some (some (.val d)) => (fk env).bind fun k => gIx d k
  | _ => .bad
theorem de_ownIx {i : Nat} (hK : c.K = X.K) (h : PE X e (tOp (rIx X.K) (tVar i) (liftE c W fb))) : PE X e (liftE c W (ownIx i fb)) := pe_imp h fun σ H Q ⟨w, env, a, q⟩ => by
  obtain ⟨rfl⟩ := a.h
  unfold ownIx at q
  split at q
  · rename_i es he
    obtain ⟨p, vs, h1, h2, h3, h4⟩ := own_here a he
    refine ⟨.ref p, h1, step a q fun x v w1 g1 r1 q1 => ?_⟩
    cases x with
    | int j =>
      obtain rfl := r1.isInt
      have q1 : (ixL es j).wp w1.fu (PQ c w1 Q) (EK c W σ w1) := q1
      unfold ixL at q1
      split at q1
      · rename_i d e
        obtain ⟨z, e2, r⟩ := atI_rp ((g1.le a.ok).rpAll h4) e
        exact .inl ⟨p, vs, j, z, rfl, rfl, .inl (.inl (g1.keep _ _ h3 (own_notdk a.ok h2))), e2, PQ.here g1.ok q1 r⟩
      · exact q1.elim
    | _ => exact q1.elim
  · rename_i d hd
    obtain ⟨v, h1, h2⟩ := a.env.val _ _ hd
    exact ⟨v, h1, step a q fun x u w1 g1 r1 q1 => hK ▸ d_ix c W σ w1 d x v u Q g1.ok ((g1.le a.ok).rp h2) r1 q1⟩
  · exact q.elim
def ownSl (i : Nat) (fl fh : Env → R (Option Int)) : Env → R D := fun env => match env[i]? with
  | some (some (.own es)) => (fl env).bind fun l => (fh env).bind fun h => .ret (.list (cutD es l h))
  | some (some (.val d)) => (fl env).bind fun l => (fh env).bind fun h => gSl d l h
  | _ => .bad
theorem de_ownSl {i : Nat} {fl fh : Env → R (Option Int)} (hK : c.K = X.K) (h : PE X e (tSl (rSlAll X.K) (tVar i) (liftO c W fl) (liftO c W fh))) : PE X e (liftE c W (ownSl i fl fh)) := pe_imp h fun σ H Q ⟨w, env, a, q⟩ => by
  obtain ⟨rfl⟩ := a.h
  unfold ownSl at q
  split at q
  · rename_i es he
    obtain ⟨p, vs, h1, h2, h3, h4⟩ := own_here a he
    refine ⟨.ref p, h1, w, env, a, R.wp_mono (wp_b q) (fun fu l hl w2 e1 g2 => ?_) fun _ _ h => h⟩
    subst e1
    refine ⟨w2, env, a.grow g2, R.wp_mono (wp_b hl) (fun fu u hu w3 e1 g3 => ?_) fun _ _ h => h.grow a.ok g2⟩
    subst e1
    have g13 := g2.trans a.ok g3
    have k3 := g13.keep _ _ h3 (own_notdk a.ok h2)
    exact .inl ⟨p, vs, rfl, .inl (.inl k3), new_lst g3.ok (cutV_rp ((g13.le a.ok).rpAll h4)) (PQ.grow a.ok g13 hu)⟩
  · rename_i d hd
    obtain ⟨v, h1, h2⟩ := a.env.val _ _ hd
    refine ⟨v, h1, w, env, a, R.wp_mono (wp_b q) (fun fu l hl w2 e1 g2 => ?_) fun _ _ h => h⟩
    subst e1
    refine ⟨w2, env, a.grow g2, R.wp_mono (wp_b hl) (fun fu u hu w3 e1 g3 => ?_) fun _ _ h => h.grow a.ok g2⟩
    subst e1
    have g13 := g2.trans a.ok g3
    exact hK ▸ d_sl c W σ w3 d v l u Q g3.ok ((g13.le a.ok).rp h2) (R.wp_mono hu (fun _ _ h => h.grow a.ok g13) fun _ _ h => h.grow a.ok g13)
  · exact q.elim
def ownLen (i : Nat) : Env → R D := fun env => match env[i]? with
  | some (some (.own es)) => .ret (.int es.length)
  | some (some (.val d)) => gLen [d]
  | _ => .bad
theorem de_ownLen {i : Nat} (hK : c.K = X.K) (h : PE X e (tCB (rLenV X.K) (L2.tCons (tVar i) L2.tNil))) : PE X e (liftE c W (ownLen i)) := pe_imp h fun σ H Q ⟨w, env, a, q⟩ => by
  obtain ⟨rfl⟩ := a.h
  unfold ownLen at q
  split at q
  · rename_i es he
    obtain ⟨p, vs, h1, h2, h3, h4⟩ := own_here a he
    refine ⟨.ref p, h1, .ref p, vs.length, rfl, .inl ⟨vs, .inl (.inl h3), rfl⟩, ?_⟩
    rw [h4.len]
    exact PQ.here (d := .int _) a.ok q (.int _)
  · rename_i d hd
    obtain ⟨v, h1, h2⟩ := a.env.val _ _ hd
    exact ⟨v, h1, hK ▸ d_len c W σ w [d] [v] Q a.ok (.cons h2 .nil) q⟩
  · exact q.elim
theorem tAsg_lst {f : Env → R (List D)} {i : Nat} (h : PS X st (tAsg (liftL c W f) (gName i))) : PS X st (tAsg (liftE c W (lstD f)) (gName i)) := ps_imp h fun Dn σ H ⟨w, env, a, q⟩ => by
  refine ⟨w, env, a, R.wp_mono (wp_b q) (fun fu ds hx p vs w' e1 hO hp hp' k g r => ?_) fun _ _ h => h⟩
  subst e1
  have hs : ∀ x ∈ w.O, x ∈ w'.O := fun x hx => by rw [hO]; exact List.mem_cons_of_mem _ hx
  have le := LE.sub (c := c) hs
  refine hx (.ref p) { w' with O := w.O } rfl g (.lst (.inl (hide_some.mpr ⟨fun z => ?_, hp'⟩)) (le.rpAll r))
  rcases List.mem_append.mp z with z | z
  · exact a.ok.Oh _ z hp
  · have z2 : p ∈ w'.O := by rw [hO]; exact List.mem_cons_self
    rcases List.mem_append.mp z with z | z
    · exact k.dis _ z2 z
    · exact k.SH _ z (k.Of _ z2)
/-- code that is never come to -/
def badS : Env → R Out := fun _ => .bad
theorem ds_never : PS X st (liftS c W badS) := ps_imp ps_never fun Dn σ H ⟨w, env, a, q⟩ => q.elim
/-- a, b = x, y -/
def parS (i j : Nat) (fr : Env → R (List D)) : Env → R Out := exS fr fun ds env => match ds with
  | [x, y] => .ret (.nx ((env.set i (some (.val x))).set j (some (.val y))))
  | _ => .bad
theorem ds_par {i j : Nat} (h : PS X st (tPar i j (liftA c W fr))) : PS X st (liftS c W (parS i j fr)) := ps_imp h fun Dn σ H ⟨w, env, a, q⟩ => by
  refine ⟨w, env, a, R.wp_mono (wp_bo q) (fun fu ds hx vs w1 e1 g1 r1 => ?_) fun fu er h => EK_of a.ok a.env h⟩
  subst e1
  match ds, r1, hx with
  | [], _, hx => exact hx.elim
  | [_], _, hx => exact hx.elim
  | [x, y], .cons r1 (.cons r2 .nil), hx =>
    exact ⟨_, _, rfl, (show SK c W Dn w w1.fu (.nx _) from hx) _ w1 rfl g1.ok ((((a.grow g1).env).setVal r1).setVal r2) (g1.le a.ok)⟩
  | _ :: _ :: _ :: _, _, hx => exact hx.elim
/-- x += e -/
def augS (i : Nat) (g : D → D → R D) (fa : Env → R D) : Env → R Out := fun env => match env[i]? with
  | some (some (.val x)) => exS fa (fun y env => (g x y).both (fun z => .ret (.nx (env.set i (some (.val z))))) (fun er => .ret (.ex env er))) env
  | _ => .bad
theorem ds_aug {i : Nat} {r : TIp} {g : D → D → R D} (hg : OpAt c r g) (h : PS X st (tAug i (liftE c W fa) r)) : PS X st (liftS c W (augS i g fa)) := ps_imp h fun Dn σ H ⟨w, env, a, q⟩ => by
  obtain ⟨rfl⟩ := a.h
  unfold augS at q
  split at q
  · rename_i x hx
    obtain ⟨v, h1, h2⟩ := a.env.val _ _ hx
    refine ⟨v, h1, stS a q fun y u w1 g1 a1 r1 q1 => ?_⟩
    refine hg W σ w1 x y v u _ g1.ok ((g1.le a.ok).rp h2) r1 (R.wp_mono (wp_bo q1) (fun fu z hz t w2 e2 g2 r2 => ?_) fun fu er h => EK_of a1.ok a1.env h)
    subst e2
    exact (show SK c W Dn w1 w2.fu (.nx _) from hz) _ w2 rfl g2.ok ((a1.grow g2).env.setVal r2) (g2.le a1.ok)
  · exact q.elim
def raiseS (n : Str) (fa : Env → R D) : Env → R Out := exS fa fun _ env => .ret (.ex env ⟨n, []⟩)
theorem ds_raise {n : Str} {C : Addr} (hm : c.mg n = some (.ref C)) (h : PS X st (fun _ σ H => liftE c W fa σ H fun _ H1 => W (.ref C) none σ H1)) : PS X st (liftS c W (raiseS n fa)) := ps_imp h fun Dn σ H ⟨w, env, a, q⟩ => by
  refine stS a q fun x v w1 g1 a1 r1 q1 => ?_
  have q2 : SK c W Dn w1 w1.fu (.ex env ⟨n, []⟩) := q1
  exact q2 (.ref C) none σ w1 rfl a1.ok a1.env (LE.refl c w1) ⟨hm, fun _ => rfl, fun _ _ z => by cases z⟩
def startE (n : Nat) (ds : List D) : Env := ds.map (fun d => some (.val d)) ++ List.replicate (n - ds.length) none
def outD (o : Out) : R D := match o with
  | .nx _ => .ret .none
  | .rt d => .ret d
  | .rl ds => .ret (.list ds)
  | .ex _ er => .err er
  | _ => .bad
def outL (o : Out) : R (List D) := match o with
  | .rl ds => .ret ds
  | .ex _ er => .err er
  | _ => .bad
/-- the same of a def that gives back a new list -/
def defL (n : Nat) (fb : Env → R Out) : List D → R (List D) := fun ds => (fb (startE n ds)).both outL fun _ => .bad
def defF (n : Nat) (fb : Env → R Out) : List D → R D := fun ds => (fb (startE n ds)).both outD fun _ => .bad
theorem start_ok {vs : List V} {n : Nat} {N : List Str} (hN : N.length = n) (r : RpsW c w vs ds) : EnvOk c w (L2.start N vs) (startE n ds) := by
  have hl := r.len
  refine ⟨?_, fun i d h => ?_, fun i es h => ?_, fun i j p es fs n' h1 h2 h3 h4 => ?_⟩
  · unfold L2.start startE
    rw [List.length_append, List.length_append, List.length_map, List.length_map, List.length_replicate, List.length_replicate, hl, hN]
  · unfold startE at h
    unfold L2.start
    by_cases hi : i < ds.length
    · rw [List.getElem?_append_left (by rw [List.length_map]; exact hi), List.getElem?_map, List.getElem?_eq_getElem hi] at h
      cases h
      obtain ⟨v, e, rv⟩ := r.at' (List.getElem?_eq_getElem hi)
      refine ⟨v, ?_, rv⟩
      rw [List.getElem?_append_left (by rw [List.length_map, hl]; exact hi), List.getElem?_map, e]; rfl
    · rw [List.getElem?_append_right (by rw [List.length_map]; omega), List.getElem?_replicate] at h
      split at h <;> cases h
  · unfold startE at h
    by_cases hi : i < ds.length
    · rw [List.getElem?_append_left (by rw [List.length_map]; exact hi), List.getElem?_map, List.getElem?_eq_getElem hi] at h
      cases h
    · rw [List.getElem?_append_right (by rw [List.length_map]; omega), List.getElem?_replicate] at h
      split at h <;> cases h
  · unfold startE at h1
    by_cases hi : i < ds.length
    · rw [List.getElem?_append_left (by rw [List.length_map]; exact hi), List.getElem?_map, List.getElem?_eq_getElem hi] at h1
      cases h1
    · rw [List.getElem?_append_right (by rw [List.length_map]; omega), List.getElem?_replicate] at h1
      split at h1 <;> cases h1
end
section
variable {P : Program} {w : World} {K : PySem.W.Frag} {mg : Str → Option Value} {base : Heap} {DP : Nat → Hp → List V → Prop}
theorem fn_D {x qual : Str} {st : Stmt} {f : Addr} {fd : FuncData} {N ps : List Str} {k n m : Nat} {fb : Env → R Out} (F : Fun K x qual st f fd) (S : FnScope N ps (defScope st)) (hn : N.length = n) (hm : ps.length = m)
    (hb : ∀ (cdv : Value) (A : Around) (outer : List PySem.Env) (s : Shared) (H : Hp) (E : XK) (S' dk : List Addr), Room k (A.deeper (envOfC qual (defScope st) s.heap.objs.size f cdv)) → A.guards = some [] →
      PSs (cxOf (L2.CX P w) P w K mg base N qual (defScope st) f cdv A outer s H E) (defBody st) (liftS ⟨K, mg, DP, S', dk, H⟩ (fun cls d _ H => E cls d H) fb)) :
    FnG P w K mg base (L2.CX P w) (k + 1) f fd ps (SpD K mg DP m (defF n fb)) := by
  refine Fun.okG F S (fun vs H Q E h => h.1.trans hm.symm) fun cdv A outer s H vs Q E hr hgu ⟨hl, S', dk, ds, fu, k0, r, q⟩ => ⟨_, hb cdv A outer s H E S' dk hr hgu, ?_⟩
  refine ⟨⟨[], [], H, fu⟩, startE n ds, ⟨rfl, k0, start_ok hn r⟩, R.wp_mono (wp_bo q) (fun fu1 o h => ?_) fun _ er h => h⟩
  cases o with
  | nx e =>
    have h' : ∀ v w', w'.fu = fu1 → w'.fu ≤ fu → WOk ⟨K, mg, DP, S', dk, H⟩ w' → RpW ⟨K, mg, DP, S', dk, H⟩ w' v PyData.none → Q v w'.H := h
    exact fun σ' w' ef k' _ l => h' .non w' ef l.fu k' .non
  | rt d => exact fun v w' ef lf k' r' => (show ∀ v w', w'.fu = fu1 → w'.fu ≤ fu → WOk ⟨K, mg, DP, S', dk, H⟩ w' → RpW ⟨K, mg, DP, S', dk, H⟩ w' v d → Q v w'.H from h) v w' ef lf k' r'
  | rl l => exact fun p vs w' ef lf k' hp he r' => (show ∀ v w', w'.fu = fu1 → w'.fu ≤ fu → WOk ⟨K, mg, DP, S', dk, H⟩ w' → RpW ⟨K, mg, DP, S', dk, H⟩ w' v (.list l) → Q v w'.H from h) (.ref p) { w' with O := w'.O.filter fun x => decide (x ≠ p) } ef lf (k'.sub fun x hx => (List.mem_filter.mp hx).1) (own_free k' hp he r')
  | bk e => exact h.elim
  | ct e => exact h.elim
  | ex e er => exact fun cls dd σ' w' ef k' _ l er' => (show ∀ cls dd w', w'.fu = fu1 → w'.fu ≤ fu → WOk ⟨K, mg, DP, S', dk, H⟩ w' → ErOk ⟨K, mg, DP, S', dk, H⟩ w' cls dd er → E cls dd w'.H from h) cls dd w' ef l.fu k' er'
end
end DL
namespace DL
open PySem PySem.Spec PyProof.Rows L2
def gAddI (x y : D) : R D := match x, y with
  | .int i, .int j => .ret (.int (i + j))
  | _, _ => .bad
def gSubI (x y : D) : R D := match x, y with
  | .int i, .int j => .ret (.int (i - j))
  | _, _ => .bad
theorem d_ipadd : ∀ c, OpAt c (ipI fun i j => i + j) gAddI := fun c W σ w x y v u Q k r1 r2 h => by
  cases x <;> cases y <;> first
    | exact h.elim
    | skip
  obtain rfl := r1.isInt
  obtain rfl := r2.isInt
  exact ⟨_, _, rfl, rfl, PQ.here k h (.int _)⟩
theorem d_ipsub : ∀ c, OpAt c (ipI fun i j => i - j) gSubI := fun c W σ w x y v u Q k r1 r2 h => by
  cases x <;> cases y <;> first
    | exact h.elim
    | skip
  obtain rfl := r1.isInt
  obtain rfl := r2.isInt
  exact ⟨_, _, rfl, rfl, PQ.here k h (.int _)⟩
/-- the parameters' order: the k-th positional value (true) or the k-th keyword's -/
def gP0 {α : Type} (perm : List (Bool × Nat)) (us ws : List α) : List α := perm.filterMap fun p => if p.1 = true then us[p.2]? else ws[p.2]?
theorem gP0_vals {vs zs : List V} {us ws : List Value} (r : Vals vs us) (rz : Vals zs ws) : ∀ perm, Vals (gP0 perm vs zs) (gP0 perm us ws)
  | [] => .nil
  | (b, k) :: r' => by
    have ih := gP0_vals r rz r'
    unfold gP0 at ih ⊢
    rw [List.filterMap_cons, List.filterMap_cons]
    cases b with
    | true =>
      rw [if_pos rfl, if_pos rfl]
      cases e : vs[k]? with
      | none => rw [r.none_of e]; exact ih
      | some v =>
        obtain ⟨u, e2, r2⟩ := r.get e
        rw [e2]; exact .cons r2 ih
    | false =>
      rw [if_neg (show ¬ (false = true) by decide), if_neg (show ¬ (false = true) by decide)]
      cases e : zs[k]? with
      | none => rw [rz.none_of e]; exact ih
      | some v =>
        obtain ⟨u, e2, r2⟩ := rz.get e
        rw [e2]; exact .cons r2 ih
theorem gP0_rps {K : PySem.W.Frag} {dk : List Addr} {G : Hp} {vs zs : List V} {us ws : List D} (r : RpAll K dk G vs us) (rz : RpAll K dk G zs ws) : ∀ perm, RpAll K dk G (gP0 perm vs zs) (gP0 perm us ws)
  | [] => .nil
  | (b, k) :: r' => by
    have ih := gP0_rps r rz r'
    have nn : ∀ {vs : List V} {us : List D}, RpAll K dk G vs us → vs[k]? = none → us[k]? = none := fun h e => by
      rw [List.getElem?_eq_none_iff] at e ⊢
      rw [← h.len]; exact e
    unfold gP0 at ih ⊢
    rw [List.filterMap_cons, List.filterMap_cons]
    cases b with
    | true =>
      rw [if_pos rfl, if_pos rfl]
      cases e : vs[k]? with
      | none => rw [nn r e]; exact ih
      | some v =>
        obtain ⟨u, e2, r2⟩ := r.at e
        rw [e2]; exact .cons r2 ih
    | false =>
      rw [if_neg (show ¬ (false = true) by decide), if_neg (show ¬ (false = true) by decide)]
      cases e : zs[k]? with
      | none => rw [nn rz e]; exact ih
      | some v =>
        obtain ⟨u, e2, r2⟩ := rz.at e
        rw [e2]; exact .cons r2 ih
def gPn (perm : List (Bool × Nat)) (b : Bool) : Nat := (perm.filter fun p => p.1 == b).length
def gP {α : Type} (perm : List (Bool × Nat)) (us ws : List α) : List α := if us.length = gPn perm true ∧ ws.length = gPn perm false then gP0 perm us ws else []
theorem gP_vals {vs zs : List V} {us ws : List Value} (r : Vals vs us) (rz : Vals zs ws) (perm) : Vals (gP perm vs zs) (gP perm us ws) := by
  unfold gP
  rw [r.length, rz.length]
  split
  · exact gP0_vals r rz perm
  · exact .nil
theorem gP_rps {K : PySem.W.Frag} {dk : List Addr} {G : Hp} {vs zs : List V} {us ws : List D} (r : RpAll K dk G vs us) (rz : RpAll K dk G zs ws) (perm) : RpAll K dk G (gP perm vs zs) (gP perm us ws) := by
  unfold gP
  rw [r.len, rz.len]
  split
  · exact gP0_rps r rz perm
  · exact .nil
section
variable {X : Cx} {c : Base} {W : WX} {k n : Nat} {f : Addr} {fd : FuncData} {ps ks : List Str} {F : List D → R D} {x : Str} {p pos kpos : Pos} {e : Expr} {es : List Expr} {kws : List Keyword} {fa : Env → R D} {fr fk : Env → R (List D)} {nm : Option Str} {t tk' : TA} {sp : Sp}
theorem pk_imp {kws : List Keyword} {t t' : TA} (h : PK X kws t) (i : ∀ σ H Q, t' σ H Q → t σ H Q) : PK X kws t' := ⟨fun pos pins s σ H Q I q => h.run pos pins s σ H Q I (i _ _ _ q)⟩
theorem dk_nil : PK X [] (liftA c W nilA) := pk_imp pk_nil fun σ H Q ⟨w, env, a, q⟩ => by
  show Q [] H
  rw [← a.h]
  exact q [] w rfl (Grow.refl a.ok) .nil
theorem dk_cons (ha : PE X e (liftE c W fa)) (hr : PK X kws (liftA c W fr)) : PK X (⟨nm, e, kpos⟩ :: kws) (liftA c W (consA fa fr)) :=
  pk_imp (pk_cons ha hr) fun σ H Q ⟨w, env, a, q⟩ => stepEA a q fun x v w1 g1 r1 q1 => stepAA (a.grow g1) q1 fun xs vs w2 g2 r2 q2 => q2 _ w2 rfl (Grow.refl g2.ok) (.cons ((g2.le g1.ok).rp r1) r2)
def tCallKS (sp : Sp) (gV : List V → List V → List V) (E : L2.St → XK) (t tk : TA) : TE := fun σ H Q => t σ H fun vs H1 => tk σ H1 fun zs H2 => sp (gV vs zs) H2 Q (E σ)
variable {g : List Value → List Value → List Value} {gV : List V → List V → List V} {E : L2.St → XK} {CX : CXT}
theorem run_kwS {pins : List (Addr × Obj)} {σ : L2.St} {H : Hp} {s : Shared} {Q : VK} {us ws : List Value} {vs zs : List V} (FO : FnG X.prog X.w X.K X.mg X.base CX k f fd ps sp) (hr : Room k X.A) (hgu : X.A.guards = some []) (hb : KBinds X.K fd ps ks g gV) (hx : PassesAt CX X σ (E σ))
    (I : Inv X pins σ H s) (r : Vals vs us) (rz : Vals zs ws) (h : sp (gV vs zs) H Q (E σ)) : wpAny (model X.prog X.w) X.A (call (.ref f) us (ks.zip ws)) (EP X pins σ Q) X.xe s := by
  have rr := hb.rel r rz
  have hlen : (g us ws).length = ps.length := rr.length.symm.trans (FO.len _ _ _ _ h)
  refine wpAny_call (codeAny_mono (FO.run X.A X.stack s H ⟨us, ks.zip ws⟩ (g us ws) (gV vs zs) Q (E σ) hr hgu I.env0 (hb.to s us ws I.kIn hlen) rr h) fun res s' hq => ?_)
  match res, hq with
  | .error e, hq => exact hx pins H s e s' I hq
  | .ok (.ret u), hq => exact I.after hq
  | .ok .next, hq => exact False.elim hq
  | .ok .brk, hq => exact False.elim hq
  | .ok .cont, hq => exact False.elim hq
theorem pe_kwS (FO : FnG X.prog X.w X.K X.mg X.base CX k f fd ps sp) (hr : Room k X.A) (hgu : X.A.guards = some []) (hg : Gl X x) (hm : X.mg x = some (.ref f)) (hk : PySem.W.keepIn X.K (.ref f) = true) (hb : KBinds X.K fd ps ks g gV) (hx : ∀ σ, PassesAt CX X σ (E σ))
    (ha : PA X (e :: es) t) (hkw : PK X kws tk') (hall : (backToKw pos (keywordEach kws X.env)).all (·.1.isSome) = true := by rfl) (hks : (backToKw pos (keywordEach kws X.env)).filterMap (·.1) = ks := by rfl)
    (hdb : (x == ("__debug__" : Str)) = false := by decide) (he : starEach (e :: es) X.env = (false, eval e X.env) :: starEach es X.env := by rfl)
    (hpl : ((backTo pos (starEach (e :: es) X.env)).any (·.1) || (backToKw pos (keywordEach kws X.env)).any (·.1.isNone)) = false := by rfl) :
    PE X (.Call (.Name x p) (e :: es) kws pos) (tCallKS sp gV E t tk') := by
  constructor
  intro pins s σ H Q I h
  refine wpAny_Call_Name_kw (ld_glob I hg hm (PySem.W.callWith_KW (h₀ := X.base) I.ok.mod.kin hk hall (thn (ha.run pos pins s σ H _ I h) fun us s1 ⟨vs, H1, I1, r, q⟩ => thn (hkw.run pos pins s1 σ H1 _ I1 q) fun ws s2 ⟨zs, H2, I2, rz, q2⟩ => ⟨I2.kIn, ?_⟩) hpl he) hdb)
  rw [hks]
  exact run_kwS FO hr hgu hb (hx σ) I2 r rz q2
theorem pe_kwS0 (FO : FnG X.prog X.w X.K X.mg X.base CX k f fd ps sp) (hr : Room k X.A) (hgu : X.A.guards = some []) (hg : Gl X x) (hm : X.mg x = some (.ref f)) (hk : PySem.W.keepIn X.K (.ref f) = true) (hb : KBinds X.K fd ps ks g gV) (hx : ∀ σ, PassesAt CX X σ (E σ))
    (hkw : PK X kws tk') (hall : (backToKw pos (keywordEach kws X.env)).all (·.1.isSome) = true := by rfl) (hks : (backToKw pos (keywordEach kws X.env)).filterMap (·.1) = ks := by rfl)
    (hdb : (x == ("__debug__" : Str)) = false := by decide)
    (hpl : ((backTo pos (starEach [] X.env)).any (·.1) || (backToKw pos (keywordEach kws X.env)).any (·.1.isNone)) = false := by rfl) :
    PE X (.Call (.Name x p) [] kws pos) (tCallKS sp gV E L2.tNil tk') := by
  constructor
  intro pins s σ H Q I h
  refine wpAny_Call_Name_kw (ld_glob I hg hm (PySem.W.callWith_KW0 (h₀ := X.base) I.ok.mod.kin hk hall (thn (hkw.run pos pins s σ H _ I h) fun ws s2 ⟨zs, H2, I2, rz, q2⟩ => ⟨I2.kIn, ?_⟩) hpl) hdb)
  rw [hks]
  exact run_kwS FO hr hgu hb (hx σ) I2 .nil rz q2
def callK (n : Nat) (F : List D → R D) (perm : List (Bool × Nat)) (fr fk : Env → R (List D)) : Env → R D := fun env => (fr env).bind fun ds => (fk env).bind fun es => guard' (decide ((gP perm ds es).length = n)) (F (gP perm ds es))
theorem tCallKS_of {perm : List (Bool × Nat)} : ∀ σ H Q, liftE c W (callK n F perm fr fk) σ H Q → tCallKS (SpD c.K c.mg c.DP n F) (gP perm) (WE W) (liftA c W fr) (liftA c W fk) σ H Q := fun σ H Q ⟨w, env, a, q⟩ =>
  stepAE a q fun xs vs w1 g1 r1 q1 => stepAE (a.grow g1) q1 fun ys zs w2 g2 r2 q2 => by
    obtain ⟨h1, h2⟩ := wp_guard.mp q2
    exact spD_of (K := c.K) g2.ok (gP_rps ((g2.le g1.ok).rpAll r1) r2 perm) (of_decide_eq_true h1) h2
theorem de_callK {perm : List (Bool × Nat)} (FO : FnG X.prog X.w X.K X.mg X.base (L2.CX X.prog X.w) k f fd ps (SpD c.K c.mg c.DP n F)) (hr : Room k X.A) (hgu : X.A.guards = some []) (hg : Gl X x) (hm : X.mg x = some (.ref f)) (hk : PySem.W.keepIn X.K (.ref f) = true) (hb : KBinds X.K fd ps ks (gP perm) (gP perm)) (tk : Takes X W)
    (ha : PA X (e :: es) (liftA c W fr)) (hkw : PK X kws (liftA c W fk)) (hall : (backToKw pos (keywordEach kws X.env)).all (·.1.isSome) = true := by rfl) (hks : (backToKw pos (keywordEach kws X.env)).filterMap (·.1) = ks := by rfl)
    (hdb : (x == ("__debug__" : Str)) = false := by decide) (he : starEach (e :: es) X.env = (false, eval e X.env) :: starEach es X.env := by rfl)
    (hpl : ((backTo pos (starEach (e :: es) X.env)).any (·.1) || (backToKw pos (keywordEach kws X.env)).any (·.1.isNone)) = false := by rfl) :
    PE X (.Call (.Name x p) (e :: es) kws pos) (liftE c W (callK n F perm fr fk)) :=
  pe_imp (pe_kwS (E := WE W) FO hr hgu hg hm hk hb (fun σ => passAt tk σ) ha hkw hall hks hdb he hpl) tCallKS_of
theorem tCallKS_nil {perm : List (Bool × Nat)} : ∀ σ H Q, liftE c W (callK n F perm nilA fk) σ H Q → tCallKS (SpD c.K c.mg c.DP n F) (gP perm) (WE W) L2.tNil (liftA c W fk) σ H Q := fun σ H Q ⟨w, env, a, q⟩ => by
  obtain ⟨rfl⟩ := a.h
  show liftA c W fk σ w.H fun zs H2 => SpD c.K c.mg c.DP n F (gP perm [] zs) H2 Q (WE W σ)
  refine stepAE a (show ((fk env).bind _).wp _ _ _ from q) fun ys zs w2 g2 r2 q2 => ?_
  obtain ⟨h1, h2⟩ := wp_guard.mp q2
  exact spD_of (K := c.K) g2.ok (gP_rps .nil r2 perm) (of_decide_eq_true h1) h2
theorem de_callK0 {perm : List (Bool × Nat)} (FO : FnG X.prog X.w X.K X.mg X.base (L2.CX X.prog X.w) k f fd ps (SpD c.K c.mg c.DP n F)) (hr : Room k X.A) (hgu : X.A.guards = some []) (hg : Gl X x) (hm : X.mg x = some (.ref f)) (hk : PySem.W.keepIn X.K (.ref f) = true) (hb : KBinds X.K fd ps ks (gP perm) (gP perm)) (tk : Takes X W)
    (hkw : PK X kws (liftA c W fk)) (hall : (backToKw pos (keywordEach kws X.env)).all (·.1.isSome) = true := by rfl) (hks : (backToKw pos (keywordEach kws X.env)).filterMap (·.1) = ks := by rfl)
    (hdb : (x == ("__debug__" : Str)) = false := by decide)
    (hpl : ((backTo pos (starEach [] X.env)).any (·.1) || (backToKw pos (keywordEach kws X.env)).any (·.1.isNone)) = false := by rfl) :
    PE X (.Call (.Name x p) [] kws pos) (liftE c W (callK n F perm nilA fk)) :=
  pe_imp (pe_kwS0 (E := WE W) FO hr hgu hg hm hk hb (fun σ => passAt tk σ) hkw hall hks hdb hpl) tCallKS_nil
end
theorem kb_mk {K : PySem.W.Frag} (fd : FuncData) {ps ks : List Str} (perm : List (Bool × Nat)) (to : ∀ (s : Shared) (us ws : List Value), (gP perm us ws).length = ps.length → BindsTo s fd ⟨us, ks.zip ws⟩ (ps.zip (gP perm us ws))) : KBinds K fd ps ks (gP perm) (gP perm) :=
  ⟨fun s us ws _ hl => to s us ws hl, fun r rz => gP_vals r rz perm⟩
end DL
namespace DL
open PySem PySem.Spec PyProof.Rows L2
def rSortU (K : PySem.W.Frag) : List V → Hp → VK → Prop := fun vs H Q => ∃ (a : Addr) (xs : List V) (ds : List D), vs = [V.ref a] ∧ SqL K H a xs ∧ DpAll K H xs ds ∧ PyData.canLayAll0 ds = true ∧ PySem.W.AllAlike ds ∧ PySem.W.Sortable ds ∧ ds.length ≤ sizeLine ∧ (∀ d ∈ ds, d.depth ≤ 60) ∧
  ∀ ys p, PySem.W.EachIs (fun v d => (v, d) ∈ xs.zip ds) ys (ds.mergeSort (PySem.W.dataLe false id)) → H p = none → Q (.ref p) (upd H p (.lst ys))
theorem dpAll_len {K : PySem.W.Frag} {H : Hp} : ∀ {xs : List V} {ds : List D}, DpAll K H xs ds → xs.length = ds.length
  | _, _, .nil => rfl
  | _, _, .cons _ h => congrArg Nat.succ (dpAll_len h)
theorem each_of {K : PySem.W.Frag} {X : Cx} {pins : List (Addr × Obj)} {σ : L2.St} {H : Hp} {s : Shared} (I : Inv X pins σ H s) : ∀ {xs : List V} {ds : List D} {us : List Value}, DpAll X.K H xs ds → Vals xs us →
    PySem.W.EachIs (fun u d => ∃ v, RelV v u ∧ (v, d) ∈ xs.zip ds) us ds ∧ PySem.W.EachIs (fun u d => ∃ as, Reads s.heap u d as) us ds
  | _, _, _, .nil, .nil => ⟨.nil, .nil⟩
  | _, _, _, .cons h1 h2, .cons r1 r2 => by
    obtain ⟨i1, i2⟩ := each_of (K := K) I h2 r2
    refine ⟨.cons ⟨_, r1, List.mem_cons_self⟩ (i1.mono fun u d ⟨v, e1, e2⟩ => ⟨v, e1, List.mem_cons_of_mem _ e2⟩), .cons (Dp.reads I _ _ _ h1 r1) i2⟩
theorem vals_each {P : V → D → Prop} : ∀ {us : List Value} {ds : List D}, PySem.W.EachIs (fun u d => ∃ v, RelV v u ∧ P v d) us ds → ∃ ys, Vals ys us ∧ PySem.W.EachIs P ys ds
  | _, _, .nil => ⟨[], .nil, .nil⟩
  | _, _, .cons ⟨v, r, p⟩ h => by
    obtain ⟨ys, r2, p2⟩ := vals_each h
    exact ⟨v :: ys, .cons r r2, .cons p p2⟩
theorem cr_sortU {X : Cx} (hu : X.A.units + 64 < cLine) : CallR X (.builtin "sorted") (rSortU X.K) := by
  intro pins s σ H vs us Q I r h
  obtain ⟨a, xs, ds, rfl, hs, hd, hcl, hal, hk, hz, hdep, q⟩ := h
  obtain ⟨its, rv, hl, hz2⟩ := I.list hs
  rw [Vals.ref1 r]
  obtain ⟨e1, e2⟩ := each_of (K := X.K) I hd rv
  refine PySem.W.sorted_data (enc := id) hl.isList e1 e2 (by rw [List.map_id]; exact hal) (by rw [List.map_id]; exact hk) hz (fun d hm => ?_) fun out ho he => ?_
  · have := hdep d hm
    show X.A.units + 2 + d.depth < cLine
    omega
  · obtain ⟨ep, he'⟩ := PyProof.Rows.sortedAll_at s.heap its out.toArray
    obtain ⟨ys, ry, py⟩ := vals_each (P := fun v d => (v, d) ∈ xs.zip ds) he
    refine ⟨.ref _, upd H (s.heap.objs.size + 1) (.lst ys), I.laid (t' := s.toks) (fun _ _ => PyProof.Rows.sortedAll_old) (Nat.le_succ _) ⟨?_, out, ep, ry, ?_⟩, rfl, q ys _ py (I.hok.fresh (Nat.le_succ _))⟩
    · rw [ry.length, ho]; exact hz
    · simpa using he'
def allAlikeB (ds : List D) : Bool := ds.all fun d => ds.all fun d' => PySem.W.alike d d'
def sortableB (ds : List D) : Bool := (ds.all fun d => match d with | .tuple (_ :: _) => true | _ => false) || (ds.all fun d => match d with | .none => false | .tuple _ => false | _ => true)
theorem allAlikeB_of {ds : List D} (h : allAlikeB ds = true) : PySem.W.AllAlike ds := fun d hd d' hd' => List.all_eq_true.mp (List.all_eq_true.mp h d hd) d' hd'
theorem sortableB_of {ds : List D} (h : sortableB ds = true) : PySem.W.Sortable ds := by
  rcases (Bool.or_eq_true _ _).mp h with h | h
  · refine .inl fun d hd => ?_
    have := List.all_eq_true.mp h d hd
    split at this
    · exact ⟨_, _, rfl⟩
    · cases this
  · refine .inr fun d hd => ?_
    have := List.all_eq_true.mp h d hd
    split at this
    · cases this
    · cases this
    · rename_i h1 h2
      exact ⟨h1, h2⟩
def sortOk (ds : List D) : Bool := PyData.canLayAll0 ds && (allAlikeB ds && (sortableB ds && (decide (ds.length ≤ 16777216) && ds.all fun d => decide (d.depth ≤ 60))))
def sortD (ds : List D) : List D := ds.mergeSort (PySem.W.dataLe false id)
def sortF (f : Env → R D) : Env → R (List D) := fun env => (f env).bind fun x => match x with
  | .list ds => guard' (sortOk ds) (.ret (sortD ds))
  | _ => .bad
theorem zip_rp {K : PySem.W.Frag} {dk : List Addr} {G : Hp} : ∀ {xs : List V} {ds : List D}, RpAll K dk G xs ds → ∀ v d, (v, d) ∈ xs.zip ds → Rp K dk G v d
  | _, _, .nil, _, _, h => by cases h
  | _, _, .cons h1 h2, v, d, h => by
    rcases List.mem_cons.mp h with h | h
    · cases h; exact h1
    · exact zip_rp h2 v d h
theorem each_rp {K : PySem.W.Frag} {dk : List Addr} {G : Hp} {P : V → D → Prop} (hp : ∀ v d, P v d → Rp K dk G v d) : ∀ {ys : List V} {ds : List D}, PySem.W.EachIs P ys ds → RpAll K dk G ys ds
  | _, _, .nil => .nil
  | _, _, .cons h1 h2 => .cons (hp _ _ h1) (each_rp hp h2)
section
variable {X : Cx} {c : Base} {W : WX} {w w' w1 w2 : Wd} {σ : L2.St} {env : Env} {e a b d : Expr} {fa fb fc : Env → R D}
theorem dl_sort (hK : c.K = X.K) (h : PE X e (tCB (rSortU X.K) (L2.tCons (liftE c W fa) L2.tNil))) : PE X e (liftL c W (sortF fa)) := pe_imp h fun σ H Q ⟨w, env, a, q⟩ => by
  refine ⟨w, env, a, R.wp_mono (wp_b q) (fun fu x hx v w1 e1 g1 r1 => ?_) fun _ _ h => h⟩
  subst e1
  cases x with
  | list ds =>
    obtain ⟨h1, h2⟩ := wp_guard.mp hx
    unfold sortOk at h1
    simp only [Bool.and_eq_true, List.all_eq_true, decide_eq_true_eq] at h1
    obtain ⟨c0, c1, c2, c3, c4⟩ := h1
    obtain ⟨a', xs, rfl, s1, a1⟩ := r1.isLst
    refine ⟨a', xs, ds, rfl, hK ▸ sqL_vis s1, hK ▸ dpAll_mono (fun _ _ => vis_sub) (a1.dp c0), c0, allAlikeB_of c1, sortableB_of c2, line_eq.mpr c3, c4, fun ys p hy => ?_⟩
    exact own_new a g1 (each_rp (zip_rp a1) hy) h2 p
  | _ => exact hx.elim
end
def gCount (x : D) (ys : List D) : R D := match x, ys with
  | .str a, [.str b] => .ret (.int (Txt.count a b))
  | _, _ => .bad
theorem d_count : ∀ c : Base, MtAt c (fun x xs H Q => ∃ a b, x = .str a ∧ xs = [.str b] ∧ Q (.int (Txt.count a b)) H) gCount := fun c W σ w x v xs vs Q k r1 r2 h => by
  unfold gCount at h
  split at h
  · obtain rfl := r1.isStr
    cases r2 with | cons r2 r3 => cases r3; obtain rfl := r2.isStr; exact ⟨_, _, rfl, rfl, PQ.here k h (.int _)⟩
  · exact h.elim
def strsOf : List D → Option (List Str)
  | [] => some []
  | .str i :: r => (strsOf r).map (i :: ·)
  | _ => none
theorem strsOf_map : ∀ {ds : List D} {ns : List Str}, strsOf ds = some ns → ds = ns.map PyData.str
  | [], ns, h => by cases h; rfl
  | d :: r, ns, h => by
    cases d with
    | str i =>
      unfold strsOf at h
      cases e : strsOf r with
      | none => rw [e] at h; cases h
      | some ms =>
        rw [e] at h
        cases h
        rw [strsOf_map e]; rfl
    | _ => cases h
theorem strsOf_of (ns : List Str) : strsOf (ns.map PyData.str) = some ns := by
  induction ns with
  | nil => rfl
  | cons n r ih =>
    show (strsOf (r.map PyData.str)).map (n :: ·) = _
    rw [ih]; rfl
theorem rpStrs {K : PySem.W.Frag} {dk : List Addr} {G : Hp} : ∀ {ns : List Str} {vs : List V}, RpAll K dk G vs (ns.map PyData.str) → vs = ns.map V.str
  | [], _, h => by cases h; rfl
  | n :: r, _, h => by
    cases h with
    | cons h1 h2 => rw [h1.isStr, rpStrs h2]; rfl
def gJoin (x : D) (ys : List D) : R D := match x, ys with
  | .str a, [.list ds] => match strsOf ds with
    | some zs => guard' (decide ((zs.map (·.length)).sum + zs.length * a.length ≤ 16777216)) (.ret (.str (Txt.join a zs)))
    | none => .bad
  | _, _ => .bad
def rJoinU (K : PySem.W.Frag) : V → List V → Hp → VK → Prop := fun x xs H Q => ∃ a p, ∃ ys : List Str, x = .str a ∧ xs = [.ref p] ∧ (SqL K H p (ys.map V.str) ∨ SqT K H p (ys.map V.str)) ∧ (ys.map (·.length)).sum + ys.length * a.length ≤ 16777216 ∧ Q (.str (Txt.join a ys)) H
theorem m_joinU {X : Cx} : MtR X "str.join" (rJoinU X.K) := mt_join
theorem d_join : ∀ c : Base, MtAt c (rJoinU c.K) gJoin := fun c W σ w x v xs vs Q k r1 r2 h => by
  unfold gJoin at h
  split at h
  · split at h
    · rename_i zs e
      have e := strsOf_map e
      subst e
      obtain rfl := r1.isStr
      obtain ⟨h1, h2⟩ := wp_guard.mp h
      cases r2 with
      | cons r2 r3 =>
        cases r3
        obtain ⟨p, ys, rfl, s1, a1⟩ := r2.isLst
        obtain rfl := rpStrs a1
        exact ⟨_, p, zs, rfl, rfl, .inl (sqL_vis s1), of_decide_eq_true h1, PQ.here k h2 (.str _)⟩
    · exact h.elim
  · exact h.elim
def toV : D → V
  | .bool b => .bl b | .int i => .int i | .str x => .str x | _ => .non
theorem rp_toV {c : Base} {w : Wd} {v : V} {d : D} (r : RpW c w v d) (s : scalD d = true) : v = toV d ∧ flatV v = true := by
  cases r <;> first
    | exact ⟨rfl, rfl⟩
    | cases s
theorem rps_toV {c : Base} {w : Wd} : ∀ {vs : List V} {ds : List D}, RpsW c w vs ds → ds.all scalD = true → vs = ds.map toV ∧ vs.all flatV = true
  | _, _, .nil, _ => ⟨rfl, rfl⟩
  | _, _, .cons h1 h2, s => by
    rw [List.all_cons, Bool.and_eq_true] at s
    obtain ⟨e1, f1⟩ := rp_toV h1 s.1
    obtain ⟨e2, f2⟩ := rps_toV h2 s.2
    refine ⟨by rw [List.map_cons, ← e1, ← e2], by rw [List.all_cons, f1, f2]; rfl⟩
def inB (neg b : Bool) : Bool := if neg then !b else b
def gInN (neg : Bool) (x y : D) : R D := match y with
  | .list ds => guard' (SeqAt.shaped x && SeqAt.shaped (.list ds)) (.ret (.bool (inB neg (ds.any fun z => PyData.eqv z x))))
  | .tuple ds => if (scalD x && ds.all scalD) = true then .ret (.bool (if neg then !inV (toV x) (ds.map toV) else inV (toV x) (ds.map toV)))
    else guard' (SeqAt.shaped x && SeqAt.shaped (.tuple ds)) (.ret (.bool (inB neg (ds.any fun z => PyData.eqv z x))))
  | .str z => match x with
    | .str t => guard' (decide (t.cps.size = 1)) (.ret (.bool (inB neg (decide (t.cps.toList.headD 0 ∈ z.cps.toList)))))
    | _ => .bad
  | _ => .bad
def gInA : D → D → R D := gInN false
def gNotInA : D → D → R D := gInN true
def rInTD (K : PySem.W.Frag) : R2 := fun x y H Q => ∃ d ds, Dp K H x d ∧ Dp K H y (.tuple ds) ∧ SeqAt.shaped d = true ∧ SeqAt.shaped (.tuple ds) = true ∧ Q (.bl (ds.any fun z => PyData.eqv z d)) H
def rNotInTD (K : PySem.W.Frag) : R2 := fun x y H Q => ∃ d ds, Dp K H x d ∧ Dp K H y (.tuple ds) ∧ SeqAt.shaped d = true ∧ SeqAt.shaped (.tuple ds) = true ∧ Q (.bl (!ds.any fun z => PyData.eqv z d)) H
theorem op_inTD {X : Cx} (hu : X.A.units + 65 < cLine) : OpR X (compareOp .In) (rInTD X.K) := by
  intro pins s σ H x y v u Q I rx ry h
  obtain ⟨d, ds, hd, he, sd, se, q⟩ := h
  obtain ⟨as, r1⟩ := Dp.reads I d x v hd rx
  obtain ⟨bs, r2⟩ := Dp.reads I (.tuple ds) y u he ry
  exact SeqAt.in_tuple_reads r2 r1 (SeqAt.canLay_of_shaped se) (SeqAt.canLay_of_shaped sd) (room_in_shaped sd hu) ⟨.bl _, H, I, rfl, q⟩
theorem op_notInTD {X : Cx} (hu : X.A.units + 65 < cLine) : OpR X (compareOp .NotIn) (rNotInTD X.K) := by
  intro pins s σ H x y v u Q I rx ry h
  obtain ⟨d, ds, hd, he, sd, se, q⟩ := h
  obtain ⟨as, r1⟩ := Dp.reads I d x v hd rx
  obtain ⟨bs, r2⟩ := Dp.reads I (.tuple ds) y u he ry
  exact SeqAt.notIn_tuple_reads r2 r1 (SeqAt.canLay_of_shaped se) (SeqAt.canLay_of_shaped sd) (room_in_shaped sd hu) ⟨.bl _, H, I, rfl, q⟩
def rInAll (K : PySem.W.Frag) : R2 := orR (rInD K) (orR (rIn K false) (orR rInS (rInTD K)))
def rNotInAll (K : PySem.W.Frag) : R2 := orR (rNotInD K) (orR (rIn K true) (orR rNotInS (rNotInTD K)))
theorem op_inAll {X : Cx} (hu : X.A.units + 65 < cLine) : OpR X (compareOp .In) (rInAll X.K) := OpR.or (op_inD hu) (OpR.or op_in_seq (OpR.or op_inS (op_inTD hu)))
theorem op_notInAll {X : Cx} (hu : X.A.units + 65 < cLine) : OpR X (compareOp .NotIn) (rNotInAll X.K) := OpR.or (op_notInD hu) (OpR.or op_notIn_seq (OpR.or op_notInS (op_notInTD hu)))
theorem one_sign {t : Str} (h : t.cps.size = 1) : t = ⟨#[t.cps.toList.headD 0]⟩ := by
  obtain ⟨⟨l⟩⟩ := t
  match l, h with
  | [n], _ => rfl
theorem d_inA : ∀ c : Base, OpAt c (rInAll c.K) gInA := fun c W σ w x y v u Q k r1 r2 h => by
  cases y with
  | list ds =>
    obtain ⟨h1, h2⟩ := wp_guard.mp h
    obtain ⟨h3, h4⟩ := (Bool.and_eq_true _ _).mp h1
    exact .inl ⟨x, ds, dp_mono (fun _ _ => vis_sub) (r1.dp (SeqAt.canLay_of_shaped h3)), dp_mono (fun _ _ => vis_sub) (r2.dp (SeqAt.canLay_of_shaped h4)), h3, h4, PQ.here k h2 (.bl _)⟩
  | tuple ds =>
    have h : (if (scalD x && ds.all scalD) = true then _ else _ : R D).wp _ _ _ := h
    split at h
    · rename_i h1
      have h2 := h
      obtain ⟨h3, h4⟩ := (Bool.and_eq_true _ _).mp h1
      obtain ⟨p, ys, rfl, s1, a1⟩ := r2.isTup
      obtain ⟨e1, f1⟩ := rp_toV r1 h3
      obtain ⟨e2, f2⟩ := rps_toV a1 h4
      subst e1 e2
      exact .inr (.inl ⟨p, _, rfl, .inr (sqT_vis s1), f1, f2, PQ.here k h2 (.bl _)⟩)
    · obtain ⟨h1, h2⟩ := wp_guard.mp h
      obtain ⟨h3, h4⟩ := (Bool.and_eq_true _ _).mp h1
      exact .inr (.inr (.inr ⟨x, ds, dp_mono (fun _ _ => vis_sub) (r1.dp (SeqAt.canLay_of_shaped h3)), dp_mono (fun _ _ => vis_sub) (r2.dp (SeqAt.canLay_of_shaped h4)), h3, h4, PQ.here k h2 (.bl _)⟩))
  | str z =>
    cases x with
    | str t =>
      obtain ⟨h1, h2⟩ := wp_guard.mp h
      have h1 := one_sign (of_decide_eq_true h1)
      obtain rfl := r1.isStr
      obtain rfl := r2.isStr
      exact .inr (.inr (.inl ⟨_, z, by rw [← h1], rfl, PQ.here k h2 (.bl _)⟩))
    | _ => exact h.elim
  | _ => exact h.elim
theorem d_notInA : ∀ c : Base, OpAt c (rNotInAll c.K) gNotInA := fun c W σ w x y v u Q k r1 r2 h => by
  cases y with
  | list ds =>
    obtain ⟨h1, h2⟩ := wp_guard.mp h
    obtain ⟨h3, h4⟩ := (Bool.and_eq_true _ _).mp h1
    exact .inl ⟨x, ds, dp_mono (fun _ _ => vis_sub) (r1.dp (SeqAt.canLay_of_shaped h3)), dp_mono (fun _ _ => vis_sub) (r2.dp (SeqAt.canLay_of_shaped h4)), h3, h4, PQ.here k h2 (.bl _)⟩
  | tuple ds =>
    have h : (if (scalD x && ds.all scalD) = true then _ else _ : R D).wp _ _ _ := h
    split at h
    · rename_i h1
      have h2 := h
      obtain ⟨h3, h4⟩ := (Bool.and_eq_true _ _).mp h1
      obtain ⟨p, ys, rfl, s1, a1⟩ := r2.isTup
      obtain ⟨e1, f1⟩ := rp_toV r1 h3
      obtain ⟨e2, f2⟩ := rps_toV a1 h4
      subst e1 e2
      exact .inr (.inl ⟨p, _, rfl, .inr (sqT_vis s1), f1, f2, PQ.here k h2 (.bl _)⟩)
    · obtain ⟨h1, h2⟩ := wp_guard.mp h
      obtain ⟨h3, h4⟩ := (Bool.and_eq_true _ _).mp h1
      exact .inr (.inr (.inr ⟨x, ds, dp_mono (fun _ _ => vis_sub) (r1.dp (SeqAt.canLay_of_shaped h3)), dp_mono (fun _ _ => vis_sub) (r2.dp (SeqAt.canLay_of_shaped h4)), h3, h4, PQ.here k h2 (.bl _)⟩))
  | str z =>
    cases x with
    | str t =>
      obtain ⟨h1, h2⟩ := wp_guard.mp h
      have h1 := one_sign (of_decide_eq_true h1)
      obtain rfl := r1.isStr
      obtain rfl := r2.isStr
      exact .inr (.inr (.inl ⟨_, z, by rw [← h1], rfl, PQ.here k h2 (.bl _)⟩))
    | _ => exact h.elim
  | _ => exact h.elim
theorem hu65d {A : Around} {k : Nat} (hr : Room k A) : A.units + 65 < cLine := by
  have := hr.un
  omega
end DL
namespace DL
open PySem PySem.Spec PyProof.Rows L2
def rng3D (i c : Int) (n : Nat) : List D := (List.range n).map fun k => .int (i + (k : Nat) * c)
def rng3 (fa fb fc : Env → R D) : Env → R (List D) := fun env => (fa env).bind fun x => (fb env).bind fun y => (fc env).bind fun z => (asI x).bind fun i => (asI y).bind fun j => (asI z).bind fun c =>
  guard' (decide (c ≠ 0 ∧ c.natAbs < 1073741824) && (Builtin.Range.small i j c && decide (0 ≤ Builtin.Range.rangeSize i j c ∧ Builtin.Range.rangeSize i j c ≤ 10000000))) (.ret (rng3D i c (Builtin.Range.rangeSize i j c).toNat))
theorem rng3_rp {K : PySem.W.Frag} {dk : List Addr} {G : Hp} (i c : Int) (n : Nat) : RpAll K dk G (((List.range n).map fun m : Nat => i + (m : Int) * c).map V.int) (rng3D i c n) := by
  unfold rng3D
  generalize (List.range n) = l
  induction l with
  | nil => exact .nil
  | cons n r ih => exact .cons (.int _) ih
section
variable {X : Cx} {c : Base} {W : WX} {w w' w1 w2 : Wd} {σ : L2.St} {env : Env} {e a b d : Expr} {fa fb fc : Env → R D}
theorem dl_rng3 (h : PE X e (J.tListR3 (L2.tCons (liftE c W fa) (L2.tCons (liftE c W fb) (L2.tCons (liftE c W fc) L2.tNil))))) : PE X e (liftL c W (rng3 fa fb fc)) := pe_imp h fun σ H Q ⟨w, env, a, q⟩ => by
  refine ⟨w, env, a, R.wp_mono (wp_b q) (fun fu x hx v w1 e1 g1 r1 => ?_) fun _ _ h => h⟩
  subst e1
  refine ⟨w1, env, a.grow g1, R.wp_mono (wp_b hx) (fun fu y hy u w2 e1 g2 r2 => ?_) fun _ _ h => h.grow a.ok g1⟩
  subst e1
  refine ⟨w2, env, (a.grow g1).grow g2, R.wp_mono (wp_b hy) (fun fu z hz u2 w3 e1 g3 r3 => ?_) fun _ _ h => EK.grow g1.ok g2 (h.grow a.ok g1)⟩
  subst e1
  obtain ⟨i, rfl, _, h⟩ := asI_wp r1 (wp_b hz)
  obtain ⟨j, rfl, _, h⟩ := asI_wp r2 (wp_b h)
  obtain ⟨c', rfl, _, h⟩ := asI_wp r3 (wp_b h)
  obtain ⟨h1, h2⟩ := wp_guard.mp h
  simp only [Bool.and_eq_true, decide_eq_true_eq] at h1
  obtain ⟨⟨c0, c1⟩, c2, c3, c4⟩ := h1
  refine ⟨i, j, c', _, rfl, ⟨c0, c1, c2, ?_⟩, ?_, own_new a ((g1.trans a.ok g2).trans a.ok g3) (rng3_rp i c' _) h2⟩
  · omega
  · omega
end
def isDeckD : D → Bool
  | .dict [(.list [], .none)] => true
  | _ => false
theorem isDeckD_of {d : D} (h : isDeckD d = true) : d = deckD := by
  unfold isDeckD at h
  split at h
  · rfl
  · cases h
def F_draw : List D → R D := fun ds => match ds with
  | [x, .int n] => guard' (isDeckD x && decide (0 < n ∧ n ≤ 1000000)) (.any n fun k => .ret (.int k))
  | _ => .bad
def F_hand : List D → R D := fun ds => match ds with
  | [x] => scrGo x fun ns => guard' (decide (ns.length ≤ 1000)) (.ret deckD)
  | _ => .bad
/-- five places: a list of ints, then four ints -/
def DPh (_ : Nat) (G : Hp) (vs : List V) : Prop := ∃ (sc : Addr) (ns : List Int) (i b m c : Int), vs = [.ref sc, .int i, .int b, .int m, .int c] ∧ G sc = some (.lst (ns.map V.int)) ∧ 0 ≤ i ∧ 0 ≤ b ∧ 0 ≤ m ∧ m < 2147483563
theorem DPh.mono {f f' : Nat} {G G' : Hp} {vs : List V} (_ : f' ≤ f) (e : ∀ a o, G a = some o → G' a = some o) (h : DPh f G vs) : DPh f' G' vs := by
  obtain ⟨sc, ns, i, b, m, c, e1, e2, h⟩ := h
  exact ⟨sc, ns, i, b, m, c, e1, e _ _ e2, h⟩
/-- three ints: what is left of a number, a seed, a counter -/
def DP3 (f : Nat) (_ : Hp) (vs : List V) : Prop := ∃ (a s c : Int), vs = [.int a, .int s, .int c] ∧ 0 ≤ a ∧ 0 ≤ s ∧ s < 2 ^ 200 ∧ 0 ≤ c ∧ c + f ≤ 2 ^ 60
theorem DP3.mono {f f' : Nat} {G G' : Hp} {vs : List V} (hf : f' ≤ f) (_ : ∀ a o, G a = some o → G' a = some o) (h : DP3 f G vs) : DP3 f' G' vs := by
  obtain ⟨a, s, c, e1, h1, h2, h3, h4, h5⟩ := h
  exact ⟨a, s, c, e1, h1, h2, h3, h4, by omega⟩
theorem WOk.deckmut {c : Base} {f f' : Nat} {H' : Hp} {a : Addr} {vs : List V} (k : WOk c ⟨[], [], c.H0, f⟩) (hf : f' ≤ f) (ha : a ∈ c.dk) (h : ∀ b, b ≠ a → H' b = c.H0 b) (e : H' a = some (.lst vs)) (dp : c.DP f' (hide c.S c.H0) vs) : WOk c ⟨[], [], H', f'⟩ := by
  have hv : hide c.S H' = hide c.S c.H0 := by
    funext b
    unfold hide
    by_cases z : b ∈ c.S
    · rw [if_pos z, if_pos z]
    · rw [if_neg z, if_neg z]
      exact h b fun q => z (by rw [q]; exact k.dS _ ha)
  refine ⟨k.dS, k.SH, fun b o e1 n => ?_, fun b e1 => ?_, fun b m => (by cases m), fun b m => (by cases m), fun b m => (by cases m), fun b m => (by cases m), fun b hb => ?_, k.mono, Nat.le_trans hf k.fb⟩
  · show H' b = _
    rw [h b fun q => n (by rw [q]; exact ha)]; exact e1
  · by_cases z : b = a
    · subst z
      have : H' b = none := e1
      rw [e] at this; cases this
    · have : H' b = none := e1
      rw [h b z] at this; exact this
  · by_cases z : b = a
    · subst z
      exact ⟨vs, e, by show c.DP f' (hide c.S H') vs; rw [hv]; exact dp⟩
    · obtain ⟨us, e1, e2⟩ := k.deck b hb
      exact ⟨us, (h b z).trans e1, by show c.DP f' (hide c.S H') us; rw [hv]; exact k.mono _ _ _ _ _ hf (fun _ _ h => h) e2⟩
def Pt (a : Addr) (H H' : Hp) : Prop := ∀ b, b ≠ a → H' b = H b
theorem Pt.put {a : Addr} {H : Hp} {o : HO} : Pt a H (upd H a o) := fun b h => upd_ne h
theorem Pt.refl {a : Addr} {H : Hp} : Pt a H H := fun _ _ => rfl
theorem Pt.trans {a : Addr} {H H1 H2 : Hp} (x : Pt a H H1) (y : Pt a H1 H2) : Pt a H H2 := fun b h => (y b h).trans (x b h)
/-- a new deck beside the world -/
theorem WOk.newdeck {c : Base} {w : Wd} {p : Addr} {vs : List V} (k : WOk c w) (h : w.H p = none) (dp : c.DP w.fu (c.vis w) vs) : WOk c { w with nk := p :: w.nk, H := upd w.H p (.lst vs) } := by
  have hv : ∀ b o, c.vis w b = some o → c.vis { w with nk := p :: w.nk, H := upd w.H p (.lst vs) } b = some o := fun b o e => by
    obtain ⟨h1, h2⟩ := hide_some.mp e
    refine hide_some.mpr ⟨fun z => h1 ?_, by show upd w.H p _ b = _; rw [upd_ne (ne_of_none h2 h)]; exact h2⟩
    have z : b ∈ w.O ++ ((p :: w.nk) ++ c.S) := z
    simp only [List.mem_append, List.mem_cons] at z
    show b ∈ w.O ++ (w.nk ++ c.S)
    simp only [List.mem_append]
    rcases z with z | (z | z) | z
    · exact .inl z
    · rw [z, h] at h2; cases h2
    · exact .inr (.inl z)
    · exact .inr (.inr z)
  refine ⟨k.dS, k.SH, fun a u e n => ?_, fun a e => ?_, fun a m => ?_, k.Of, fun a ha => ?_, fun a ha m => ?_, fun a ha => ?_, k.mono, k.fb⟩
  · have := k.keep0 _ _ e n
    show upd w.H p _ a = _
    rw [upd_ne (ne_of_none this h)]; exact this
  · by_cases z : a = p
    · subst z; exact k.free0 _ h
    · have e' : upd w.H p (.lst vs) a = none := e
      rw [upd_ne z] at e'; exact k.free0 _ e'
  · rcases List.mem_cons.mp (show a ∈ p :: w.nk from m) with m | m
    · rw [m]; exact k.free0 _ h
    · exact k.nkf _ m
  · have := k.Oh _ ha
    show upd w.H p _ a ≠ none
    rw [upd_ne (fun z => this (by rw [z]; exact h))]; exact this
  · rcases List.mem_cons.mp (show a ∈ p :: w.nk from m) with m | m
    · exact k.Oh _ ha (by rw [m]; exact h)
    · exact k.dis _ ha m
  · rcases List.mem_cons.mp (show a ∈ p :: (w.nk ++ c.dk) from ha) with m | m
    · subst m
      exact ⟨vs, upd_same, k.mono _ _ _ _ _ (Nat.le_refl _) hv dp⟩
    · obtain ⟨us, e1, e2⟩ := k.deck a m
      refine ⟨us, ?_, k.mono _ _ _ _ _ (Nat.le_refl _) hv e2⟩
      show upd w.H p _ a = _
      rw [upd_ne (ne_of_none e1 h)]; exact e1
end DL
namespace DL
open PySem PySem.Spec PyProof.Rows L2
/-- what the law is to keep: for every script of at most 63 ints it gives True -/
def spLaw (K : PySem.W.Frag) : Sp := fun vs H Q _ => ∃ (a : Addr) (ns : List Int), vs = [.ref a] ∧ SqL K H a (ns.map V.int) ∧ ns.length ≤ 63 ∧ ∀ H', Q (.bl true) H'
theorem cx_no {P : Program} {w : World} {outer : List PySem.Env} {H : Hp} {s : Shared} {u : Value} {s' : Shared} (h : L2.CX P w outer H s (fun _ _ _ => False) u s') : False := by
  obtain ⟨_, _, _, _, _, _, _, _, _, _, _, _, z⟩ := h
  exact z
end DL
namespace DL
open PySem PySem.Spec PyProof.Rows L2
section
variable {α β γ : Type}
theorem ret_bind (a : α) (f : α → R β) : (R.ret a).bind f = f a := rfl
theorem bad_bind (f : α → R β) : (R.bad : R α).bind f = .bad := rfl
theorem err_bind (e : Er) (f : α → R β) : (R.err e : R α).bind f = .err e := rfl
theorem ret_both (a : α) (f : α → R β) (g : Er → R β) : (R.ret a).both f g = f a := rfl
theorem bad_both (f : α → R β) (g : Er → R β) : (R.bad : R α).both f g = .bad := rfl
theorem err_both (e : Er) (f : α → R β) (g : Er → R β) : (R.err e : R α).both f g = g e := rfl
theorem guardT (m : R α) : guard' true m = m := rfl
theorem guard_of {b : Bool} (h : b = true) (m : R α) : guard' b m = m := by rw [h]; rfl
theorem bind_ite {c : Prop} [Decidable c] (a b : R α) (f : α → R β) : (if c then a else b).bind f = if c then a.bind f else b.bind f := by split <;> rfl
theorem both_ite {c : Prop} [Decidable c] (a b : R α) (f : α → R β) (g : Er → R β) : (if c then a else b).both f g = if c then a.both f g else b.both f g := by split <;> rfl
theorem wp_ret {a : α} {fu : Nat} {Q : Nat → α → Prop} {E : Nat → Er → Prop} : (R.ret a).wp fu Q E ↔ Q fu a := Iff.rfl
theorem wp_err {e : Er} {fu : Nat} {Q : Nat → α → Prop} {E : Nat → Er → Prop} : (R.err e : R α).wp fu Q E ↔ E fu e := Iff.rfl
theorem wp_bad {fu : Nat} {Q : Nat → α → Prop} {E : Nat → Er → Prop} : (R.bad : R α).wp fu Q E ↔ False := Iff.rfl
theorem wp_any {n : Int} {k : Int → R α} {fu : Nat} {Q : Nat → α → Prop} {E : Nat → Er → Prop} : (R.any n k).wp fu Q E ↔ ∃ f', fu = f' + 1 ∧ ∀ i, 0 ≤ i → i < n → (k i).wp f' Q E := Iff.rfl
theorem any_bind (n : Int) (k : Int → R α) (f : α → R β) : (R.any n k).bind f = .any n fun i => (k i).bind f := rfl
theorem any_both (n : Int) (k : Int → R α) (f : α → R β) (g : Er → R β) : (R.any n k).both f g = .any n fun i => (k i).both f g := rfl
theorem both_bind (m : R α) (f : α → R β) (g : Er → R β) (h : β → R γ) : (m.both f g).bind h = m.both (fun a => (f a).bind h) fun e => (g e).bind h := by
  induction m with
  | ret a => rfl
  | err e => rfl
  | any n k ih => exact congrArg (R.any n) (funext fun i => ih i)
  | bad => rfl
theorem bind_both (m : R α) (f : α → R β) (g : β → R γ) (h : Er → R γ) : (m.bind f).both g h = m.both (fun a => (f a).both g h) h := by
  induction m with
  | ret a => rfl
  | err e => rfl
  | any n k ih => exact congrArg (R.any n) (funext fun i => ih i)
  | bad => rfl
theorem both_both (m : R α) (f : α → R β) (g : Er → R β) (f2 : β → R γ) (g2 : Er → R γ) : (m.both f g).both f2 g2 = m.both (fun a => (f a).both f2 g2) fun e => (g e).both f2 g2 := by
  induction m with
  | ret a => rfl
  | err e => rfl
  | any n k ih => exact congrArg (R.any n) (funext fun i => ih i)
  | bad => rfl
end
theorem tru_bl (b : Bool) : truD (.bool b) = .ret b := rfl
theorem tru_int (i : Int) : truD (.int i) = .ret (i != 0) := rfl
theorem tru_non : truD .none = .ret false := rfl
theorem tru_tup (ds : List D) : truD (.tuple ds) = .ret (!ds.isEmpty) := rfl
theorem tru_lst (ds : List D) : truD (.list ds) = .ret (!ds.isEmpty) := rfl
theorem asB_bl (b : Bool) : asB (.bool b) = .ret b := rfl
theorem asI_int (i : Int) : asI (.int i) = .ret i := rfl
theorem add_ii (i j : Int) : gAdd (.int i) (.int j) = .ret (.int (i + j)) := rfl
theorem add_ss (a b : Str) : gAdd (.str a) (.str b) = guard' (decide (a.length + b.length ≤ 16777216)) (.ret (.str (a ++ b))) := rfl
theorem add_ll (a b : List D) : gAdd (.list a) (.list b) = guard' (decide (a.length + b.length ≤ 16777216)) (.ret (.list (a ++ b))) := rfl
theorem add_tt (a b : List D) : gAdd (.tuple a) (.tuple b) = guard' (decide (a.length + b.length ≤ 16777216)) (.ret (.tuple (a ++ b))) := rfl
theorem sub_ii (i j : Int) : gSub (.int i) (.int j) = .ret (.int (i - j)) := rfl
theorem mul_ii (i j : Int) : gMul (.int i) (.int j) = guard' (decide ((-18446744073709551616 < i ∧ i < 18446744073709551616) ∨ (-18446744073709551616 < j ∧ j < 18446744073709551616))) (.ret (.int (i * j))) := rfl
theorem mod_ii (i j : Int) : gMod (.int i) (.int j) = guard' (decide (0 < j)) (.ret (.int (i % j))) := rfl
theorem div_ii (i j : Int) : gDiv (.int i) (.int j) = guard' (decide (0 < j ∧ j < 2 ^ 200)) (.ret (.int (i / j))) := rfl
theorem pow_ii (i j : Int) : gPow (.int i) (.int j) = guard' (decide (0 ≤ j ∧ j ≤ 1000 ∧ i.natAbs < 2 ^ 64)) (.ret (.int (i ^ j.toNat))) := rfl
theorem neg_i (i : Int) : gNeg (.int i) = .ret (.int (-i)) := rfl
theorem lt_ii (i j : Int) : gLt (.int i) (.int j) = .ret (.bool (decide (i < j))) := rfl
theorem le_ii (i j : Int) : gLe (.int i) (.int j) = .ret (.bool (decide (i ≤ j))) := rfl
theorem gt_ii (i j : Int) : gGt (.int i) (.int j) = .ret (.bool (decide (j < i))) := rfl
theorem ge_ii (i j : Int) : gGe (.int i) (.int j) = .ret (.bool (decide (j ≤ i))) := rfl
theorem lt_ss (a b : Str) : gLt (.str a) (.str b) = .ret (.bool (decide (a.cps.toList < b.cps.toList))) := rfl
theorem le_ss (a b : Str) : gLe (.str a) (.str b) = .ret (.bool (!decide (b.cps.toList < a.cps.toList))) := rfl
theorem shaped_int (i : Int) : SeqAt.shaped (.int i) = true := by simp [SeqAt.shaped, PyData.canLay0, PyData.depth]
theorem shaped_bl (i : Bool) : SeqAt.shaped (.bool i) = true := by simp [SeqAt.shaped, PyData.canLay0, PyData.depth]
theorem shaped_non : SeqAt.shaped .none = true := by simp [SeqAt.shaped, PyData.canLay0, PyData.depth]
theorem eq_ii (i j : Int) : gEq (.int i) (.int j) = .ret (.bool (decide (i = j))) := by
  show guard' (SeqAt.shaped (.int i) && SeqAt.shaped (.int j)) _ = _
  rw [shaped_int, shaped_int]
  show R.ret _ = _
  congr 2
  first | done | (simp only [PyData.eqv]; done) | (simp only [PyData.eqv]; by_cases h : i = j <;> simp [h])
theorem ne_ii (i j : Int) : gNe (.int i) (.int j) = .ret (.bool (!decide (i = j))) := by
  show guard' (SeqAt.shaped (.int i) && SeqAt.shaped (.int j)) _ = _
  rw [shaped_int, shaped_int]
  show R.ret _ = _
  congr 3
  first | done | (simp only [PyData.eqv]; done) | (simp only [PyData.eqv]; by_cases h : i = j <;> simp [h])
theorem eq_bb (i j : Bool) : gEq (.bool i) (.bool j) = .ret (.bool (decide (i = j))) := by
  show guard' (SeqAt.shaped (.bool i) && SeqAt.shaped (.bool j)) _ = _
  rw [shaped_bl, shaped_bl]
  cases i <;> cases j <;> rfl
theorem ne_bb (i j : Bool) : gNe (.bool i) (.bool j) = .ret (.bool (!decide (i = j))) := by
  show guard' (SeqAt.shaped (.bool i) && SeqAt.shaped (.bool j)) _ = _
  rw [shaped_bl, shaped_bl]
  cases i <;> cases j <;> rfl
theorem eq_ss (i j : Str) : gEq (.str i) (.str j) = .ret (.bool (decide (i = j))) := rfl
theorem ne_ss (i j : Str) : gNe (.str i) (.str j) = .ret (.bool (!decide (i = j))) := rfl
abbrev isIntD : D → Bool
  | .int _ => true | .bool _ => true | _ => false
abbrev isBoolD : D → Bool
  | .bool _ => true | _ => false
abbrev isStrD : D → Bool
  | .str _ => true | _ => false
abbrev isTupD : D → Bool
  | .tuple _ => true | _ => false
abbrev isLstD : D → Bool
  | .list _ => true | _ => false
/-- not one of the tokens that stand for the law's own -/
def plainD : D → Bool
  | .dict ((.list _, _) :: _) => false | _ => true
theorem isi_int {d : D} (h : plainD d = true) : isiV "int" d = .ret (.bool (isIntD d)) := by
  have e : isiV "int" d = (match kitB (tyName d) "int" with | some b => R.ret (PyData.bool b) | none => R.bad) := by
    unfold isiV
    split
    · cases h
    · rfl
  rw [e]
  cases d with
  | none  => simp only [tyName, isIntD, show kitB "NoneType" "int" = some false by decide +kernel]
  | bool _ => simp only [tyName, isIntD, show kitB "bool" "int" = some true by decide +kernel]
  | int _ => simp only [tyName, isIntD, show kitB "int" "int" = some true by decide +kernel]
  | str _ => simp only [tyName, isIntD, show kitB "str" "int" = some false by decide +kernel]
  | list _ => simp only [tyName, isIntD, show kitB "list" "int" = some false by decide +kernel]
  | tuple _ => simp only [tyName, isIntD, show kitB "tuple" "int" = some false by decide +kernel]
  | dict _ => simp only [tyName, isIntD, show kitB "dict" "int" = some false by decide +kernel]
theorem isi_bool {d : D} (h : plainD d = true) : isiV "bool" d = .ret (.bool (isBoolD d)) := by
  have e : isiV "bool" d = (match kitB (tyName d) "bool" with | some b => R.ret (PyData.bool b) | none => R.bad) := by
    unfold isiV
    split
    · cases h
    · rfl
  rw [e]
  cases d with
  | none  => simp only [tyName, isBoolD, show kitB "NoneType" "bool" = some false by decide +kernel]
  | bool _ => simp only [tyName, isBoolD, show kitB "bool" "bool" = some true by decide +kernel]
  | int _ => simp only [tyName, isBoolD, show kitB "int" "bool" = some false by decide +kernel]
  | str _ => simp only [tyName, isBoolD, show kitB "str" "bool" = some false by decide +kernel]
  | list _ => simp only [tyName, isBoolD, show kitB "list" "bool" = some false by decide +kernel]
  | tuple _ => simp only [tyName, isBoolD, show kitB "tuple" "bool" = some false by decide +kernel]
  | dict _ => simp only [tyName, isBoolD, show kitB "dict" "bool" = some false by decide +kernel]
theorem isi_str {d : D} (h : plainD d = true) : isiV "str" d = .ret (.bool (isStrD d)) := by
  have e : isiV "str" d = (match kitB (tyName d) "str" with | some b => R.ret (PyData.bool b) | none => R.bad) := by
    unfold isiV
    split
    · cases h
    · rfl
  rw [e]
  cases d with
  | none  => simp only [tyName, isStrD, show kitB "NoneType" "str" = some false by decide +kernel]
  | bool _ => simp only [tyName, isStrD, show kitB "bool" "str" = some false by decide +kernel]
  | int _ => simp only [tyName, isStrD, show kitB "int" "str" = some false by decide +kernel]
  | str _ => simp only [tyName, isStrD, show kitB "str" "str" = some true by decide +kernel]
  | list _ => simp only [tyName, isStrD, show kitB "list" "str" = some false by decide +kernel]
  | tuple _ => simp only [tyName, isStrD, show kitB "tuple" "str" = some false by decide +kernel]
  | dict _ => simp only [tyName, isStrD, show kitB "dict" "str" = some false by decide +kernel]
theorem isi_tup {d : D} (h : plainD d = true) : isiV "tuple" d = .ret (.bool (isTupD d)) := by
  have e : isiV "tuple" d = (match kitB (tyName d) "tuple" with | some b => R.ret (PyData.bool b) | none => R.bad) := by
    unfold isiV
    split
    · cases h
    · rfl
  rw [e]
  cases d with
  | none  => simp only [tyName, isTupD, show kitB "NoneType" "tuple" = some false by decide +kernel]
  | bool _ => simp only [tyName, isTupD, show kitB "bool" "tuple" = some false by decide +kernel]
  | int _ => simp only [tyName, isTupD, show kitB "int" "tuple" = some false by decide +kernel]
  | str _ => simp only [tyName, isTupD, show kitB "str" "tuple" = some false by decide +kernel]
  | list _ => simp only [tyName, isTupD, show kitB "list" "tuple" = some false by decide +kernel]
  | tuple _ => simp only [tyName, isTupD, show kitB "tuple" "tuple" = some true by decide +kernel]
  | dict _ => simp only [tyName, isTupD, show kitB "dict" "tuple" = some false by decide +kernel]
theorem isi_lst {d : D} (h : plainD d = true) : isiV "list" d = .ret (.bool (isLstD d)) := by
  have e : isiV "list" d = (match kitB (tyName d) "list" with | some b => R.ret (PyData.bool b) | none => R.bad) := by
    unfold isiV
    split
    · cases h
    · rfl
  rw [e]
  cases d with
  | none  => simp only [tyName, isLstD, show kitB "NoneType" "list" = some false by decide +kernel]
  | bool _ => simp only [tyName, isLstD, show kitB "bool" "list" = some false by decide +kernel]
  | int _ => simp only [tyName, isLstD, show kitB "int" "list" = some false by decide +kernel]
  | str _ => simp only [tyName, isLstD, show kitB "str" "list" = some false by decide +kernel]
  | list _ => simp only [tyName, isLstD, show kitB "list" "list" = some true by decide +kernel]
  | tuple _ => simp only [tyName, isLstD, show kitB "tuple" "list" = some false by decide +kernel]
  | dict _ => simp only [tyName, isLstD, show kitB "dict" "list" = some false by decide +kernel]
theorem len_l (ds : List D) : gLen [.list ds] = .ret (.int ds.length) := rfl
theorem len_t (ds : List D) : gLen [.tuple ds] = .ret (.int ds.length) := rfl
theorem len_s (z : Str) : gLen [.str z] = guard' (decide (z.length ≤ 16777216)) (.ret (.int z.length)) := by
  show (guard' _ _).bind _ = _
  unfold guard'
  split <;> rfl
theorem ix_l (ds : List D) (i : Int) : gIx (.list ds) (.int i) = ixL ds i := rfl
theorem ix_t (ds : List D) (i : Int) : gIx (.tuple ds) (.int i) = ixL ds i := rfl
/-- an item at a place that is told -/
theorem ixL_at {ds : List D} {k : Nat} {d : D} (h : ds[k]? = some d) : ixL ds (k : Int) = .ret d := by
  have hk : k < ds.length := (List.getElem?_eq_some_iff.mp h).1
  have e : atI ds (k : Int) = some d := by
    unfold atI ixN
    rw [if_pos (by omega), if_pos (by omega)]
    show ds[(k : Int).toNat]? = _
    rw [Int.toNat_natCast]; exact h
  unfold ixL
  rw [e]
theorem ixL_back {ds : List D} {k : Nat} {d : D} (hk : k < ds.length) (h : ds[ds.length - 1 - k]? = some d) : ixL ds (-1 - (k : Int)) = .ret d := by
  have e : atI ds (-1 - (k : Int)) = some d := by
    unfold atI ixN
    rw [if_neg (by omega), if_pos (by omega)]
    show ds[(-1 - (k : Int) + ds.length).toNat]? = _
    rw [show (-1 - (k : Int) + ds.length).toNat = ds.length - 1 - k by omega]; exact h
  unfold ixL
  rw [e]
theorem ixL_0 (a : D) (r : List D) : ixL (a :: r) 0 = .ret a := ixL_at (k := 0) rfl
theorem ixL_1 (a b : D) (r : List D) : ixL (a :: b :: r) 1 = .ret b := ixL_at (k := 1) rfl
theorem ixL_2 (a b c : D) (r : List D) : ixL (a :: b :: c :: r) 2 = .ret c := ixL_at (k := 2) rfl
theorem ixL_3 (a b c d : D) (r : List D) : ixL (a :: b :: c :: d :: r) 3 = .ret d := ixL_at (k := 3) rfl
end DL
namespace DL
open PySem PySem.Spec PyProof.Rows L2
def fmtR (x : D) : R D := match x with
  | .str y => guard' (decide (y.length ≤ 16777216)) (.ret (.str y))
  | .int i => guard' (decide (i.natAbs.log2 < 1920)) (.ret (.str (toString i)))
  | _ => .bad
def fmtD (fa : Env → R D) : Env → R D := fun env => (fa env).bind fmtR
def jsD : List (Env → R D) → Str → Env → R D
  | [], acc => fun _ => .ret (.str acc)
  | f :: fs, acc => fun env => (f env).bind fun x => match x with
    | .str y => guard' (decide ((acc ++ y).length ≤ 16777216)) (jsD fs (acc ++ y) env)
    | _ => .bad
inductive JsOk (X : Cx) (c : Base) (W : WX) : List Expr → List (Env → R D) → Prop
  | nil : JsOk X c W [] []
  | cons {e : Expr} {f : Env → R D} {es : List Expr} {fs : List (Env → R D)} (h : PE X e (liftE c W f)) (r : JsOk X c W es fs) : JsOk X c W (e :: es) (f :: fs)
section
variable {X : Cx} {c : Base} {W : WX} {w w' w1 w2 : Wd} {σ : L2.St} {env : Env} {e a b d : Expr} {fa fb fc : Env → R D} {ft fu : Env → R Bool} {fr fi : Env → R (List D)} {pos p pos2 : Pos} {st : Stmt} {es : List Expr} {rest : List Stmt} {f g : Env → R Out} {x : Str} {ds : List D}
theorem de_fmt (h : PE X e (liftE c W fa)) : PE X (.FormattedValue e (-1) none pos) (liftE c W (fmtD fa)) := pe_imp (pe_fmt h) fun σ H Q ⟨w, env, a, q⟩ => step a q fun x v w1 g1 r1 q1 => by
  cases x with
  | str y =>
    obtain ⟨h1, h2⟩ := guard_line (m := R.ret (PyData.str y)) q1
    exact .inl ⟨y, r1.isStr, h1, PQ.here g1.ok h2 (.str y)⟩
  | int i =>
    obtain ⟨h1, h2⟩ := wp_guard.mp (show (guard' (decide (i.natAbs.log2 < 1920)) (R.ret (PyData.str (toString i)))).wp w1.fu (PQ c w1 Q) (EK c W σ w1) from q1)
    exact .inr ⟨i, r1.isInt, of_decide_eq_true h1, PQ.here g1.ok h2 (.str _)⟩
  | _ => exact q1.elim
theorem JsOk.pj {fs : List (Env → R D)} (h : JsOk X c W es fs) : PJ X es (fs.map (liftE c W)) := by
  induction h with
  | nil => exact .nil
  | cons h _ ih => exact .cons h ih
theorem tJs_of : ∀ (fs : List (Env → R D)) (acc : Str) (σ : L2.St) (w : Wd) (env : Env) (Q : VK), At c σ w.H w env → (jsD fs acc env).wp w.fu (PQ c w Q) (EK c W σ w) → tJs (fs.map (liftE c W)) acc σ w.H fun out H1 => Q (.str out) H1
  | [], acc, σ, w, env, Q, a, q => PQ.here (d := .str acc) a.ok q (.str acc)
  | f :: fs, acc, σ, w, env, Q, a, q => step a q fun x v w1 g1 r1 q1 => by
    cases x with
    | str y =>
      obtain ⟨h1, h2⟩ := wp_guard.mp (show (guard' (decide ((acc ++ y).length ≤ 16777216)) (jsD fs (acc ++ y) env)).wp w1.fu (PQ c w1 Q) (EK c W σ w1) from q1)
      exact ⟨y, r1.isStr, line_eq.mpr (of_decide_eq_true h1), tJs_of fs (acc ++ y) σ w1 env Q (a.grow g1) h2⟩
    | _ => exact q1.elim
theorem de_fstr {v1 v2 : Expr} {fs : List (Env → R D)} (h : JsOk X c W (v1 :: v2 :: es) fs) : PE X (.JoinedStr (v1 :: v2 :: es) pos) (liftE c W (jsD fs Str.empty)) := pe_imp (pe_joined h.pj) fun σ H Q ⟨w, env, a, q⟩ => by
  obtain ⟨rfl⟩ := a.h
  exact tJs_of fs Str.empty σ w env Q a q
mutual
/-- how long a text it is at most -/
def wt : D → Nat
  | .none => 4
  | .bool _ => 5
  | .int i => i.natAbs.log2 + 3
  | .str x => 10 * x.length + 2
  | .list xs => wtAll xs + 3
  | .tuple xs => wtAll xs + 3
  | .dict _ => 100000000
def wtAll : List D → Nat
  | [] => 0
  | x :: xs => wt x + 2 + wtAll xs
end
def reprOk (d : D) : Bool := PyData.canLay0 d && (PyData.showable d && (!PyData.hasDict d && (decide (PyData.depth d ≤ 60) && decide (d.shown.length ≤ 16777216))))
def gRepr (xs : List D) : R D := match xs with
  | [d] => guard' (reprOk d) (.ret (.str d.shown))
  | _ => .bad
def rRepr (K : PySem.W.Frag) : List V → Hp → VK → Prop := fun xs H Q => ∃ (x : V) (d : D), xs = [x] ∧ Dp K H x d ∧ PyData.showable d = true ∧ PyData.hasDict d = false ∧ PyData.depth d ≤ 60 ∧ d.shown.length ≤ sizeLine ∧ Q (.str d.shown) H
theorem c_repr (hgu : X.A.guards = some []) (hu : X.A.units + 64 < cLine) : CallR X (.builtin "repr") (rRepr X.K) := by
  intro pins s σ H xs us Q I r h
  obtain ⟨x, d, rfl, hd, hs, hn, hp, hz, q⟩ := h
  obtain ⟨u, rfl, rx⟩ := vals1 r
  obtain ⟨as, r1⟩ := Dp.reads I d x u hd rx
  have big : ∀ (a : Addr), Reads s.heap (.ref a) d as → wpAny (model X.prog X.w) X.A (call (.builtin "repr") [.ref a]) (EP X pins σ Q) X.xe s := fun a ra =>
    PySem.repr_of_reads' ra hs (PyData.noDict_hsm hn) hgu (by omega) (fun _ _ e => e) (fun h' uu tk hk => ⟨.str d.shown, H, I.kept (h' := h') (t' := tk) hk, ⟨uu, rfl⟩, q⟩) hz
  cases r1 with
  | none => exact PySem.P.repr_of_none ⟨.str "None", H, I.tok _, ⟨_, rfl⟩, (by simpa only [PyData.shown] using q)⟩
  | bool b => exact PySem.P.repr_of_bool ⟨.str _, H, I.tok _, ⟨_, rfl⟩, (by simpa only [PyData.shown] using q)⟩
  | int i t => exact PySem.P.repr_of_int (by simpa [PyData.showable] using hs) ⟨.str _, H, I.tok _, ⟨_, rfl⟩, (by simpa only [PyData.shown] using q)⟩
  | str z t => exact PySem.P.repr_of_str ⟨.str _, H, I.tok _, ⟨_, rfl⟩, (by simpa only [PyData.shown] using q)⟩ (by simpa only [PyData.shown] using hz)
  | list h1 h2 h3 h4 => exact big _ (.list h1 h2 h3 h4)
  | tuple h1 h2 h3 h4 => exact big _ (.tuple h1 h2 h3 h4)
  | dict h1 h2 h3 h4 h5 => exact big _ (.dict h1 h2 h3 h4 h5)
theorem d_repr : CallDK rRepr gRepr := fun c W σ w x v Q k r h => by
  unfold gRepr at h
  split at h
  · rename_i d
    obtain ⟨h1, h2⟩ := wp_guard.mp h
    unfold reprOk at h1
    simp only [Bool.and_eq_true, Bool.not_eq_true', decide_eq_true_eq] at h1
    obtain ⟨c0, c1, c2, c3, c4⟩ := h1
    cases r with
    | cons r1 r2 =>
      cases r2
      exact ⟨_, d, rfl, dp_mono (fun _ _ => vis_sub) (r1.dp c0), c1, c2, c3, line_eq.mpr c4, PQ.here k h2 (.str _)⟩
  · exact h.elim
end
end DL
namespace DL
open PySem PySem.Spec PyProof.Rows L2
def gMulA (x y : D) : R D := match x, y with
  | .int i, .int j => gMul (.int i) (.int j)
  | .tuple ds, .int k => guard' (decide (ds ≠ [] ∧ 2 ≤ k ∧ k ≤ 1000 ∧ ds.length ≤ 1000)) (.ret (.tuple (List.replicate k.toNat ds).flatten))
  | _, _ => .bad
def rMulAll (K : PySem.W.Frag) : R2 := orR (rI CMul fun i j => .int (i * j)) (rRepF K)
theorem op_mulAll {X : Cx} : OpR X (binaryOp .Mult) (rMulAll X.K) := OpR.or op_mul op_repF
theorem rp_rep {K : PySem.W.Frag} {dk : List Addr} {G : Hp} {vs : List V} {ds : List D} (r : RpAll K dk G vs ds) : ∀ n : Nat, RpAll K dk G (List.replicate n vs).flatten (List.replicate n ds).flatten
  | 0 => .nil
  | n + 1 => by
    rw [List.replicate_succ, List.replicate_succ, List.flatten_cons, List.flatten_cons]
    exact r.app (rp_rep r n)
theorem d_mulA : OpDK rMulAll gMulA := fun c W σ w x y v u Q k r1 r2 h => by
  cases x with
  | int i =>
    cases y with
    | int j => exact .inl (d_mul c W σ w _ _ v u Q k r1 r2 h)
    | _ => exact h.elim
  | tuple ds =>
    cases y with
    | int j =>
      obtain ⟨a, xs, rfl, s1, a1⟩ := r1.isTup
      obtain rfl := r2.isInt
      obtain ⟨h1, h2⟩ := wp_guard.mp (show (guard' (decide (ds ≠ [] ∧ 2 ≤ j ∧ j ≤ 1000 ∧ ds.length ≤ 1000)) (R.ret (PyData.tuple (List.replicate j.toNat ds).flatten))).wp w.fu (PQ c w Q) (EK c W σ w) from h)
      obtain ⟨c0, c1, c2, c3⟩ := of_decide_eq_true h1
      refine .inr ⟨a, j, xs, rfl, rfl, sqT_vis s1, fun e => ?_, c1, c2, by rw [a1.len]; exact c3, new_tup k (rp_rep a1 _) h2⟩
      subst e
      cases a1
      exact c0 rfl
    | _ => exact h.elim
  | _ => cases y <;> exact h.elim
def repL (f : Env → R (List D)) (fb : Env → R D) : Env → R (List D) := fun env => (f env).bind fun ds => (fb env).bind fun k => match k with
  | .int k => guard' (decide (0 ≤ k ∧ k ≤ 100000 ∧ ds.length * k.toNat ≤ 16777216)) (.ret (List.replicate k.toNat ds).flatten)
  | _ => .bad
section
variable {X : Cx} {c : Base} {W : WX} {w w' w1 w2 : Wd} {σ : L2.St} {env : Env} {e a b d : Expr} {fa fb fc : Env → R D} {ft fu : Env → R Bool} {fr fi : Env → R (List D)} {pos p pos2 : Pos} {st : Stmt} {es : List Expr} {rest : List Stmt} {f g : Env → R Out} {x : Str} {ds : List D}
/-- behind a list that is newly one's own -/
theorem At.own {H : Hp} (a : At c σ H w env) {p : Addr} (hO : w'.O = p :: w.O) (hp : w.H p = none) (k : WOk c w') (g : Grow c w { w' with O := w.O }) : LE c w w' ∧ At c σ w'.H w' env := by
  have hs : ∀ x ∈ w.O, x ∈ w'.O := fun x hx => by rw [hO]; exact List.mem_cons_of_mem _ hx
  have le := g.le a.ok
  have vv : ∀ a' o, c.vis w a' = some o → c.vis w' a' = some o := fun a' o e => by
    obtain ⟨h1, h2⟩ := hide_some.mp (le.ex _ _ e)
    refine hide_some.mpr ⟨fun z => h1 ?_, h2⟩
    have z : a' ∈ w'.O ++ (w'.nk ++ c.S) := z
    rw [hO] at z
    rcases List.mem_cons.mp z with z | z
    · exact absurd (vis_sub e) (by rw [z, hp]; intro q; cases q)
    · exact z
  have l2 : LE c w w' := ⟨vv, le.dk, le.fu⟩
  exact ⟨l2, rfl, k, a.env.le l2 fun q hq => ⟨hs q hq, by
    cases e : w.H q with
    | none => exact absurd e (a.ok.Oh _ hq)
    | some o => exact g.keep _ _ e (own_notdk a.ok hq)⟩⟩
/-- the list is let go -/
theorem Grow.letgo (k0 : WOk c w) {p : Addr} (hO : w'.O = p :: w.O) (k : WOk c w') (g : Grow c w { w' with O := w.O }) {w2 : Wd} (g2 : Grow c w' w2) : Grow c w { w2 with O := w.O } := by
  have hs : ∀ x ∈ w.O, x ∈ w2.O := fun x hx => by rw [g2.O, hO]; exact List.mem_cons_of_mem _ hx
  have gg : Grow c { w' with O := w.O } { w2 with O := w.O } := ⟨rfl, g2.fu, g2.keep, g2.free, g2.nk, g2.ok.sub hs⟩
  exact g.trans k0 gg
theorem EK.grow2 {Wx : WX} (k : WOk c w) (hO : ∀ x ∈ w.O, x ∈ w1.O) (gg : ∀ w2, Grow c w1 w2 → Grow c w { w2 with O := w.O }) {fu : Nat} {er : Er} (h : EK c Wx σ w fu er) : EK c Wx σ w1 fu er := fun cls dd w' e1 g' e => by
  refine h cls dd { w' with O := w.O } e1 (gg _ g') ⟨e.cls, e.none, fun n d z => ?_⟩
  obtain ⟨p, v, h1, h2, h3⟩ := e.one n d z
  exact ⟨p, v, h1, h2, (LE.sub (c := c) (w := w') (O := w.O) fun x hx => by rw [g'.O]; exact hO x hx).rp h3⟩
theorem dl_rep {f : Env → R (List D)} (ha : PE X a (liftL c W f)) (hb : PE X b (liftE c W fb)) : PE X (.BinOp a .Mult b pos) (liftL c W (repL f fb)) := pe_imp (pe_op op_rep ha hb) fun σ H Q ⟨w, env, a, q⟩ => by
  refine ⟨w, env, a, R.wp_mono (wp_b q) (fun fu ds hx p vs w' ef hO hp hp' k g r => ?_) fun _ _ h => h⟩
  subst ef
  obtain ⟨le, a'⟩ := a.own hO hp k g
  refine ⟨w', env, a', R.wp_mono (wp_b hx) (fun fu x hx v w2 e2 g2 r2 => ?_) fun _ _ h => EK.grow2 a.ok (fun x hx => by rw [hO]; exact List.mem_cons_of_mem _ hx) (fun w2 g2 => Grow.letgo a.ok hO k g g2) h⟩
  subst e2
  cases x with
  | int j =>
    obtain rfl := r2.isInt
    obtain ⟨h1, h2⟩ := wp_guard.mp (show (guard' (decide (0 ≤ j ∧ j ≤ 100000 ∧ ds.length * j.toNat ≤ 16777216)) (R.ret (List.replicate j.toNat ds).flatten)).wp w2.fu _ _ from hx)
    obtain ⟨c0, c1, c2⟩ := of_decide_eq_true h1
    have hpd : p ∉ c.dks w' := own_notdk k (by rw [hO]; exact List.mem_cons_self)
    have rr := (g2.le k).rpAll r
    refine ⟨p, j, vs, rfl, rfl, g2.keep _ _ hp' hpd, by omega, by omega, ?_, ?_⟩
    · rw [rr.len, sizeLine_eq]; exact c2
    · -- the new list in the world without the old one
      have gl := Grow.letgo a.ok hO k g g2
      have hs2 : ∀ x ∈ w.O, x ∈ w2.O := fun x hx => by rw [g2.O, hO]; exact List.mem_cons_of_mem _ hx
      have rr2 : RpsW c { w2 with O := w.O } (List.replicate j.toNat vs).flatten (List.replicate j.toNat ds).flatten := (LE.sub (c := c) hs2).rpAll (rp_rep rr _)
      exact own_new (w1 := { w2 with O := w.O }) a gl rr2 h2
  | _ => exact hx.elim
end
/-- what the written part says of an own error's class -/
structure ExF (K : PySem.W.Frag) (mg : Str → Option Value) (n : Str) (C : Addr) : Prop where
  g : mg n = some (.ref C)
  x : PySem.W.excIn K C [.type "ValueError", .type "Exception", .type "BaseException", .type "object"] "ValueError.__new__" = true
  k : PySem.W.keepIn K (.ref C) = true
  b : PySem.W.subIn K (.ref C) (.type "BaseException") = some true
  t : PySem.W.typeIn K (.ref C) = some (.type "type")
section
variable {X : Cx} {c : Base} {W : WX} {w w' w1 w2 : Wd} {σ : L2.St} {env : Env} {e a b d : Expr} {fa fb fc : Env → R D} {ft fu : Env → R Bool} {fr fi : Env → R (List D)} {pos p pos2 : Pos} {st : Stmt} {es : List Expr} {rest : List Stmt} {f g : Env → R Out} {x : Str} {ds : List D}
theorem ds_raiseX {C : Addr} (F : ExF X.K X.mg x C) (hm : c.mg = X.mg) (hc : X.calm = true) (tk : Takes X W) (hg : Gl X x) (ha : PE X e (liftE c W fa)) (hs : starEach [e] X.env = (false, eval e X.env) :: starEach [] X.env := by rfl) (hdb : (x == ("__debug__" : Str)) = false := by decide) :
    PS X (.Raise (some (.Call (.Name x p) [e] [] pos)) none pos2) (liftS c W (raiseS x fa)) :=
  ds_raise (hm ▸ F.g) (ps_raise hc tk (SkE.pmk_own1 PySem.F.excBase_ValueError F.x F.g F.k (raises_own F.b F.t) hg ha hs hdb))
/-- the clauses of a try: what a class's name says of it, and the suite -/
def handle : List ((Str → Option Bool) × (Env → R Out)) → Env → Er → R Out
  | [], e, er => .ret (.ex e er)
  | (t, f) :: r, e, er => match t er.cls with
    | some true => (f e).bind fun o => match o with
      | .ex _ _ => .bad
      | o => .ret o
    | some false => handle r e er
    | none => .bad
def tryS (fb : Env → R Out) (hs : List ((Str → Option Bool) × (Env → R Out))) : Env → R Out := fun env => (fb env).bind fun o => match o with
  | .ex e er => handle hs e er
  | o => .ret o
/-- the clauses' derivations -/
inductive HdD (X : Cx) (c : Base) : List ExceptHandler → List ((Str → Option Bool) × (Env → R Out)) → List (Value × (Addr → Value → Option Addr → TS)) → Prop
  | nil : HdD X c [] [] []
  | cons {x : Str} {cv : Value} {b₀ : Stmt} {suite : List Stmt} {np pos' : Pos} {hds : List ExceptHandler} {t : Str → Option Bool} {f : Env → R Out} {fs : List ((Str → Option Bool) × (Env → R Out))} {l : List (Value × (Addr → Value → Option Addr → TS))} (hc : Names X x cv)
      (ht : ∀ n b cls, t n = some b → c.mg n = some cls → PySem.W.exmOne X.K cls cv = some b)
      (hsu : ∀ (a : Addr) (oe : Obj) (pn : List (Addr × Obj)), PSs (X.suite a ((a, oe) :: pn)) (b₀ :: suite) (liftS c (fun _ _ _ _ => False) f)) (r : HdD X c hds fs l) :
      HdD X c (.ExceptHandler (some (.Name x np)) none (b₀ :: suite) pos' :: hds) ((t, f) :: fs) ((cv, fun _ _ _ => liftS c (fun _ _ _ _ => False) f) :: l)
theorem HdD.ok {hds : List ExceptHandler} {fs : List ((Str → Option Bool) × (Env → R Out))} {l : List (Value × (Addr → Value → Option Addr → TS))} (h : HdD X c hds fs l) : HdsOk X hds l := by
  induction h with
  | nil => exact .nil
  | cons hc _ hsu _ ih => exact .cons hc (fun a oe _ _ pn _ _ => hsu a oe pn) ih
theorem handle_of {Wout : WX} {Dn : Ends} {er : Er} {e2 : Env} {cls : Value} {dd : Option Addr} {hds : List ExceptHandler} {fs : List ((Str → Option Bool) × (Env → R Out))} {l : List (Value × (Addr → Value → Option Addr → TS))} (h : HdD X c hds fs l) :
    WOk c w' → EnvOk c w' σ e2 → LE c w w' → ErOk c w' cls dd er → (handle fs e2 er).wp w'.fu (SK c Wout Dn w) (fun _ _ => False) → wMany X.K Wout Dn l cls dd σ w'.H := by
  induction h with
  | nil => exact fun k E l e q => (show SK c Wout Dn w w'.fu (.ex e2 er) from q) cls dd σ w' rfl k E l e
  | @cons x cv b₀ suite np pos' hds t f fs l hc ht hsu r ih =>
    intro k E le e q
    have q : (match t er.cls with | some true => (f e2).bind (fun o => match o with | .ex _ _ => R.bad | o => .ret o) | some false => handle fs e2 er | none => R.bad).wp w'.fu (SK c Wout Dn w) (fun _ _ => False) := q
    cases hb : t er.cls with
    | none => rw [hb] at q; exact q.elim
    | some b =>
      rw [hb] at q
      refine ⟨b, ht _ _ _ hb e.cls, fun hy a ha => ?_, fun hn => ?_⟩
      · subst hy
        refine ⟨w', e2, ⟨rfl, k, E⟩, R.wp_mono (wp_b q) (fun fu o h => ?_) fun _ _ h => h⟩
        cases o with
        | ex _ _ => exact h.elim
        | nx z => exact SK.le (o := .nx z) le h
        | rt z => exact SK.le (o := .rt z) le h
        | rl z => exact SK.le (o := .rl z) le h
        | bk z => exact SK.le (o := .bk z) le h
        | ct z => exact SK.le (o := .ct z) le h
      · subst hn
        exact ih k E le e q
theorem ds_try {h₀ : ExceptHandler} {hds : List ExceptHandler} {body : List Stmt} {fb : Env → R Out} {fs : List ((Str → Option Bool) × (Env → R Out))} {l : List (Value × (Addr → Value → Option Addr → TS))} (hs : X.stack = X.env :: X.outer) (hf : X.env.frame = some X.env.locals) (tk : Takes X W)
    (hb : ∀ (W : WX) (pn : List (Addr × Obj)) (xe : Value → Shared → Prop), Takes (X.tr pn xe) W → PassesOwn (model X.prog X.w) X.A X.env xe → PSs (X.tr pn xe) body (liftS c W fb)) (hh : HdD X c (h₀ :: hds) fs l) :
    PS X (.Try body (h₀ :: hds) [] [] pos) (liftS c W (tryS fb fs)) := ps_imp (ps_try_many (tb := fun W => liftS c W fb) hs hf tk hb hh.ok) fun Dn σ H ⟨w, env, a, q⟩ => by
  refine ⟨w, env, a, R.wp_mono (wp_b q) (fun fu o h => ?_) fun _ _ h => h⟩
  cases o with
  | nx z => exact h
  | rt z => exact h
  | rl z => exact h
  | bk z => exact h
  | ct z => exact h
  | ex e er =>
    intro cls dd σ' w' ef k E l er'
    subst ef
    exact handle_of hh k E l er' h
end
end DL
namespace DL
open PySem PySem.Spec PyProof.Rows L2
section
variable {X : Cx} {c : Base} {W : WX} {w w' w1 w2 : Wd} {σ : L2.St} {env : Env} {pos p : Pos}
theorem Grow.dct (k : WOk c w) {p : Addr} {kvs : List (Key × V)} {ds : List (D × D)} (hp : w.H p = none) (r : RpKV c.K (c.dks w) (c.vis w) kvs ds) {Q : VK} (h : PQ c w Q w.fu (.dict ds)) : Q (.ref p) (upd w.H p (.dK kvs)) := by
  have g := Grow.new (o := .dK kvs) k hp
  exact h _ _ (by rfl) g (.dct (vis_new k hp) (r.mono (g.le k).ex (g.le k).dk))
theorem de_dnew : PE X (.Dict [] [] pos) (liftE c W (cD (.dict []))) := pe_imp pe_dnewK fun σ H Q ⟨w, env, a, q⟩ => by
  obtain ⟨rfl⟩ := a.h
  exact fun p hp => Grow.dct a.ok hp .nil q
theorem de_disp1 {e1 e2 : Expr} {k : Key} {v : V} {d : D} (hk : PE X e1 (tC (kV k))) (hv : PE X e2 (tC v)) (r : ∀ w, RpW c w v d) : PE X (.Dict [some e1] [e2] pos) (liftE c W (cD (.dict [(kD k, d)]))) :=
  pe_imp (pe_disp (pps_cons hk hv pps_nil) rfl rfl (by simp) (by simp)) fun σ H Q ⟨w, env, a, q⟩ => by
    obtain ⟨rfl⟩ := a.h
    intro p hp
    refine ⟨upd_same, [(k, v)], rfl, by simp, ?_⟩
    rw [upd_upd]
    exact Grow.dct a.ok hp (.cons (r w) .nil) q
end
def KtAtI (K : PySem.W.Frag) (mg : Str → Option Value) (x : Str) (qs : List Int) : Prop := ∃ a, mg x = some (.ref a) ∧ ∃ (o : Obj) (its : Array Value) (n : Nat), K.lookup a = some o ∧ o.cls = .type "tuple" ∧ o.dict = none ∧ o.data = .seq its n ∧ its.size ≤ sizeLine ∧ Vals (qs.map V.int) its.toList
theorem rpInts_of {K : PySem.W.Frag} {dk : List Addr} {G : Hp} : ∀ qs : List Int, RpAll K dk G (qs.map V.int) (qs.map PyData.int)
  | [] => .nil
  | q :: r => .cons (.int q) (rpInts_of r)
theorem de_kti {X : Cx} {c : Base} {W : WX} {x : Str} {qs : List Int} {p : Pos} (hK : c.K = X.K) (hg : Gl X x) (m : KtAtI X.K X.mg x qs) (hd : (x == ("__debug__" : Str)) = false := by decide) : PE X (.Name x p) (liftE c W (cD (.tuple (qs.map PyData.int)))) := by
  obtain ⟨a, hm, h⟩ := m
  exact de_c (pe_glob (v := .ref a) hg hm rfl hd) fun w => .tup (.inr (hK ▸ h)) (rpInts_of qs)
end DL
namespace DL
open PySem PySem.Spec PyProof.Rows L2
def KtAt (K : PySem.W.Frag) (mg : Str → Option Value) (x : Str) (qs : List Str) : Prop := ∃ a, mg x = some (.ref a) ∧ ∃ (o : Obj) (its : Array Value) (n : Nat), K.lookup a = some o ∧ o.cls = .type "tuple" ∧ o.dict = none ∧ o.data = .seq its n ∧ its.size ≤ sizeLine ∧ Vals (qs.map V.str) its.toList
theorem rpStrs_of {K : PySem.W.Frag} {dk : List Addr} {G : Hp} : ∀ qs : List Str, RpAll K dk G (qs.map V.str) (qs.map PyData.str)
  | [] => .nil
  | q :: r => .cons (.str q) (rpStrs_of r)
theorem de_kt {X : Cx} {c : Base} {W : WX} {x : Str} {qs : List Str} {p : Pos} (hK : c.K = X.K) (hg : Gl X x) (m : KtAt X.K X.mg x qs) (hd : (x == ("__debug__" : Str)) = false := by decide) : PE X (.Name x p) (liftE c W (cD (.tuple (qs.map PyData.str)))) := by
  obtain ⟨a, hm, h⟩ := m
  exact de_c (pe_glob (v := .ref a) hg hm rfl hd) fun w => .tup (.inr (hK ▸ h)) (rpStrs_of qs)
end DL
namespace DL
open PySem PySem.Spec PyProof.Rows L2
/-- a new source of drawn numbers, from the script -/
def F_open : List D → R D := fun ds => match ds with
  | [x, .int k] => scrGo x fun _ => guard' (decide (0 ≤ k ∧ k ≤ 1000)) (.ret deckD)
  | _ => .bad
end DL
namespace PySem
open Sem (wp)
open PyProof.Rows
set_option maxHeartbeats 1000000 in
theorem dl_meets_enum1 {v : Value} {o : Obj} {H : Heap → Prop} (B : Begins v o H) :
    Meets (Builtin.«enumerate.__new__» ⟨[.type "enumerate", v], []⟩) (fun _ R s => H s.heap ∧ R (.ok (.ret (.ref (s.heap.push o).objs.size)))
      { s with heap := (s.heap.push o).push { cls := .type "enumerate", data := .fields #[.none, .bool false, .ref s.heap.objs.size, rawInt 0, .none, .none] } }) := .of_wp fun prog w A R s ht => by
    obtain ⟨hp, gg, dd, kk, os⟩ := s; obtain ⟨h1, h⟩ := ht
    have hsub := sub_enumerate
    have q1 : ∀ {A' : Around} {E : Value → Shared → Prop} {Q : Value → Shared → Prop}, Q (.ref hp.objs.size) ⟨hp.push o, gg, dd, kk, os⟩ → wpAny (model prog w) A' (pyIter v) Q E ⟨hp, gg, dd, kk, os⟩ := fun q => B.iter prog w _ _ ⟨hp, gg, dd, kk, os⟩ _ h1 q
    wp_walk using q1
    refine wpAny_stack_any fun st => wpAny_pure ?_
    split
    · rename_i c _ _ _ _ _
      cases (c == Value.type "enumerate") <;> (wp_walk using q1; exact ⟨_, rfl, h⟩)
    · wp_walk using q1
      exact ⟨_, rfl, h⟩
theorem dl_call_enum1 {prog : Program} {w : World} {A : Around} {E : Value → Shared → Prop} {s : Shared} {v : Value} {o : Obj} {H : Heap → Prop} {Q : Value → Shared → Prop} (B : Begins v o H) (hv : H s.heap)
    (k : ∀ h', IsEnum h' (s.heap.objs.size + 1) s.heap.objs.size 0 .none → h'.get? s.heap.objs.size = some o → h'.objs.size = s.heap.objs.size + 2 → (∀ b u, s.heap.get? b = some u → h'.get? b = some u) → Q (.ref (s.heap.objs.size + 1)) { s with heap := h' }) :
    wpAny (model prog w) A (call (.type "enumerate") [v]) Q E s := by
  refine callType_new F.called_enumerate (by decide) (F.typeCall_enumerate_1 _) (F.newCall_enumerate_1 _) (fun obj => F.args_object_init_2 obj _) F.entry_enumerate_new (dl_meets_enum1 B) ⟨hv, ?_⟩
  have hsz : (s.heap.push o).objs.size = s.heap.objs.size + 1 := Heap.size_push ..
  show _ ∧ _
  rw [hsz]
  have hen : IsEnum ((s.heap.push o).push { cls := .type "enumerate", data := .fields #[.none, .bool false, .ref s.heap.objs.size, rawInt 0, .none, .none] }) (s.heap.objs.size + 1) s.heap.objs.size 0 .none := by
    have q := Heap.get?_push_size (s.heap.push o) (o := { cls := .type "enumerate", data := .fields #[.none, .bool false, .ref s.heap.objs.size, rawInt 0, .none, .none] }) rfl
    rw [hsz] at q; exact q
  exact ⟨⟨_, hen, rfl⟩, k _ hen (Heap.get?_push_of_some _ (Heap.get?_push_size _ B.free)) (by rw [Heap.size_push, hsz]) fun b u x => Heap.get?_push_of_some _ (Heap.get?_push_of_some _ x)⟩
end PySem
namespace DL
open PySem PySem.Spec PyProof.Rows L2
def IteT (K : PySem.W.Frag) (a : Addr) : It := ⟨fun i H => ∃ (xs : List V) (x : V), SqT K H a xs ∧ xs[i]? = some x,
  fun i H v H' => ∃ T x ob, v = .ref T ∧ H T = none ∧ ob.dict = none ∧ H' = upd H T (.frz ob (.tup [.int (i : Nat), x])) ∧ ∀ xs, SqT K H a xs → xs[i]? = some x, fun i H => ∃ xs : List V, SqT K H a xs ∧ xs.length = i⟩
theorem turn_enumT {P : Program} {w : World} {K : PySem.W.Frag} {elts : List Expr} {kk : Nat} {tpos : Pos} (a e it : Addr) (hea : e ≠ a) (hia : a ≠ it) :
    Turn P w K (.Tuple elts kk tpos) (IteT K a) [e, it] e (fun i h => (∃ old, IsEnum h e it ((i : Nat) : Int) old) ∧ h.IsTupleIter it a i ∧ e ≠ it) where
  mem := by simp
  obj := fun i h st b hb => by
    obtain ⟨⟨old, he⟩, ⟨u, hu, hcu, hdu⟩, _⟩ := st
    rcases (by simpa using hb : b = e ∨ b = it) with rfl | rfl
    · exact ⟨_, he, fun v q => nomatch q⟩
    · exact ⟨u, hu, fun v q => by rw [hdu] at q; cases q⟩
  keep := fun i h h' ⟨⟨old, he⟩, hi, hne⟩ k => ⟨⟨old, k e (by simp) _ he⟩, hi.at fun o q => k it (by simp) o q, hne⟩
  item := by
    intro X hP hw hK hc i pins s σ H E I hf st hg
    subst hP hw hK
    obtain ⟨⟨old, he⟩, hit, hne⟩ := st
    obtain ⟨xs, x, hq, hx⟩ := hg
    obtain ⟨its, rv, p, hz⟩ := I.tuple hq
    obtain ⟨u, hu, ru⟩ := rv.get hx
    have hel : e < s.heap.objs.size := Heap.lt_size he
    have hil : it < s.heap.objs.size := by obtain ⟨_, q, _⟩ := hit; exact Heap.lt_size q
    have hlt : i < its.toArray.size := by
      have := (List.getElem?_eq_some_iff.mp hu).1
      simpa using this
    have Dt : Draws X.prog X.w X.A.in1 it [it, a] its.toArray.size (fun i v => its.toArray[i]? = some v) (fun i h => h.IsTupleIter it a i ∧ h.IsTuple a its.toArray) := Draws.tuple (show X.A.in1.handled = none from I.ok.hd hc) it a hia its.toArray
    refine wpAny_pyNext_enum_itemD Dt he ⟨hit, p⟩ hlt hne (by simp; exact ⟨hne, hea⟩) fun y h' tk hy ho hst hT hsz hk => ?_
    obtain rfl : u = y := by
      have q : its.toArray[i]? = some u := by simpa using hu
      rw [q] at hy; exact Option.some.inj hy
    refine ⟨_, rfl, wpAny_letOwnedTupleGo_enum (s := { s with heap := h', toks := tk + 1 }) ho fun h'' he' sb => ?_⟩
    have hT2 : h''.get? s.heap.objs.size = some { cls := .type "tuple", data := .seq #[.int i tk, u] } := (sb.2 _ (Nat.ne_of_gt hel)).trans hT
    have new : ObjOk X.prog X.w (upd H s.heap.objs.size (.frz { cls := .type "tuple", data := .seq #[.int i tk, u] } (.tup [.int (i : Nat), x]))) h'' s.heap.objs.size (.frz { cls := .type "tuple", data := .seq #[.int i tk, u] } (.tup [.int (i : Nat), x])) := ⟨hT2, by show 2 ≤ sizeLine; decide, [.int i tk, u], .cons ⟨_, rfl⟩ (.cons ru .nil), ⟨_, hT2, rfl, _, rfl⟩⟩
    have I1 : Inv X pins σ (upd H s.heap.objs.size (.frz { cls := .type "tuple", data := .seq #[.int i tk, u] } (.tup [.int (i : Nat), x]))) { s with heap := h'', toks := tk + 1 } :=
      I.turnedNew (ch := [e, it]) (fun b ob hb q => (sb.2 b (fun z => hb (by simp [z]))).trans (hk b ob (fun z => hb (by simp [z])) (fun z => hb (by simp [z])) q)) hf (Nat.le_refl _) new
    refine ⟨.ref s.heap.objs.size, _, I1, rfl, ⟨_, x, _, rfl, I.hok.fresh (Nat.le_refl _), rfl, rfl, fun ys hys => by rw [I.tuple_inj hys hq]; exact hx⟩, ⟨⟨u, ?_⟩, hst.1.at fun o q => (sb.2 it (Ne.symm hne)).trans q, hne⟩, fun b hb => ?_⟩
    · rw [show ((i + 1 : Nat) : Int) = (i : Int) + 1 by omega]; exact he'
    · have hb' : b < s.heap.objs.size := by
        rcases (by simpa using hb : b = e ∨ b = it) with rfl | rfl
        · exact hel
        · exact hil
      rw [upd_ne (Nat.ne_of_lt hb')]
      exact (hf b hb).1
  done := by
    intro X hP hw hK hc i pins s σ H E I hf st hg
    subst hP hw hK
    obtain ⟨⟨old, he⟩, hit, hne⟩ := st
    obtain ⟨xs, hq, hx⟩ := hg
    obtain ⟨its, rv, p, hz⟩ := I.tuple hq
    have hl := rv.length
    have hn : its.toArray.size = i := by rw [List.size_toArray]; omega
    have Dt : Draws X.prog X.w X.A.in1 it [it, a] its.toArray.size (fun i v => its.toArray[i]? = some v) (fun i h => h.IsTupleIter it a i ∧ h.IsTuple a its.toArray) := Draws.tuple (show X.A.in1.handled = none from I.ok.hd hc) it a hia its.toArray
    obtain ⟨f0, f1, f2, f3, f4, f5⟩ := hf it (by simp)
    exact wpAny_pyNext_enum_endD Dt he (by rw [hn]; exact ⟨hit, p⟩) fun h' eb => ⟨rfl, I.turned (t' := s.toks) (fun b o hb q => eb b o hb q) f0 f1 f3 f4 f5⟩
  self := fun A i s Q E ⟨⟨_, he⟩, _⟩ h => wpAny_pyIter_enum he h
def IteL (K : PySem.W.Frag) (a : Addr) : It := ⟨fun i H => ∃ (xs : List V) (x : V), SqL K H a xs ∧ xs[i]? = some x,
  fun i H v H' => ∃ T x ob, v = .ref T ∧ H T = none ∧ ob.dict = none ∧ H' = upd H T (.frz ob (.tup [.int (i : Nat), x])) ∧ ∀ xs, SqL K H a xs → xs[i]? = some x, fun i H => ∃ xs : List V, SqL K H a xs ∧ xs.length = i⟩
theorem turn_enumL {P : Program} {w : World} {K : PySem.W.Frag} {elts : List Expr} {kk : Nat} {tpos : Pos} (a e it : Addr) (hea : e ≠ a) (hia : a ≠ it) :
    Turn P w K (.Tuple elts kk tpos) (IteL K a) [e, it] e (fun i h => (∃ old, IsEnum h e it ((i : Nat) : Int) old) ∧ h.IsListIter it a i ∧ e ≠ it) where
  mem := by simp
  obj := fun i h st b hb => by
    obtain ⟨⟨old, he⟩, ⟨u, hu, hcu, hdu⟩, _⟩ := st
    rcases (by simpa using hb : b = e ∨ b = it) with rfl | rfl
    · exact ⟨_, he, fun v q => nomatch q⟩
    · exact ⟨u, hu, fun v q => by rw [hdu] at q; cases q⟩
  keep := fun i h h' ⟨⟨old, he⟩, hi, hne⟩ k => ⟨⟨old, k e (by simp) _ he⟩, hi.at fun o q => k it (by simp) o q, hne⟩
  item := by
    intro X hP hw hK hc i pins s σ H E I hf st hg
    subst hP hw hK
    obtain ⟨⟨old, he⟩, hit, hne⟩ := st
    obtain ⟨xs, x, hq, hx⟩ := hg
    obtain ⟨its, rv, p0, hz⟩ := I.list hq
    have p := p0.isList
    obtain ⟨u, hu, ru⟩ := rv.get hx
    have hel : e < s.heap.objs.size := Heap.lt_size he
    have hil : it < s.heap.objs.size := by obtain ⟨_, q, _⟩ := hit; exact Heap.lt_size q
    have hlt : i < its.toArray.size := by
      have := (List.getElem?_eq_some_iff.mp hu).1
      simpa using this
    have Dt : Draws X.prog X.w X.A.in1 it [it, a] its.toArray.size (fun i v => its.toArray[i]? = some v) (fun i h => h.IsListIter it a i ∧ h.IsList a its.toArray) := Draws.list (show X.A.in1.handled = none from I.ok.hd hc) it a hia its.toArray
    refine wpAny_pyNext_enum_itemD Dt he ⟨hit, p⟩ hlt hne (by simp; exact ⟨hne, hea⟩) fun y h' tk hy ho hst hT hsz hk => ?_
    obtain rfl : u = y := by
      have q : its.toArray[i]? = some u := by simpa using hu
      rw [q] at hy; exact Option.some.inj hy
    refine ⟨_, rfl, wpAny_letOwnedTupleGo_enum (s := { s with heap := h', toks := tk + 1 }) ho fun h'' he' sb => ?_⟩
    have hT2 : h''.get? s.heap.objs.size = some { cls := .type "tuple", data := .seq #[.int i tk, u] } := (sb.2 _ (Nat.ne_of_gt hel)).trans hT
    have new : ObjOk X.prog X.w (upd H s.heap.objs.size (.frz { cls := .type "tuple", data := .seq #[.int i tk, u] } (.tup [.int (i : Nat), x]))) h'' s.heap.objs.size (.frz { cls := .type "tuple", data := .seq #[.int i tk, u] } (.tup [.int (i : Nat), x])) := ⟨hT2, by show 2 ≤ sizeLine; decide, [.int i tk, u], .cons ⟨_, rfl⟩ (.cons ru .nil), ⟨_, hT2, rfl, _, rfl⟩⟩
    have I1 : Inv X pins σ (upd H s.heap.objs.size (.frz { cls := .type "tuple", data := .seq #[.int i tk, u] } (.tup [.int (i : Nat), x]))) { s with heap := h'', toks := tk + 1 } :=
      I.turnedNew (ch := [e, it]) (fun b ob hb q => (sb.2 b (fun z => hb (by simp [z]))).trans (hk b ob (fun z => hb (by simp [z])) (fun z => hb (by simp [z])) q)) hf (Nat.le_refl _) new
    refine ⟨.ref s.heap.objs.size, _, I1, rfl, ⟨_, x, _, rfl, I.hok.fresh (Nat.le_refl _), rfl, rfl, fun ys hys => by rw [I.list_inj hys hq]; exact hx⟩, ⟨⟨u, ?_⟩, hst.1.at fun o q => (sb.2 it (Ne.symm hne)).trans q, hne⟩, fun b hb => ?_⟩
    · rw [show ((i + 1 : Nat) : Int) = (i : Int) + 1 by omega]; exact he'
    · have hb' : b < s.heap.objs.size := by
        rcases (by simpa using hb : b = e ∨ b = it) with rfl | rfl
        · exact hel
        · exact hil
      rw [upd_ne (Nat.ne_of_lt hb')]
      exact (hf b hb).1
  done := by
    intro X hP hw hK hc i pins s σ H E I hf st hg
    subst hP hw hK
    obtain ⟨⟨old, he⟩, hit, hne⟩ := st
    obtain ⟨xs, hq, hx⟩ := hg
    obtain ⟨its, rv, p0, hz⟩ := I.list hq
    have p := p0.isList
    have hl := rv.length
    have hn : its.toArray.size = i := by rw [List.size_toArray]; omega
    have Dt : Draws X.prog X.w X.A.in1 it [it, a] its.toArray.size (fun i v => its.toArray[i]? = some v) (fun i h => h.IsListIter it a i ∧ h.IsList a its.toArray) := Draws.list (show X.A.in1.handled = none from I.ok.hd hc) it a hia its.toArray
    obtain ⟨f0, f1, f2, f3, f4, f5⟩ := hf it (by simp)
    exact wpAny_pyNext_enum_endD Dt he (by rw [hn]; exact ⟨hit, p⟩) fun h' eb => ⟨rfl, I.turned (t' := s.toks) (fun b o hb q => eb b o hb q) f0 f1 f3 f4 f5⟩
  self := fun A i s Q E ⟨⟨_, he⟩, _⟩ h => wpAny_pyIter_enum he h
def iEnumA (K : PySem.W.Frag) (te : TE) : TI := fun σ H R => te σ H fun x H1 => (∃ a xs, x = .ref a ∧ SqL K H1 a xs ∧ R (IteL K a) H1) ∨ ∃ a xs, x = .ref a ∧ SqT K H1 a xs ∧ R (IteT K a) H1
theorem pi_enumA {X : Cx} {e : Expr} {te : TE} {p pos tpos : Pos} {elts : List Expr} {kk : Nat} (hg : Gl X "enumerate") (hm : X.mg "enumerate" = none) (he : PE X e te) (hs : starEach [e] X.env = [(false, eval e X.env)] := by rfl) :
    PI X (.Tuple elts kk tpos) (.Call (.Name "enumerate" p) [e] [] pos) (iEnumA X.K te) := by
  have one : PA X [e] (L2.tCons te L2.tNil) := pa_cons he pa_nil (by rw [hs]; rfl)
  refine ⟨fun pins s σ H R I h => Call_ (ld_blt I hg hm boot_enumerate (PyProof.Rows.callWith_type1 (thn (one.run pos pins s σ H (fun vs H1 => match vs with
    | [x] => (∃ a xs, x = .ref a ∧ SqL X.K H1 a xs ∧ R (IteL X.K a) H1) ∨ ∃ a xs, x = .ref a ∧ SqT X.K H1 a xs ∧ R (IteT X.K a) H1
    | _ => False) I h) fun us s1 ⟨vs, H1, I1, r1, q1⟩ => ?_) hs rfl))⟩
  obtain ⟨x, rfl⟩ : ∃ x, vs = [x] := by
    match vs, q1 with
    | [x], _ => exact ⟨x, rfl⟩
  have q : (∃ a xs, x = .ref a ∧ SqL X.K H1 a xs ∧ R (IteL X.K a) H1) ∨ ∃ a xs, x = .ref a ∧ SqT X.K H1 a xs ∧ R (IteT X.K a) H1 := q1
  cases r1 with
  | cons r rr =>
    cases rr
    rcases q with ⟨a, xs, rfl, hq, q⟩ | ⟨a, xs, rfl, hq, q⟩
    · cases r
      obtain ⟨its, rv, p', hz⟩ := I1.list hq
      have hal : a < s1.heap.objs.size := by obtain ⟨n, q, _⟩ := p'.isList; exact Heap.lt_size q
      refine call_enumerate_list p'.isList fun h' he hit hsz hk => wpAny_pyIter_enum he ?_
      have I2 : Inv X pins σ H1 { s1 with heap := h' } := I1.kept (t' := s1.toks) hk
      refine ⟨s1.heap.objs.size + 1, [s1.heap.objs.size + 1, s1.heap.objs.size], _, _, H1, rfl, I2, turn_enumL a (s1.heap.objs.size + 1) s1.heap.objs.size (Nat.ne_of_gt (Nat.lt_succ_of_lt hal)) (Nat.ne_of_lt hal), ⟨⟨.none, he⟩, hit, Nat.succ_ne_self _⟩, fun b hb => ?_, q⟩
      have hle : s1.heap.objs.size ≤ b := by
        rcases (by simpa using hb : b = s1.heap.objs.size + 1 ∨ b = s1.heap.objs.size) with z | z
        · rw [z]; exact Nat.le_add_right _ _
        · rw [z]; exact Nat.le_refl _
      exact I1.fpOk hle (I1.hok.fresh hle)
    · cases r
      obtain ⟨its, rv, p', hz⟩ := I1.tuple hq
      have hal : a < s1.heap.objs.size := by obtain ⟨o, q, _⟩ := p'; exact Heap.lt_size q
      refine dl_call_enum1 (begins_tuple a its.toArray) p' fun h' he hit hsz hk => wpAny_pyIter_enum he ?_
      have I2 : Inv X pins σ H1 { s1 with heap := h' } := I1.kept (t' := s1.toks) hk
      refine ⟨s1.heap.objs.size + 1, [s1.heap.objs.size + 1, s1.heap.objs.size], _, _, H1, rfl, I2, turn_enumT a (s1.heap.objs.size + 1) s1.heap.objs.size (Nat.ne_of_gt (Nat.lt_succ_of_lt hal)) (Nat.ne_of_lt hal), ⟨⟨.none, he⟩, ⟨_, hit, rfl, rfl⟩, Nat.succ_ne_self _⟩, fun b hb => ?_, q⟩
      have hle : s1.heap.objs.size ≤ b := by
        rcases (by simpa using hb : b = s1.heap.objs.size + 1 ∨ b = s1.heap.objs.size) with z | z
        · rw [z]; exact Nat.le_add_right _ _
        · rw [z]; exact Nat.le_refl _
      exact I1.fpOk hle (I1.hok.fresh hle)
end DL
namespace DL
open PySem PySem.Spec PyProof.Rows L2
def gRev (x : D) : R D := match x with
  | .list ds => .ret (.list ds.reverse)
  | .tuple ds => .ret (.tuple ds.reverse)
  | _ => .bad
def enumD (ds : List D) : List D := ds.mapIdx fun i d => .tuple [.int (i : Nat), d]
def zipD (ds es : List D) : List D := (ds.zip es).map fun p => .tuple [p.1, p.2]
def enumF (fa : Env → R D) : Env → R (List D) := fun env => (fa env).bind fun x => match x with
  | .list ds => .ret (enumD ds)
  | .tuple ds => .ret (enumD ds)
  | _ => .bad
def zipF (fa fb : Env → R D) : Env → R (List D) := fun env => (fa env).bind fun x => (fb env).bind fun y => match x, y with
  | .list ds, .list es => .ret (zipD ds es)
  | .tuple ds, .tuple es => .ret (zipD ds es)
  | _, _ => .bad
def revRI (fa : Env → R D) : Env → R (List D) := fun env => (fa env).bind fun x => (asI x).bind fun j => guard' (rngOk 0 j) (.ret (rngD 0 j).reverse)
def gDivmod (xs : List D) : R D := match xs with
  | [.int i, .int j] => guard' (decide (0 < j ∧ j < 1073741824)) (.ret (.tuple [.int (i / j), .int (i % j)]))
  | _ => .bad
end DL
namespace DL
open PySem PySem.Spec PyProof.Rows L2
section
variable {X : Cx} {c : Base} {W : WX} {w w' w1 w2 : Wd} {σ : L2.St} {env : Env} {tg iter e a b d : Expr} {fa fb fc : Env → R D} {ft fu : Env → R Bool} {fr fi : Env → R (List D)} {pos p pos2 : Pos} {st : Stmt} {es : List Expr} {rest : List Stmt} {f g : Env → R Out} {x : Str} {ds : List D}
theorem enumD_at {ds : List D} {i : Nat} {d : D} (h : (enumD ds)[i]? = some d) : ∃ y, ds[i]? = some y ∧ d = .tuple [.int (i : Nat), y] := by
  unfold enumD at h
  rw [List.getElem?_mapIdx] at h
  cases e : ds[i]? with
  | none => rw [e] at h; cases h
  | some y => rw [e] at h; cases h; exact ⟨y, rfl, rfl⟩
theorem enum_len {ds : List D} : (enumD ds).length = ds.length := by unfold enumD; rw [List.length_mapIdx]
theorem enum_yld {w' : Wd} (k : WOk c w') {i : Nat} {T : Addr} {v : V} {y : D} {ob : Obj} (hT : w'.H T = none) (hob : ob.dict = none) (r : RpW c w' v y) :
    ∃ w2, w2.H = upd w'.H T (.frz ob (.tup [.int (i : Nat), v])) ∧ w2.fu = w'.fu ∧ Grow c w' w2 ∧ RpW c w2 (.ref T) (.tuple [.int (i : Nat), y]) := by
  have g := Grow.new (o := .frz ob (.tup [.int (i : Nat), v])) k hT
  exact ⟨{ w' with H := upd w'.H T (.frz ob (.tup [.int (i : Nat), v])) }, rfl, rfl, g, .tup (sqN_new k hT hob) ((g.le k).rpAll (.cons (.int _) (.cons r .nil)))⟩
theorem itd_enumL {a : Addr} {xs : List V} (h : SqLt c.K (c.vis w) a xs) (r : RpsW c w xs ds) : ItD c (IteL c.K a) w (enumD ds) := by
  refine ⟨fun w' i le k hi => ?_, fun w' i x H2 le k hy d hd => ?_, fun w' i le k hi => ?_⟩
  · rw [enum_len] at hi
    obtain ⟨v, e, _⟩ := r.at' (List.getElem?_eq_getElem hi)
    exact ⟨xs, v, sqL_vis (sqLt_mono le.ex h).sqL, e⟩
  · obtain ⟨T, v', ob, rfl, hT, hob, e1, e2⟩ := hy
    obtain ⟨y, hy, rfl⟩ := enumD_at hd
    obtain ⟨v, e, rv⟩ := r.at' hy
    have e3 := e2 xs (sqL_vis (sqLt_mono le.ex h).sqL)
    rw [e] at e3
    cases e3
    obtain ⟨w2, q1, q2, q3, q4⟩ := enum_yld (i := i) k hT hob (le.rp rv)
    exact ⟨w2, by rw [q1, e1], q2, q3, q4⟩
  · exact ⟨xs, sqL_vis (sqLt_mono le.ex h).sqL, by rw [enum_len] at hi; rw [r.len]; omega⟩
theorem itd_enumT {a : Addr} {xs : List V} (h : SqT c.K (c.vis w) a xs) (r : RpsW c w xs ds) : ItD c (IteT c.K a) w (enumD ds) := by
  refine ⟨fun w' i le k hi => ?_, fun w' i x H2 le k hy d hd => ?_, fun w' i le k hi => ?_⟩
  · rw [enum_len] at hi
    obtain ⟨v, e, _⟩ := r.at' (List.getElem?_eq_getElem hi)
    exact ⟨xs, v, sqT_vis (sqT_mono le.ex h), e⟩
  · obtain ⟨T, v', ob, rfl, hT, hob, e1, e2⟩ := hy
    obtain ⟨y, hy, rfl⟩ := enumD_at hd
    obtain ⟨v, e, rv⟩ := r.at' hy
    have e3 := e2 xs (sqT_vis (sqT_mono le.ex h))
    rw [e] at e3
    cases e3
    obtain ⟨w2, q1, q2, q3, q4⟩ := enum_yld (i := i) k hT hob (le.rp rv)
    exact ⟨w2, by rw [q1, e1], q2, q3, q4⟩
  · exact ⟨xs, sqT_vis (sqT_mono le.ex h), by rw [enum_len] at hi; rw [r.len]; omega⟩
theorem di_enum (hK : c.K = X.K) (h : PI X tg e (iEnumA X.K (liftE c W fa))) : PI X tg e (liftI c W (enumF fa)) := pi_imp h fun σ H Q ⟨w, env, a, q⟩ => by
  refine ⟨w, env, a, R.wp_mono (wp_b q) (fun fu x hx v w1 e1 g1 r1 => ?_) fun _ _ h => h⟩
  subst e1
  split at hx
  · obtain ⟨a', xs, rfl, s1, a1⟩ := r1.isLst'
    exact .inl ⟨a', xs, rfl, hK ▸ sqL_vis s1.sqL, hK ▸ hx _ w1 rfl g1 (itd_enumL s1 a1)⟩
  · obtain ⟨a', xs, rfl, s1, a1⟩ := r1.isTup
    exact .inr ⟨a', xs, rfl, hK ▸ sqT_vis s1, hK ▸ hx _ w1 rfl g1 (itd_enumT s1 a1)⟩
  · exact hx.elim
/-- tuple(x), x a list held as one's own -/
def ownTup (i : Nat) : Env → R D := fun env => match env[i]? with
  | some (some (.own es)) => .ret (.tuple es)
  | some (some (.val d)) => gTuple [d]
  | _ => .bad
theorem de_ownTup {i : Nat} (hK : c.K = X.K) (h : PE X e (tCB (rTupOf X.K) (L2.tCons (tVar i) L2.tNil))) : PE X e (liftE c W (ownTup i)) := pe_imp h fun σ H Q ⟨w, env, a, q⟩ => by
  obtain ⟨rfl⟩ := a.h
  unfold ownTup at q
  split at q
  · rename_i es he
    obtain ⟨p, vs, h1, h2, h3, h4⟩ := own_here a he
    exact ⟨.ref p, h1, p, vs, rfl, .inl ⟨.inl (.inl h3), new_tup a.ok h4 q⟩⟩
  · rename_i d hd
    obtain ⟨v, h1, h2⟩ := a.env.val _ _ hd
    exact ⟨v, h1, hK ▸ d_tuple c W σ w [d] [v] Q a.ok (.cons h2 .nil) q⟩
  · exact q.elim
end
end DL
namespace DL
open PySem PySem.Spec PyProof.Rows L2
section
variable {X : Cx} {c : Base} {W : WX} {w w' w1 w2 : Wd} {σ : L2.St} {env : Env} {tg iter e a b d : Expr} {fa fb fc : Env → R D} {ft fu : Env → R Bool} {fr fi : Env → R (List D)} {pos p pos2 : Pos} {st : Stmt} {es : List Expr} {rest : List Stmt} {f g : Env → R Out} {x : Str} {ds : List D}
/-- in, of a list held as one's own -/
def ownIn (neg : Bool) (i : Nat) (fa : Env → R D) : Env → R D := fun env => (fa env).bind fun x => match env[i]? with
  | some (some (.own es)) => guard' (SeqAt.shaped x && SeqAt.shaped (.list es)) (.ret (.bool (inB neg (es.any fun z => PyData.eqv z x))))
  | some (some (.val y)) => gInN neg x y
  | _ => .bad
theorem own_dp (a : At c σ w.H w env) {i : Nat} {es : List D} (h : env[i]? = some (some (.own es))) (s : SeqAt.shaped (.list es) = true) : ∃ p, σ[i]? = some (some (.ref p)) ∧ Dp c.K w.H (.ref p) (.list es) := by
  obtain ⟨p, vs, h1, h2, h3, h4⟩ := own_here a h
  refine ⟨p, h1, .lst (.inl (.inl h3)) (dpAll_mono (fun _ _ => vis_sub) (h4.dp ?_))⟩
  have := SeqAt.canLay_of_shaped s
  simpa [PyData.canLay0] using this
theorem tOwnIn_of {i : Nat} (hK : c.K = X.K) : ∀ σ H Q, liftE c W (ownIn false i fa) σ H Q → tOp (rInAll X.K) (liftE c W fa) (tVar i) σ H Q := fun σ H Q ⟨w, env, a, q⟩ =>
  step a q fun x v w1 g1 r1 q1 => by
    have a1 := a.grow g1
    split at q1
    · rename_i es he
      obtain ⟨h1, h2⟩ := wp_guard.mp q1
      obtain ⟨h3, h4⟩ := (Bool.and_eq_true _ _).mp h1
      obtain ⟨p, e1, e2⟩ := own_dp a1 he h4
      exact ⟨.ref p, e1, .inl ⟨x, es, hK ▸ dp_mono (fun _ _ => vis_sub) (r1.dp (SeqAt.canLay_of_shaped h3)), hK ▸ e2, h3, h4, PQ.here g1.ok h2 (.bl _)⟩⟩
    · rename_i y hy
      obtain ⟨u, e1, e2⟩ := a1.env.val _ _ hy
      exact ⟨u, e1, hK ▸ d_inA c W σ w1 x y v u Q g1.ok r1 e2 q1⟩
    · exact q1.elim
theorem tOwnNotIn_of {i : Nat} (hK : c.K = X.K) : ∀ σ H Q, liftE c W (ownIn true i fa) σ H Q → tOp (rNotInAll X.K) (liftE c W fa) (tVar i) σ H Q := fun σ H Q ⟨w, env, a, q⟩ =>
  step a q fun x v w1 g1 r1 q1 => by
    have a1 := a.grow g1
    split at q1
    · rename_i es he
      obtain ⟨h1, h2⟩ := wp_guard.mp q1
      obtain ⟨h3, h4⟩ := (Bool.and_eq_true _ _).mp h1
      obtain ⟨p, e1, e2⟩ := own_dp a1 he h4
      exact ⟨.ref p, e1, .inl ⟨x, es, hK ▸ dp_mono (fun _ _ => vis_sub) (r1.dp (SeqAt.canLay_of_shaped h3)), hK ▸ e2, h3, h4, PQ.here g1.ok h2 (.bl _)⟩⟩
    · rename_i y hy
      obtain ⟨u, e1, e2⟩ := a1.env.val _ _ hy
      exact ⟨u, e1, hK ▸ d_notInA c W σ w1 x y v u Q g1.ok r1 e2 q1⟩
    · exact q1.elim
theorem de_ownIn {i : Nat} (hK : c.K = X.K) (ho : OpR X (compareOp .In) (rInAll X.K)) (ha : PE X a (liftE c W fa)) (hb : PE X b (tVar i)) (hm : behindInMarks .In b = false) : PE X (.Compare a [.In] [b] pos) (liftE c W (ownIn false i fa)) :=
  pe_imp (pe_cmpR ho ha hb hm) (tOwnIn_of hK)
theorem de_ownNotIn {i : Nat} (hK : c.K = X.K) (ho : OpR X (compareOp .NotIn) (rNotInAll X.K)) (ha : PE X a (liftE c W fa)) (hb : PE X b (tVar i)) (hm : behindInMarks .NotIn b = false) : PE X (.Compare a [.NotIn] [b] pos) (liftE c W (ownIn true i fa)) :=
  pe_imp (pe_cmpR ho ha hb hm) (tOwnNotIn_of hK)
theorem dt_ownIn {i : Nat} (hK : c.K = X.K) (ho : OpR X (compareOp .In) (rInAll X.K)) (ha : PE X a (liftE c W fa)) (hb : PE X b (tVar i)) (hm : behindInMarks .In b = false) : PT X (.Compare a [.In] [b] pos) (liftT c W (blT (ownIn false i fa))) :=
  pt_imp (pt_cmpR ho ha hb hm) fun σ H Q h => tOwnIn_of hK σ H _ (tTest_of (t := fun _ _ _ => True) h)
theorem dt_ownNotIn {i : Nat} (hK : c.K = X.K) (ho : OpR X (compareOp .NotIn) (rNotInAll X.K)) (ha : PE X a (liftE c W fa)) (hb : PE X b (tVar i)) (hm : behindInMarks .NotIn b = false) : PT X (.Compare a [.NotIn] [b] pos) (liftT c W (blT (ownIn true i fa))) :=
  pt_imp (pt_cmpR ho ha hb hm) fun σ H Q h => tOwnNotIn_of hK σ H _ (tTest_of (t := fun _ _ _ => True) h)
/-- ==, != of a list held as one's own -/
def ownEq (neg : Bool) (i : Nat) (fb : Env → R D) : Env → R D := fun env => match env[i]? with
  | some (some (.own es)) => (fb env).bind fun y => if neg = true then gNe (.list es) y else gEq (.list es) y
  | some (some (.val x)) => (fb env).bind fun y => if neg = true then gNe x y else gEq x y
  | _ => .bad
theorem gEq_l {es : List D} {y : D} : gEq (.list es) y = guard' (SeqAt.shaped (.list es) && SeqAt.shaped y) (.ret (.bool (PyData.eqv (.list es) y))) := by
  unfold gEq
  cases y <;> rfl
theorem gNe_l {es : List D} {y : D} : gNe (.list es) y = guard' (SeqAt.shaped (.list es) && SeqAt.shaped y) (.ret (.bool (!PyData.eqv (.list es) y))) := by
  unfold gNe
  cases y <;> rfl
theorem tOwnEq_of {i : Nat} (hK : c.K = X.K) : ∀ σ H Q, liftE c W (ownEq false i fb) σ H Q → tOp (rEqAll X.K) (tVar i) (liftE c W fb) σ H Q := fun σ H Q ⟨w, env, a, q⟩ => by
  obtain ⟨rfl⟩ := a.h
  unfold ownEq at q
  split at q
  · rename_i es he
    obtain ⟨p0, vs0, z1, _⟩ := own_here a he
    refine ⟨.ref p0, z1, step a q fun y u w1 g1 r1 q1 => ?_⟩
    have a1 := a.grow g1
    rw [if_neg (by decide), gEq_l] at q1
    obtain ⟨h1, h2⟩ := wp_guard.mp q1
    obtain ⟨h3, h4⟩ := (Bool.and_eq_true _ _).mp h1
    obtain ⟨p, e1, e2⟩ := own_dp a1 he h3
    have e := z1.symm.trans e1
    cases e
    exact hK ▸ .inr ⟨.list es, y, e2, dp_mono (fun _ _ => vis_sub) (r1.dp (SeqAt.canLay_of_shaped h4)), h3, h4, PQ.here g1.ok h2 (.bl _)⟩
  · rename_i x hx
    obtain ⟨v, e1, e2⟩ := a.env.val _ _ hx
    refine ⟨v, e1, step a q fun y u w1 g1 r1 q1 => ?_⟩
    rw [if_neg (by decide)] at q1
    exact hK ▸ d_eq c W σ w1 x y v u Q g1.ok ((g1.le a.ok).rp e2) r1 q1
  · exact q.elim
theorem tOwnNe_of {i : Nat} (hK : c.K = X.K) : ∀ σ H Q, liftE c W (ownEq true i fb) σ H Q → tOp (rNeAll X.K) (tVar i) (liftE c W fb) σ H Q := fun σ H Q ⟨w, env, a, q⟩ => by
  obtain ⟨rfl⟩ := a.h
  unfold ownEq at q
  split at q
  · rename_i es he
    obtain ⟨p0, vs0, z1, _⟩ := own_here a he
    refine ⟨.ref p0, z1, step a q fun y u w1 g1 r1 q1 => ?_⟩
    have a1 := a.grow g1
    rw [if_pos rfl, gNe_l] at q1
    obtain ⟨h1, h2⟩ := wp_guard.mp q1
    obtain ⟨h3, h4⟩ := (Bool.and_eq_true _ _).mp h1
    obtain ⟨p, e1, e2⟩ := own_dp a1 he h3
    have e := z1.symm.trans e1
    cases e
    exact hK ▸ .inr ⟨.list es, y, e2, dp_mono (fun _ _ => vis_sub) (r1.dp (SeqAt.canLay_of_shaped h4)), h3, h4, PQ.here g1.ok h2 (.bl _)⟩
  · rename_i x hx
    obtain ⟨v, e1, e2⟩ := a.env.val _ _ hx
    refine ⟨v, e1, step a q fun y u w1 g1 r1 q1 => ?_⟩
    rw [if_pos rfl] at q1
    exact hK ▸ d_ne c W σ w1 x y v u Q g1.ok ((g1.le a.ok).rp e2) r1 q1
  · exact q.elim
theorem de_ownEq {i : Nat} (hK : c.K = X.K) (ho : OpR X (compareOp .Eq) (rEqAll X.K)) (ha : PE X a (tVar i)) (hb : PE X b (liftE c W fb)) (hm : behindInMarks .Eq b = false) : PE X (.Compare a [.Eq] [b] pos) (liftE c W (ownEq false i fb)) :=
  pe_imp (pe_cmpR ho ha hb hm) (tOwnEq_of hK)
theorem de_ownNe {i : Nat} (hK : c.K = X.K) (ho : OpR X (compareOp .NotEq) (rNeAll X.K)) (ha : PE X a (tVar i)) (hb : PE X b (liftE c W fb)) (hm : behindInMarks .NotEq b = false) : PE X (.Compare a [.NotEq] [b] pos) (liftE c W (ownEq true i fb)) :=
  pe_imp (pe_cmpR ho ha hb hm) (tOwnNe_of hK)
theorem dt_ownEq {i : Nat} (hK : c.K = X.K) (ho : OpR X (compareOp .Eq) (rEqAll X.K)) (ha : PE X a (tVar i)) (hb : PE X b (liftE c W fb)) (hm : behindInMarks .Eq b = false) : PT X (.Compare a [.Eq] [b] pos) (liftT c W (blT (ownEq false i fb))) :=
  pt_imp (pt_cmpR ho ha hb hm) fun σ H Q h => tOwnEq_of hK σ H _ (tTest_of (t := fun _ _ _ => True) h)
theorem dt_ownNe {i : Nat} (hK : c.K = X.K) (ho : OpR X (compareOp .NotEq) (rNeAll X.K)) (ha : PE X a (tVar i)) (hb : PE X b (liftE c W fb)) (hm : behindInMarks .NotEq b = false) : PT X (.Compare a [.NotEq] [b] pos) (liftT c W (blT (ownEq true i fb))) :=
  pt_imp (pt_cmpR ho ha hb hm) fun σ H Q h => tOwnNe_of hK σ H _ (tTest_of (t := fun _ _ _ => True) h)
/-- isinstance of a list held as one's own -/
def ownIsi (T : String) (i : Nat) : Env → R D := fun env => match env[i]? with
  | some (some (.own es)) => isiV T (.list es)
  | some (some (.val x)) => isiV T x
  | _ => .bad
theorem de_ownIsi {T : String} {i : Nat} (hK : c.K = X.K) (h : PE X e (tCB (rIsi1 X.K T) (L2.tCons (tVar i) (L2.tCons (tC (.ty T)) L2.tNil)))) : PE X e (liftE c W (ownIsi T i)) := pe_imp h fun σ H Q ⟨w, env, a, q⟩ => by
  obtain ⟨rfl⟩ := a.h
  unfold ownIsi at q
  have gen : ∀ {m : D}, (isiV T m).wp w.fu (PQ c w Q) (EK c W σ w) → (∀ l v r, m ≠ .dict ((.list l, v) :: r)) ∧ ∃ b, kitB (tyName m) T = some b ∧ (R.ret (PyData.bool b)).wp w.fu (PQ c w Q) (EK c W σ w) := fun {m} h => by
    unfold isiV at h
    split at h
    · exact h.elim
    · rename_i hno
      refine ⟨fun l v r z => hno _ _ _ z, ?_⟩
      split at h
      · rename_i b e; exact ⟨b, e, h⟩
      · exact h.elim
  split at q
  · rename_i es he
    obtain ⟨p, vs, h1, h2, h3, h4⟩ := own_here a he
    obtain ⟨_, b, hb, q2⟩ := gen q
    exact ⟨.ref p, h1, .ref p, "list", b, rfl, .base (.lst h3), hb, PQ.here a.ok q2 (.bl b)⟩
  · rename_i x hx
    obtain ⟨v, h1, h2⟩ := a.env.val _ _ hx
    obtain ⟨hn, b, hb, q2⟩ := gen q
    exact ⟨v, h1, v, tyName x, b, rfl, hK ▸ Rp.ty h2 hn, hb, PQ.here a.ok q2 (.bl b)⟩
  · exact q.elim
/-- a comprehension over a list of one's own -/
def ownIt (i : Nat) : Env → R (List D) := fun env => match env[i]? with
  | some (some (.own es)) => .ret es
  | some (some (.val y)) => iterE y
  | _ => .bad
theorem itc_own {p : Addr} {vs : List V} {es : List D} (hp : p ∈ w.O) (h : w.H p = some (.lst vs)) (r : RpsW c w vs es) : ItC c (Itl c.K p) w es := by
  have hs : ∀ {w' : Wd}, (∀ p ∈ w.O, w'.H p = w.H p) → SqL c.K w'.H p vs := fun s => .inl (.inl ((s p hp).trans h))
  refine ⟨fun w' i le k s hi => ?_, fun w' i x H2 le k s hy d hd => ?_, fun w' i le k s hi => ?_⟩
  · obtain ⟨v, e, _⟩ := r.at' (List.getElem?_eq_getElem hi)
    exact ⟨vs, v, hs s, e⟩
  · obtain ⟨e1, e2⟩ := hy
    obtain ⟨v, e, rv⟩ := r.at' hd
    have e3 := e2 vs (hs s)
    rw [e] at e3
    cases e3
    exact ⟨w', e1.symm, rfl, Grow.refl k, le.rp rv⟩
  · exact ⟨vs, hs s, by rw [r.len]; omega⟩
theorem liftI.toC {tg e : Expr} (h : PI X tg e (liftI c W fi)) : PI X tg e (liftIc c W fi) := pi_imp h fun σ H Q ⟨w, env, a, q⟩ => ⟨w, env, a, R.wp_mono q (fun fu ds hd J w1 e1 g1 it => hd J w1 e1 g1 it.toC) fun _ _ h => h⟩
theorem tIt_of {t : TE} (hK : c.K = X.K) {H : Hp} {Q : It → Hp → Prop} (h : liftI c W (iterF fa) σ H Q) : liftE c W fa σ H (fun x H1 => (∃ a xs, x = .ref a ∧ SqL X.K H1 a xs ∧ Q (Itl X.K a) H1) ∨ (∃ a xs, x = .ref a ∧ SqT X.K H1 a xs ∧ Q (Itt X.K a) H1) ∨ ∃ z, x = .str z ∧ Q (Its z) H1) := by
  obtain ⟨w, env, a, q⟩ := h
  refine ⟨w, env, a, R.wp_mono (wp_b q) (fun fu x hx v w1 e1 g1 r1 => ?_) fun _ _ h => h⟩
  subst e1
  unfold iterE at hx
  split at hx
  · obtain ⟨a', xs, rfl, s1, a1⟩ := r1.isLst'
    exact .inl ⟨a', xs, rfl, hK ▸ sqL_vis s1.sqL, hK ▸ hx _ w1 rfl g1 (itd_list s1 a1)⟩
  · obtain ⟨a', xs, rfl, s1, a1⟩ := r1.isTup
    exact .inr (.inl ⟨a', xs, rfl, hK ▸ sqT_vis s1, hK ▸ hx _ w1 rfl g1 (itd_tup s1 a1)⟩)
  · obtain rfl := r1.isStr
    exact .inr (.inr ⟨_, rfl, hx _ w1 rfl g1 itd_str⟩)
  · rename_i k
    unfold scrGo at hx
    split at hx
    · rename_i ns e
      have e := scrOf_eq e
      rw [e] at r1
      obtain ⟨a', rfl, s1⟩ := r1.isScr
      exact .inl ⟨a', _, rfl, hK ▸ sqL_vis s1, hK ▸ hx _ w1 rfl g1 (itd_scr s1)⟩
    · exact hx.elim
  · exact hx.elim
theorem di_own {i : Nat} (hK : c.K = X.K) (he : PE X e (tVar i)) : PI X tg e (liftIc c W (ownIt i)) := pi_imp (pi_any he) fun σ H Q ⟨w, env, a, q⟩ => by
  obtain ⟨rfl⟩ := a.h
  unfold ownIt at q
  split at q
  · rename_i es hes
    obtain ⟨p, vs, h1, h2, h3, h4⟩ := own_here a hes
    exact ⟨.ref p, h1, .inl ⟨p, vs, rfl, .inl (.inl h3), hK ▸ q (Itl c.K p) w rfl (Grow.refl a.ok) (itc_own h2 h3 h4)⟩⟩
  · rename_i y hy
    obtain ⟨v, h1, h2⟩ := a.env.val _ _ hy
    refine ⟨v, h1, ?_⟩
    unfold iterE at q
    split at q
    · obtain ⟨a', xs, rfl, s1, a1⟩ := h2.isLst'
      exact .inl ⟨a', xs, rfl, hK ▸ sqL_vis s1.sqL, hK ▸ q _ w rfl (Grow.refl a.ok) (itd_list s1 a1).toC⟩
    · obtain ⟨a', xs, rfl, s1, a1⟩ := h2.isTup
      exact .inr (.inl ⟨a', xs, rfl, hK ▸ sqT_vis s1, hK ▸ q _ w rfl (Grow.refl a.ok) (itd_tup s1 a1).toC⟩)
    · obtain rfl := h2.isStr
      exact .inr (.inr ⟨_, rfl, q _ w rfl (Grow.refl a.ok) itd_str.toC⟩)
    · rename_i k
      unfold scrGo at q
      split at q
      · rename_i ns e
        have e := scrOf_eq e
        rw [e] at h2
        obtain ⟨a', rfl, s1⟩ := h2.isScr
        exact .inl ⟨a', _, rfl, hK ▸ sqL_vis s1, hK ▸ q _ w rfl (Grow.refl a.ok) (itd_scr s1).toC⟩
      · exact q.elim
    · exact q.elim
  · exact q.elim
end
def SpDL (K : PySem.W.Frag) (mg : Str → Option Value) (DP : Nat → Hp → List V → Prop) (n : Nat) (F : List D → R (List D)) : Sp := fun vs H Q E => vs.length = n ∧ ∃ S dk ds fu, 
  WOk ⟨K, mg, DP, S, dk, H⟩ ⟨[], [], H, fu⟩ ∧ RpAll K dk (hide S H) vs ds ∧ (F ds).wp fu
    (fun fu' d => ∀ p us w', w'.fu = fu' → w'.fu ≤ fu → WOk ⟨K, mg, DP, S, dk, H⟩ w' → p ∈ w'.O → w'.H p = some (.lst us) → RpsW ⟨K, mg, DP, S, dk, H⟩ w' us d → Q (.ref p) w'.H)
    (fun fu' er => ∀ cls dd w', w'.fu = fu' → w'.fu ≤ fu → WOk ⟨K, mg, DP, S, dk, H⟩ w' → ErOk ⟨K, mg, DP, S, dk, H⟩ w' cls dd er → E cls dd w'.H)
section
variable {X : Cx} {c : Base} {W : WX} {w w' w1 w2 : Wd} {σ : L2.St} {env : Env}
def backL (w w' : Wd) (p : Addr) : Wd := { O := p :: w.O, nk := w'.nk ++ w.nk, H := w'.H, fu := w'.fu }
theorem backL_vis {p : Addr} (hp : p ∈ w'.O) : ∀ a o, (c0 c (c.hid w) (c.dks w) w.H).vis w' a = some o → c.vis (backL w w' p) a = some o := fun a o h => by
  obtain ⟨h1, h2⟩ := hide_some.mp h
  refine hide_some.mpr ⟨fun z => h1 ?_, h2⟩
  have z : a ∈ (p :: w.O) ++ ((w'.nk ++ w.nk) ++ c.S) := z
  show a ∈ w'.O ++ (w'.nk ++ (w.O ++ (w.nk ++ c.S)))
  simp only [List.mem_append, List.mem_cons] at z ⊢
  rcases z with (z | z) | (z | z) | z
  · exact .inl (z ▸ hp)
  · exact .inr (.inr (.inl z))
  · exact .inr (.inl z)
  · exact .inr (.inr (.inr (.inl z)))
  · exact .inr (.inr (.inr (.inr z)))
theorem backL_ok (k : WOk c w) (k' : WOk (c0 c (c.hid w) (c.dks w) w.H) w') (lf : w'.fu ≤ w.fu) {p : Addr} (hp : p ∈ w'.O) : WOk c (backL w w' p) := by
  have B := (callee_out k k' lf).ok
  have hn : w.H p = none := k'.Of p hp
  refine ⟨B.dS, B.SH, B.keep0, B.free0, B.nkf, fun a h => ?_, fun a h => ?_, fun a h z => ?_, fun a h => ?_, B.mono, B.fb⟩
  · rcases List.mem_cons.mp h with h | h
    · rw [h]; exact k.free0 _ hn
    · exact B.Of _ h
  · rcases List.mem_cons.mp h with h | h
    · rw [h]; exact k'.Oh _ hp
    · exact B.Oh _ h
  · rcases List.mem_cons.mp h with h | h
    · subst h
      rcases List.mem_append.mp (show a ∈ w'.nk ++ w.nk from z) with z | z
      · exact k'.dis _ hp z
      · obtain ⟨vs, e, _⟩ := k.deck a (List.mem_append_left _ z)
        rw [hn] at e; cases e
    · exact B.dis _ h z
  · have h : a ∈ c.dks (back w w') := h
    rw [back_dks] at h
    obtain ⟨vs, e1, e2⟩ := k'.deck a h
    exact ⟨vs, e1, k.mono _ _ _ _ _ (Nat.le_refl _) (backL_vis hp) e2⟩
theorem backL_rps {v : List V} {d : List D} {p : Addr} (hp : p ∈ w'.O) (h : RpsW (c0 c (c.hid w) (c.dks w) w.H) w' v d) : RpsW c (backL w w' p) v d := by
  refine h.mono (backL_vis hp) fun a h => ?_
  have e : c.dks (backL w w' p) = (c0 c (c.hid w) (c.dks w) w.H).dks w' := back_dks
  rw [e]; exact h
end
section
variable {X : Cx} {c : Base} {W : WX} {k n : Nat} {f : Addr} {fd : FuncData} {ps ks : List Str} {F : List D → R (List D)} {x : Str} {p pos : Pos} {e : Expr} {es : List Expr} {kws : List Keyword} {fr fk : Env → R (List D)}
def callL (n : Nat) (F : List D → R (List D)) (fr : Env → R (List D)) : Env → R (List D) := fun env => (fr env).bind fun ds => guard' (decide (ds.length = n)) (F ds)
theorem dl_call (FO : FnG X.prog X.w X.K X.mg X.base (L2.CX X.prog X.w) k f fd ps (SpDL c.K c.mg c.DP n F)) (hr : Room k X.A) (hgu : X.A.guards = some []) (hg : Gl X x) (hm : X.mg x = some (.ref f)) (hk : PySem.W.keepIn X.K (.ref f) = true) (hb : Binds X.K fd ps []) (tk : Takes X W)
    (ha : PA X (e :: es) (liftA c W fr)) (hdb : (x == ("__debug__" : Str)) = false := by decide) (he : starEach (e :: es) X.env = (false, eval e X.env) :: starEach es X.env := by rfl) (hpl : (backTo pos (starEach es X.env)).any (·.1) = false := by rfl) :
    PE X (.Call (.Name x p) (e :: es) [] pos) (liftL c W (callL n F fr)) :=
  pe_imp (pe_callG (E := WE W) FO hr hgu hg hm hk hb (fun σ => passAt tk σ) ha hdb he hpl) fun σ H Q ⟨w, env, a, q⟩ => by
    refine ⟨w, env, a, R.wp_mono (wp_b q) (fun fu ds hx vs w1 e1 g1 r1 => ?_) fun _ _ h => h⟩
    subst e1
    obtain ⟨h1, h2⟩ := wp_guard.mp hx
    refine ⟨by rw [r1.len]; exact of_decide_eq_true h1, c.hid w1, c.dks w1, ds, w1.fu, callee_in g1.ok, r1, R.wp_mono h2 (fun fu ls hd p us w' e1 lf k' hp he r' => ?_) fun fu er he cls dd w' e1 lf k' e => ?_⟩
    · have go := callee_out g1.ok k' lf
      refine hd p us (backL w1 w' p) e1 (by show p :: w1.O = _; rw [g1.O]) (g1.free _ (k'.Of p hp)) he (backL_ok g1.ok k' lf hp) ?_ (backL_rps hp r')
      have e : ({ backL w1 w' p with O := w.O } : Wd) = back w1 w' := by unfold backL back; rw [g1.O]
      rw [e]; exact g1.trans a.ok go
    · exact he cls dd (back w1 w') e1 (g1.trans a.ok (callee_out g1.ok k' lf)) (back_er e)
end
section
variable {P : Program} {w : World} {K : PySem.W.Frag} {mg : Str → Option Value} {base : Heap} {DP : Nat → Hp → List V → Prop}
theorem fn_DL {x qual : Str} {st : Stmt} {f : Addr} {fd : FuncData} {N ps : List Str} {k n m : Nat} {fb : Env → R Out} (F : Fun K x qual st f fd) (S : FnScope N ps (defScope st)) (hn : N.length = n) (hm : ps.length = m)
    (hb : ∀ (cdv : Value) (A : Around) (outer : List PySem.Env) (s : Shared) (H : Hp) (E : XK) (S' dk : List Addr), Room k (A.deeper (envOfC qual (defScope st) s.heap.objs.size f cdv)) → A.guards = some [] →
      PSs (cxOf (L2.CX P w) P w K mg base N qual (defScope st) f cdv A outer s H E) (defBody st) (liftS ⟨K, mg, DP, S', dk, H⟩ (fun cls d _ H => E cls d H) fb)) :
    FnG P w K mg base (L2.CX P w) (k + 1) f fd ps (SpDL K mg DP m (defL n fb)) := by
  refine Fun.okG F S (fun vs H Q E h => h.1.trans hm.symm) fun cdv A outer s H vs Q E hr hgu ⟨hl, S', dk, ds, fu, k0, r, q⟩ => ⟨_, hb cdv A outer s H E S' dk hr hgu, ?_⟩
  refine ⟨⟨[], [], H, fu⟩, startE n ds, ⟨rfl, k0, start_ok hn r⟩, R.wp_mono (wp_bo q) (fun fu1 o h => ?_) fun _ er h => h⟩
  cases o with
  | nx e => exact h.elim
  | rt d => exact h.elim
  | rl l => exact h
  | bk e => exact h.elim
  | ct e => exact h.elim
  | ex e er => exact fun cls dd σ' w' ef k' _ l er' => (show ∀ cls dd w', w'.fu = fu1 → w'.fu ≤ fu → WOk ⟨K, mg, DP, S', dk, H⟩ w' → ErOk ⟨K, mg, DP, S', dk, H⟩ w' cls dd er → E cls dd w'.H from h) cls dd w' ef l.fu k' er'
end
end DL
namespace J
open PySem PySem.Spec PyProof.Rows L2
section
variable {prog : Program} {w : World} {A : Around} {s : Shared} {E : Value → Shared → Prop}
theorem adjust_rev (n : Nat) : Builtin.Slice.sliceAdjust none none (-1) (n : Int) = ((n : Int) - 1, -1) := by
  unfold Builtin.Slice.sliceAdjust
  simp
theorem places_rev (n : Nat) : Builtin.Slice.slicePlaces ((n : Int) - 1) (-1) (-1) = n := by
  unfold Builtin.Slice.slicePlaces
  simp
  omega
theorem sliceApplied_rev {sl : Addr} {vl vu vs : Value} {n : Nat} {Q : Int × Int × Nat → Shared → Prop} (hs : s.heap.IsSliceOf sl vl vu vs) (pl : IsPart vl none) (pu : IsPart vu none) (ps : IsPart vs (some (-1)))
    (h : Q ((n : Int) - 1, -1, n) s) : wpAny (model prog w) A (Builtin.Slice.sliceApplied (.ref sl) (pure (n : Int))) Q E s := by
  obtain ⟨os, hos, hcs, hds⟩ := id hs
  unfold Builtin.Slice.sliceApplied Builtin.Slice.sliceFields
  refine wpAny_bind (wpAny_bind (wpAny_field hos hds (x := vl) rfl (wpAny_bind (wpAny_field hos hds (x := vu) rfl (wpAny_bind (wpAny_field hos hds (x := vs) rfl (wpAny_pure ?_)))))))
  refine wpAny_bind (HT.slicePart_ ps ?_)
  show wpAny _ _ (if ((-1 : Int) == 0) = true then _ else _) _ _ s
  rw [if_neg (by decide)]
  refine wpAny_bind (HT.slicePart_ pl (wpAny_bind (HT.slicePart_ pu (wpAny_bind (wpAny_pure ?_)))))
  show wpAny _ _ (match Builtin.Slice.sliceAdjust none none (-1) (n : Int) with | (lo, hi) => pure (lo, (-1 : Int), Builtin.Slice.slicePlaces lo hi (-1))) _ _ s
  rw [adjust_rev n]
  show wpAny _ _ (pure ((n : Int) - 1, (-1 : Int), Builtin.Slice.slicePlaces ((n : Int) - 1) (-1) (-1))) _ _ s
  rw [places_rev]
  exact wpAny_pure h
theorem pick_rev (xs : Array Value) : ((List.range xs.size).filterMap fun (m : Nat) => xs[(((xs.size : Nat) : Int) - 1 + (m : Int) * (-1)).toNat]?).toArray = xs.toList.reverse.toArray := by
  congr 1
  have e : ((List.range xs.size).filterMap fun (m : Nat) => xs[(((xs.size : Nat) : Int) - 1 + (m : Int) * (-1)).toNat]?) = ((List.range xs.size).map fun k => xs.size - 1 - k).filterMap fun k => xs[k]? := by
    rw [List.filterMap_map]
    have gen : ∀ (l : List Nat) (f g : Nat → Option Value), (∀ m ∈ l, f m = g m) → l.filterMap f = l.filterMap g := by
      intro l f g
      induction l with
      | nil => intro _; rfl
      | cons a l ih =>
        intro h
        rw [List.filterMap_cons, List.filterMap_cons, h a (List.mem_cons_self), ih fun m hm => h m (List.mem_cons_of_mem _ hm)]
    refine gen _ _ _ fun m hm => ?_
    have := List.mem_range.mp hm
    show _ = xs[xs.size - 1 - m]?
    congr 1
    omega
  rw [e, PySem.W.krv_range, List.filterMap_reverse, PySem.W.krv_all]
theorem getItem_tuple_rev {t sl : Addr} {items : Array Value} {vl vu vs : Value} {Q : Value → Shared → Prop} (ht : IsTup s.heap t items) (hs : s.heap.IsSliceOf sl vl vu vs) (pl : IsPart vl none) (pu : IsPart vu none) (ps : IsPart vs (some (-1)))
    (h : Q (.ref s.heap.objs.size) { s with heap := s.heap.push { cls := .type "tuple", data := .seq items.toList.reverse.toArray } })
    (hsz : items.size ≤ sizeLine) : wpAny (model prog w) A (getItem (.ref t) (.ref sl)) Q E s := by
  have htake : sizeOk (.seq items.toList.reverse.toArray) := by
    show items.toList.reverse.toArray.size ≤ sizeLine
    rw [List.size_toArray, List.length_reverse, Array.length_toList]
    omega
  obtain ⟨os, hos, hcs, hds⟩ := id hs
  have hTs : s.TypeIs (.ref sl) "slice" := ⟨os, hos, hcs⟩
  unfold getItem
  try with_reducible refine wpAny_holding ?_
  first | refine wpAny_bind (wpAny_pure ?_) | skip
  refine wpAny_bind (wpAny_sequenceKey ht.typeIs (by decide) ?_)
  refine wpAny_bind (wpAny_callSpecial?_slot (name := Str.ofString "__getitem__") ht.typeIs PyProof.Rows.slot_tuple_getitem
    (wpAny_call_entry PyProof.Rows.slot_tuple_getitem ht.typeIs entry_tuple_getitem ?_ (args_tuple_getitem _ _)))
  show wpAny _ _ (Builtin.Tuple.tupleItemsOf (.ref t) >>= _) _ _ s
  refine wpAny_bind (tupleItemsOf_ ht ?_)
  refine wpAny_bind (wpAny_typeOf hTs ?_)
  rw [if_pos (by decide)]
  refine wpAny_bind (sliceApplied_rev hs pl pu ps ?_)
  have hno : ¬ ((((items.size : Int) - 1) == 0 && (-1 : Int) == 1 && items.size == items.size) = true) := by
    intro q
    rw [Bool.and_eq_true, Bool.and_eq_true] at q
    have := q.1.2
    revert this; decide
  show wpAny _ _ (if (((items.size : Int) - 1) == 0 && (-1 : Int) == 1 && items.size == items.size) = true then _ else _) _ _ s
  rw [if_neg hno, pick_rev]
  first
    | exact wpAny_bind (m := Builtin.Tuple.tupleExact _) (wpAny_newObj_type (wpAny_pure ⟨_, rfl, wpAny_pure h⟩) htake)
    | exact wpAny_bind (m := Builtin.Tuple.tupleExact _) (wpAny_newObj_type (wpAny_bind (wpAny_pure (wpAny_pure ⟨_, rfl, wpAny_pure h⟩))) htake)
    | exact wpAny_bind (wpAny_bind (m := Builtin.Tuple.tupleExact _) (wpAny_newObj_type (wpAny_pure (wpAny_pure ⟨_, rfl, wpAny_pure h⟩)) htake))
    | exact wpAny_bind (wpAny_bind (m := Builtin.Tuple.tupleExact _) (wpAny_newObj_type (wpAny_pure ⟨_, rfl, wpAny_pure h⟩) htake))
end
/-- t[::-1] of a tuple -/
def RevB (K : PySem.W.Frag) (x : V) (H : Hp) (Q : VK) : Prop := ∃ a xs, x = .ref a ∧ SqT K H a xs ∧ ∀ p, H p = none → Q (.ref p) (upd H p (.tup xs.reverse))
def tRevT (K : PySem.W.Frag) (te : TE) : TE := fun σ H Q => te σ H fun x H1 => RevB K x H1 Q
theorem pe_revT {X : Cx} {e : Expr} {te : TE} {k : Nat} {p1 p2 p3 pos : Pos} (he : PE X e te) : PE X (.Subscript e (.Slice none none (some (.UnaryOp .USub (.Constant (.int 1) k p1) p2)) p3) pos) (tRevT X.K te) := by
  refine ⟨fun pins s σ H Q I h => ?_⟩
  refine Subscript_ (thn (he.run pins s σ H _ I h) fun v s1 ⟨x, H1, I1, r1, q1⟩ => ?_)
  obtain ⟨a, xs, ex, hx, q⟩ := q1
  subst ex
  cases r1
  have hst : PO X (some (.UnaryOp .USub (.Constant (.int 1) k p1) p2)) (tPart (tUn (rU fun i => .int (-i)) (tC (.int 1)))) := po_some (pe_un un_neg pe_int)
  refine wpAny_Slice (thn (po_none.run pins s1 σ H1 (fun o H2 => o = none ∧ H2 = H1) I1 ⟨rfl, rfl⟩) fun vl s2 ⟨l, H2, I2, pl, el, e2⟩ => ?_)
  subst el e2
  refine thn (po_none.run pins s2 σ H2 (fun o H3 => o = none ∧ H3 = H2) I2 ⟨rfl, rfl⟩) fun vu s3 ⟨u, H3, I3, pu, eu, e3⟩ => ?_
  subst eu e3
  refine thn (hst.run pins s3 σ H3 (fun o H4 => o = some (-1) ∧ H4 = H3) I3 ⟨1, rfl, -1, rfl, rfl, rfl⟩) fun vs s4 ⟨o, H4, I4, ps, eo, e4⟩ => ?_
  subst eo e4
  have I5 : Inv X pins σ H4 { s4 with heap := s4.heap.push { cls := .type "slice", data := .fields #[vl, vu, vs] } } := I4.kept (t' := s4.toks) fun b ob q => Heap.get?_push_of_some _ q
  obtain ⟨its, r, ht, hz⟩ := I5.tuple hx
  have hlen := r.length
  show wpAny (model X.prog X.w) X.A (subscriptTail e (.Slice none none (some (.UnaryOp .USub (.Constant (.int 1) k p1) p2)) p3) (.ref a) (.ref s4.heap.objs.size)) (EP X pins σ Q) X.xe { s4 with heap := s4.heap.push { cls := .type "slice", data := .fields #[vl, vu, vs] } }
  refine tail_any (ops := [.ref a, .ref s4.heap.objs.size]) ht.typeIs PyProof.Rows.slot_tuple_getitem.lookup ?_ (by with_unfolding_all rfl)
  refine getItem_tuple_rev ht (Heap.IsSliceOf.new _ vl vu vs) pl pu ps ?_ (by rw [List.size_toArray]; omega)
  refine ⟨.ref _, _, I5.laid (t' := s4.toks) (o := .tup xs.reverse) (fun b ob q => Heap.get?_push_of_some _ q) (Nat.le_refl _) ?_, rfl, q _ (I5.hok.fresh (Nat.le_refl _))⟩
  exact ⟨by rw [List.length_reverse]; exact hz, _, r.reverse, IsTup.new _ _⟩
theorem w_revT {K : PySem.W.Frag} {te : TE} {σ : L2.St} {H : Hp} {Q : VK} (h : te σ H fun x H1 => RevB K x H1 Q) : tRevT K te σ H Q := h
theorem w_par {i j : Nat} {ta : TA} {D : Ends} {σ : L2.St} {H : Hp} (h : ta σ H fun vs H1 => ∃ v w, vs = [v, w] ∧ D.nx ((σ.set i (some v)).set j (some w)) H1) : tPar i j ta D σ H := h
theorem w_rev {K : PySem.W.Frag} {H : Hp} {Q : VK} {a : Addr} {xs : List V} (h : SqT K H a xs) (q : ∀ l H2, H l = none → Ex H H2 → H2 l = some (.tup xs.reverse) → Q (.ref l) H2) : RevB K (.ref a) H Q :=
  ⟨a, xs, rfl, h, fun p hp => q p _ hp (Ex.new hp) upd_same⟩
/-- divmod, slices of texts -/
def rDivmod : List V → Hp → VK → Prop := fun xs H Q => ∃ i j, xs = [.int i, .int j] ∧ CDiv i j ∧ ∀ p, H p = none → Q (.ref p) (upd H p (.tup [.int (i / j), .int (i % j)]))
theorem c_divmod {X : Cx} : CallR X (.builtin "divmod") rDivmod := call_divmod
theorem w_divmod {i j : Int} {H : Hp} {Q : VK} (h0 : 0 < j) (h1 : j < 1073741824) (q : ∀ p H2, H p = none → Ex H H2 → H2 p = some (.tup [.int (i / j), .int (i % j)]) → Q (.ref p) H2) : rDivmod [.int i, .int j] H Q :=
  ⟨i, j, rfl, ⟨h0, h1⟩, fun p hp => q p _ hp (Ex.new hp) upd_same⟩
theorem w_slS {z : Str} {k : Int} {H : Hp} {Q : VK} (hz : z.length ≤ sizeLine) (h0 : 0 ≤ k) (h1 : k ≤ z.length) (q : Q (.str ⟨(z.cps.toList.take k.toNat).toArray⟩) H) : rSlS (.str z) none (some k) H Q := by
  refine ⟨z, rfl, hz, ?_⟩
  have e0 : HT.sIx z.length 0 none = 0 := HT.sIx_none ..
  have e1 : HT.sIx z.length z.length (some k) = k.toNat := by
    rw [show k = ((k.toNat : Nat) : Int) by omega, HT.sIx_nat]; omega
  unfold cutS
  rw [e0, e1]
  exact q
def LRg (x y : V) (H : Hp) (Q : VK) : Prop := ∃ i j, x = .int i ∧ y = .int j ∧ RgOk i j ∧ ∀ q, H q = none → Q (.ref q) (upd H q (.lst (rgV i j)))
theorem w_listRg2 {ta tb : TE} {σ : L2.St} {H : Hp} {Q : VK} (h : ta σ H fun x H1 => tb σ H1 fun y H2 => LRg x y H2 Q) : tLstRg (tRg2 ta tb) σ H Q := h
theorem w_lrg {i j : Int} {H : Hp} {Q : VK} (h : RgOk i j) (q : ∀ l H2, H l = none → Ex H H2 → H2 l = some (.lst (rgV i j)) → Q (.ref l) H2) : LRg (.int i) (.int j) H Q :=
  ⟨i, j, rfl, rfl, h, fun p hp => q p _ hp (Ex.new hp) upd_same⟩
theorem w_lcR2 {g : TG} {tt : TT} {te : TE} {vs : List Nat} {σ : L2.St} {H : Hp} {Q : VK} {i j : Int} (h0 : -(2 ^ 62) ≤ i ∧ i < 2 ^ 62 ∧ -(2 ^ 62) ≤ j ∧ j < 2 ^ 62) (h : LcB (Itr i (j - i).toNat) g tt te vs σ H Q) : ∃ i' j' : Int, [V.int i, V.int j] = [.int i', .int j'] ∧ (-(2 ^ 62) ≤ i' ∧ i' < 2 ^ 62 ∧ -(2 ^ 62) ≤ j' ∧ j' < 2 ^ 62) ∧ LcB (Itr i' (j' - i').toNat) g tt te vs σ H Q := ⟨i, j, rfl, h0, h⟩
end J
namespace DL
open PySem PySem.Spec PyProof.Rows L2
def SetIO (w : World) (a : Addr) (S : Int → Bool) (n : Nat) : HO := .ext fun h => SetR w h a S n
theorem setIO_new {w : World} {P : Program} {H : Hp} {h : Heap} {a : Addr} {S : Int → Bool} {n : Nat} (R : SetR w h a S n) : ObjOk P w H h a (SetIO w a S n) := by
  have ⟨o, _, _, _, ho, _⟩ := R
  exact ⟨R, ⟨o, ho⟩, fun h1 h2 p k => SetR.at p k⟩
def insU (i : Int) : List Int → List Int
  | [] => [i]
  | j :: r => if i < j then i :: j :: r else if i = j then j :: r else j :: insU i r
def usort : List Int → List Int
  | [] => []
  | i :: r => insU i (usort r)
theorem mem_insU {i k : Int} : ∀ {l : List Int}, k ∈ insU i l ↔ k = i ∨ k ∈ l
  | [] => by simp [insU]
  | j :: r => by
    unfold insU
    split
    · simp
    · split
      · rename_i h; subst h; simp
      · rw [List.mem_cons, mem_insU, List.mem_cons]
        constructor
        · rintro (h | h | h)
          · exact .inr (.inl h)
          · exact .inl h
          · exact .inr (.inr h)
        · rintro (h | h | h)
          · exact .inr (.inl h)
          · exact .inl h
          · exact .inr (.inr h)
theorem mem_usort {k : Int} : ∀ {l : List Int}, k ∈ usort l ↔ k ∈ l
  | [] => Iff.rfl
  | i :: r => by
    show k ∈ insU i (usort r) ↔ _
    rw [mem_insU, mem_usort, List.mem_cons]
theorem insU_up {i : Int} : ∀ {l : List Int}, l.Pairwise (· < ·) → (insU i l).Pairwise (· < ·)
  | [], _ => by simp [insU]
  | j :: r, h => by
    obtain ⟨h1, h2⟩ := List.pairwise_cons.mp h
    unfold insU
    split
    · rename_i hi
      refine List.pairwise_cons.mpr ⟨fun x hx => ?_, h⟩
      rcases List.mem_cons.mp hx with e | hx
      · omega
      · have := h1 x hx; omega
    · split
      · exact h
      · refine List.pairwise_cons.mpr ⟨fun x hx => ?_, insU_up h2⟩
        rcases mem_insU.mp hx with e | hx
        · omega
        · exact h1 x hx
theorem usort_up : ∀ {l : List Int}, (usort l).Pairwise (· < ·)
  | [] => List.Pairwise.nil
  | i :: r => insU_up usort_up
theorem up_same : ∀ {l m : List Int}, l.Pairwise (· < ·) → m.Pairwise (· < ·) → (∀ k, k ∈ l ↔ k ∈ m) → l = m
  | [], [], _, _, _ => rfl
  | [], x :: m, _, _, h => by have := (h x).mpr List.mem_cons_self; cases this
  | x :: l, [], _, _, h => by have := (h x).mp List.mem_cons_self; cases this
  | x :: l, y :: m, hl, hm, h => by
    obtain ⟨a1, a2⟩ := List.pairwise_cons.mp hl
    obtain ⟨b1, b2⟩ := List.pairwise_cons.mp hm
    have e : x = y := by
      rcases List.mem_cons.mp ((h x).mp List.mem_cons_self) with e | e
      · exact e
      rcases List.mem_cons.mp ((h y).mpr List.mem_cons_self) with e' | e'
      · exact e'.symm
      have := b1 x e
      have := a1 y e'
      omega
    subst e
    have : l = m := up_same a2 b2 fun k => by
      constructor
      · intro hk
        rcases List.mem_cons.mp ((h k).mp (List.mem_cons_of_mem _ hk)) with e | e
        · have := a1 k hk; omega
        · exact e
      · intro hk
        rcases List.mem_cons.mp ((h k).mpr (List.mem_cons_of_mem _ hk)) with e | e
        · have := b1 k hk; omega
        · exact e
    rw [this]
theorem usort_of_up {l : List Int} (h : l.Pairwise (· < ·)) : usort l = l := up_same usort_up h fun _ => mem_usort
section
variable {X : Cx}
def rSetI (K : PySem.W.Frag) (w : World) : List V → Hp → VK → Prop := fun xs H Q => ∃ (p : Addr) (ns : List Int), xs = [V.ref p] ∧ SqT K H p (ns.map V.int) ∧ ns.length ≤ 1000 ∧
  ∀ (a : Addr) (S : Int → Bool) (n : Nat), H a = none → (∀ k, S k = decide (k ∈ ns)) → n ≤ ns.length → Q (.ref a) (upd H a (SetIO w a S n))
theorem cr_setI (hc : X.calm = true) : CallR X (.type "set") (rSetI X.K X.w) := by
  intro pins s σ H xs us Q I r h
  obtain ⟨p, ns, rfl, hq, hl, q⟩ := h
  rw [Vals.ref1 r]
  obtain ⟨its, rv, pt, hz⟩ := I.tuple hq
  have hi : IntsAre its.toArray.toList ns := ints_of_vals rv
  have hn : H s.heap.objs.size = none := I.hok.fresh (Nat.le_refl _)
  refine call_set_tupI ns (I.ok.hd hc) (show s.heap.IsTuple p its.toArray from pt) hi (by unfold scanBound; omega) fun h' tk n R1 hcn k => ?_
  exact ⟨.ref s.heap.objs.size, upd H s.heap.objs.size (SetIO X.w s.heap.objs.size _ n), I.laid (t' := tk) k (Nat.le_refl _) (setIO_new R1), rfl, q _ _ n hn (fun _ => rfl) hcn⟩
def rSortSetI (w : World) : List V → Hp → VK → Prop := fun xs H Q => ∃ (a : Addr) (S : Int → Bool) (n : Nat), xs = [V.ref a] ∧ H a = some (SetIO w a S n) ∧ n < 64 ∧
  ∀ (p : Addr) (out : List Int), H p = none → out.Pairwise (· < ·) → (∀ k, k ∈ out ↔ S k = true) → Q (.ref p) (upd H p (.lst (out.map V.int)))
theorem cr_sortSetI (hc : X.calm = true) : CallR X (.builtin "sorted") (rSortSetI X.w) := by
  intro pins s σ H xs us Q I r h
  obtain ⟨a, S, n, rfl, ha, h64, q⟩ := h
  have R0 : SetR X.w s.heap a S n := (I.hok a _ ha).1
  rw [Vals.ref1 r]
  refine sorted_set R0 (I.ok.hd hc) h64 fun s' p out c ns k g o hp hg hout pw hm hln => ?_
  have hlen : (ns.map V.int).length ≤ sizeLine := by rw [List.length_map, sizeLine_eq]; omega
  have hn : H p = none := I.hok.fresh hp
  have hv : Vals (ns.map V.int) out.toList := vals_of_ints hout
  have J : Inv X pins σ (upd H p (.lst (ns.map V.int))) { s with heap := s'.heap, gens := s'.gens, drawn := s'.drawn, toks := s'.toks } :=
    I.call (ch := []) (Un.laid k hp hn) (I.hok.laid k hp ⟨hlen, out.toList, c, hv, hg⟩) (by rw [g]; exact I.bare) (fun _ z => nomatch z)
  have e : s' = { s with heap := s'.heap, gens := s'.gens, drawn := s'.drawn, toks := s'.toks } := by
    cases s'
    cases s
    cases o
    rfl
  rw [e]
  exact ⟨.ref p, _, J, rfl, q p ns hn pw hm⟩
end
def setIntsD (x : D) : R (List Int) := match x with
  | .tuple ds => match intsOf ds with
    | some ns => guard' (decide (ns.length < 64)) (.ret ns)
    | none => .bad
  | _ => .bad
/-- sorted(set(x)), x a tuple of few ints -/
def sortSetF (fa : Env → R D) : Env → R (List D) := fun env => (fa env).bind fun x => (setIntsD x).bind fun ns => .ret ((usort ns).map PyData.int)
section
variable {X : Cx} {c : Base} {W : WX} {w w' w1 w2 : Wd} {σ : L2.St} {env : Env} {e a b d : Expr} {fa fb fc : Env → R D}
theorem setInts_wp {x : D} {v : V} {fu : Nat} {Q : Nat → List Int → Prop} {E : Nat → Er → Prop} (r : RpW c w v x) (h : (setIntsD x).wp fu Q E) : ∃ p ns, v = .ref p ∧ SqT c.K w.H p (ns.map V.int) ∧ ns.length < 64 ∧ Q fu ns := by
  unfold setIntsD at h
  split at h
  · split at h
    · rename_i ds ns e
      obtain ⟨h1, h2⟩ := wp_guard.mp h
      obtain ⟨p, xs, rfl, s1, a1⟩ := r.isTup
      have e := intsOf_map e
      subst e
      obtain rfl := rpInts a1
      exact ⟨p, ns, rfl, sqT_vis s1, of_decide_eq_true h1, h2⟩
    · exact h.elim
  · exact h.elim
theorem dl_sortSet (hK : c.K = X.K) (h : PE X e (tCB (rSortSetI X.w) (L2.tCons (tCB (rSetI X.K X.w) (L2.tCons (liftE c W fa) L2.tNil)) L2.tNil))) : PE X e (liftL c W (sortSetF fa)) := pe_imp h fun σ H Q ⟨w, env, a, q⟩ => by
  refine ⟨w, env, a, R.wp_mono (wp_b q) (fun fu x hx v w1 e1 g1 r1 => ?_) fun _ _ h => h⟩
  subst e1
  obtain ⟨p, ns, rfl, s1, hl, q1⟩ := setInts_wp r1 (wp_b hx)
  refine ⟨p, ns, rfl, hK ▸ s1, by omega, fun b S n hb hS hn => ?_⟩
  have g2 := g1.trans a.ok (Grow.new (o := SetIO X.w b S n) g1.ok hb)
  refine ⟨b, S, n, rfl, upd_same, by omega, fun p2 out hp2 hup hmem => ?_⟩
  have eo : out = usort ns := up_same hup usort_up fun k => by rw [hmem k, hS k, mem_usort, decide_eq_true_eq]
  subst eo
  have hv : RpsW c { w1 with H := upd w1.H b (SetIO X.w b S n) } ((usort ns).map V.int) ((usort ns).map PyData.int) := RpAll.ints _
  exact own_new a g2 hv q1 p2 hp2
end
end DL
namespace DL
open PySem PySem.Spec PyProof.Rows L2
def keyOfD : D → Option Key
  | .int i => some (.inl i)
  | .str x => some (.inr x)
  | _ => none
def pairsD : List D → Option (List (Key × D))
  | [] => some []
  | .tuple [k, v] :: r => match keyOfD k, pairsD r with
    | some k, some m => some ((k, v) :: m)
    | _, _ => none
  | _ => none
def putD (kvs : List (Key × D)) (k : Key) (v : D) : List (Key × D) := if (kvs.any fun p => decide (p.1 = k)) = true then kvs.map (fun p => if p.1 = k then (p.1, v) else p) else kvs ++ [(k, v)]
def mergeD (kvs more : List (Key × D)) : List (Key × D) := more.foldl (fun acc p => putD acc p.1 p.2) kvs
def valD (kvs : List (Key × D)) (k : Key) : Option D := (kvs.find? fun p => decide (p.1 = k)).map (·.2)
def encD (kvs : List (Key × D)) : List (D × D) := kvs.map fun p => (kD p.1, p.2)
def decD : List (D × D) → Option (List (Key × D))
  | [] => some []
  | (k, v) :: r => match keyOfD k, decD r with
    | some k, some m => some ((k, v) :: m)
    | _, _ => none
theorem keyOf_kD (k : Key) : keyOfD (kD k) = some k := by cases k <;> rfl
theorem dec_enc : ∀ m : List (Key × D), decD (encD m) = some m
  | [] => rfl
  | (k, v) :: r => by
    show (match keyOfD (kD k), decD (encD r) with | some k, some m => some ((k, v) :: m) | _, _ => none) = _
    rw [keyOf_kD, dec_enc r]
section
variable {K : PySem.W.Frag} {dk : List Addr} {G : Hp}
inductive KR (K : PySem.W.Frag) (dk : List Addr) (G : Hp) : List (Key × V) → List (Key × D) → Prop
  | nil : KR K dk G [] []
  | cons {k : Key} {v : V} {d : D} {kvs : List (Key × V)} {ds : List (Key × D)} : Rp K dk G v d → KR K dk G kvs ds → KR K dk G ((k, v) :: kvs) ((k, d) :: ds)
theorem KR.enc : ∀ {kvs : List (Key × V)} {ds : List (Key × D)}, KR K dk G kvs ds → RpKV K dk G kvs (encD ds)
  | _, _, .nil => .nil
  | _, _, .cons h r => .cons h r.enc
theorem KR.of : ∀ {kvs : List (Key × V)} {ds : List (D × D)}, RpKV K dk G kvs ds → ∃ m, decD ds = some m ∧ KR K dk G kvs m
  | _, _, .nil => ⟨[], rfl, .nil⟩
  | _, _, .cons (k := k) (d := d) (ds := ds) h r => by
    obtain ⟨m, e, r'⟩ := KR.of r
    refine ⟨(k, d) :: m, ?_, .cons h r'⟩
    show (match keyOfD (kD k), decD ds with | some k, some m => some ((k, d) :: m) | _, _ => none) = _
    rw [keyOf_kD, e]
theorem KR.any {kvs : List (Key × V)} {ds : List (Key × D)} (h : KR K dk G kvs ds) (k : Key) : (kvs.any fun p => decide (p.1 = k)) = ds.any fun p => decide (p.1 = k) := by
  induction h with
  | nil => rfl
  | cons h r ih => rw [List.any_cons, List.any_cons, ih]
theorem KR.app {kvs lvs : List (Key × V)} {ds es : List (Key × D)} (h : KR K dk G kvs ds) (h2 : KR K dk G lvs es) : KR K dk G (kvs ++ lvs) (ds ++ es) := by
  induction h with
  | nil => exact h2
  | cons h r ih => exact .cons h ih
theorem KR.over {kvs : List (Key × V)} {ds : List (Key × D)} (h : KR K dk G kvs ds) {k : Key} {v : V} {d : D} (r : Rp K dk G v d) : KR K dk G (kvs.map (fun p => if p.1 = k then (p.1, v) else p)) (ds.map (fun p => if p.1 = k then (p.1, d) else p)) := by
  induction h with
  | nil => exact .nil
  | @cons k' v' d' kvs ds h1 h2 ih =>
    rw [List.map_cons, List.map_cons]
    by_cases e : k' = k
    · rw [if_pos e, if_pos e]; exact .cons r ih
    · rw [if_neg e, if_neg e]; exact .cons h1 ih
theorem KR.put {kvs : List (Key × V)} {ds : List (Key × D)} (h : KR K dk G kvs ds) {k : Key} {v : V} {d : D} (r : Rp K dk G v d) : KR K dk G (putK kvs k v) (putD ds k d) := by
  unfold putK putD
  rw [h.any k]
  split
  · exact h.over r
  · exact h.app (.cons r .nil)
theorem KR.merge {more : List (Key × V)} {es : List (Key × D)} (h : KR K dk G more es) : ∀ {kvs : List (Key × V)} {ds : List (Key × D)}, KR K dk G kvs ds → KR K dk G (mergeK kvs more) (mergeD ds es) := by
  induction h with
  | nil => exact fun h => h
  | cons h1 h2 ih => exact fun h => ih (h.put h1)
theorem KR.val {kvs : List (Key × V)} {ds : List (Key × D)} (h : KR K dk G kvs ds) (k : Key) : (valV kvs k = none ∧ valD ds k = none) ∨ ∃ v d, valV kvs k = some v ∧ valD ds k = some d ∧ Rp K dk G v d := by
  unfold valV valD
  induction h with
  | nil => exact .inl ⟨rfl, rfl⟩
  | @cons k' v' d' kvs ds h1 h2 ih =>
    by_cases e : k' = k
    · right
      refine ⟨v', d', ?_, ?_, h1⟩
      · rw [List.find?_cons_of_pos (by simpa using e)]; rfl
      · rw [List.find?_cons_of_pos (by simpa using e)]; rfl
    · rw [List.find?_cons_of_neg (by simpa using e), List.find?_cons_of_neg (by simpa using e)]
      exact ih
theorem Rp.isDict {v : V} {ds : List (D × D)} {m : List (Key × D)} (h : Rp K dk G v (.dict ds)) (hm : decD ds = some m) : ∃ a kvs, v = .ref a ∧ G a = some (.dK kvs) ∧ KR K dk G kvs m := by
  generalize hd : PyData.dict ds = d at h
  cases h with
  | dct h r =>
    injection hd with hd
    subst hd
    obtain ⟨m', e, r'⟩ := KR.of r
    rw [hm] at e
    cases e
    exact ⟨_, _, rfl, h, r'⟩
  | scr h =>
    unfold scrD at hd
    injection hd with hd
    subst hd
    cases hm
  | deck h =>
    unfold deckD at hd
    injection hd with hd
    subst hd
    cases hm
  | _ => cases hd
theorem rp_key {v : V} {d : D} {k : Key} (h : Rp K dk G v d) (e : keyOfD d = some k) : v = kV k := by
  cases d with
  | int i => cases e; exact h.isInt
  | str x => cases e; exact h.isStr
  | _ => cases e
end
/-- d[y] -/
def gGetK (x y : D) : R D := match x with
  | .dict ds => match decD ds, keyOfD y with
    | some m, some k => match valD m k with
      | some d => .ret d
      | none => .bad
    | _, _ => .bad
  | _ => .bad
def gInK (neg : Bool) (x y : D) : R D := match y with
  | .dict ds => match decD ds, keyOfD x with
    | some m, some k => .ret (.bool (inB neg (valD m k).isSome))
    | _, _ => .bad
  | _ => .bad
/-- dict(t), t a tuple of pairs -/
def gDict (xs : List D) : R D := match xs with
  | [.tuple ps] => match pairsD ps with
    | some m => .ret (.dict (encD (mergeD [] m)))
    | none => .bad
  | _ => .bad
def rDGet : R2 := fun x y H Q => ∃ a v, x = .ref a ∧ DGet H a y (some v) ∧ Q v H
def rDIn : R2 := fun x y H Q => ∃ a o, y = .ref a ∧ DGet H a x o ∧ Q (.bl o.isSome) H
def rDNotIn : R2 := fun x y H Q => ∃ a o, y = .ref a ∧ DGet H a x o ∧ Q (.bl (!o.isSome)) H
section
variable {X : Cx}
theorem ix_dict (hu : X.A.units + 1 < cLine) : IxR X rDGet := by
  intro value slice pins s σ H x y v u Q I rx ry h hs
  obtain ⟨a, z, rfl, g, q⟩ := h
  obtain rfl : v = Value.ref a := rx
  exact tail_any (dict_typeIs I g) PySem.F.slot_dict_getitem.lookup (d_getItem hu I g ry fun w' s3 I3 rw' => ⟨z, H, I3, rw', q⟩) hs
theorem op_inK (hu : X.A.units + 1 < cLine) : OpR X (compareOp .In) rDIn := by
  intro pins s σ H x y v u Q I rx ry h
  obtain ⟨a, o, rfl, g, q⟩ := h
  obtain rfl : u = Value.ref a := ry
  exact L2.d_in hu I g rx fun s3 I3 => ⟨.bl o.isSome, H, I3, rfl, q⟩
theorem op_notInK (hu : X.A.units + 1 < cLine) : OpR X (compareOp .NotIn) rDNotIn := by
  intro pins s σ H x y v u Q I rx ry h
  obtain ⟨a, o, rfl, g, q⟩ := h
  obtain rfl : u = Value.ref a := ry
  exact L2.d_notIn hu I g rx fun s3 I3 => ⟨.bl (!o.isSome), H, I3, rfl, q⟩
end
theorem dk_get {c : Base} {w : Wd} {v u : V} {ds : List (D × D)} {y : D} {m : List (Key × D)} {k : Key} (r1 : RpW c w v (.dict ds)) (r2 : RpW c w u y) (hm : decD ds = some m) (hk : keyOfD y = some k) :
    ∃ a o, v = .ref a ∧ DGet w.H a u o ∧ ((o = none ∧ valD m k = none) ∨ ∃ z d, o = some z ∧ valD m k = some d ∧ RpW c w z d) := by
  obtain ⟨a, kvs, rfl, h, kr⟩ := r1.isDict hm
  obtain rfl := rp_key r2 hk
  refine ⟨a, valV kvs k, rfl, .inl ⟨kvs, k, .inl (vis_sub h), rfl, rfl⟩, ?_⟩
  rcases kr.val k with ⟨h1, h2⟩ | ⟨z, d, h1, h2, h3⟩
  · exact .inl ⟨h1, h2⟩
  · exact .inr ⟨z, d, h1, h2, h3⟩
theorem d_getK : OpD rDGet gGetK := fun c W σ w x y v u Q k r1 r2 h => by
  unfold gGetK at h
  split at h
  · split at h
    · rename_i ds m' key em ek
      split at h
      · rename_i d ed
        obtain ⟨a, o, rfl, g, z⟩ := dk_get r1 r2 em ek
        rcases z with ⟨_, e⟩ | ⟨z, d', e1, e2, e3⟩
        · rw [ed] at e; cases e
        · rw [ed] at e2
          cases e2
          subst e1
          exact ⟨a, z, rfl, g, PQ.here k h e3⟩
      · exact h.elim
    · exact h.elim
  · exact h.elim
theorem d_inK : OpD rDIn (gInK false) := fun c W σ w x y v u Q k r1 r2 h => by
  unfold gInK at h
  split at h
  · split at h
    · rename_i ds m' key em ek
      obtain ⟨a, o, rfl, g, z⟩ := dk_get r2 r1 em ek
      refine ⟨a, o, rfl, g, ?_⟩
      rcases z with ⟨e1, e2⟩ | ⟨z, d', e1, e2, e3⟩
      · subst e1; rw [e2] at h; exact PQ.here k h (.bl _)
      · subst e1; rw [e2] at h; exact PQ.here k h (.bl _)
    · exact h.elim
  · exact h.elim
theorem d_notInK : OpD rDNotIn (gInK true) := fun c W σ w x y v u Q k r1 r2 h => by
  unfold gInK at h
  split at h
  · split at h
    · rename_i ds m' key em ek
      obtain ⟨a, o, rfl, g, z⟩ := dk_get r2 r1 em ek
      refine ⟨a, o, rfl, g, ?_⟩
      rcases z with ⟨e1, e2⟩ | ⟨z, d', e1, e2, e3⟩
      · subst e1; rw [e2] at h; exact PQ.here k h (.bl _)
      · subst e1; rw [e2] at h; exact PQ.here k h (.bl _)
    · exact h.elim
  · exact h.elim
section
variable {X : Cx}
def rDictN (K : PySem.W.Frag) : List V → Hp → VK → Prop := fun xs H Q => ∃ (a : Addr) (ps : List Addr) (kvs : List (Key × V)), xs = [.ref a] ∧ SqN K H a (ps.map V.ref) ∧ Paired (fun p kv => SqT K H p [kV kv.1, kv.2]) ps kvs ∧
  ∀ p, H p = none → Q (.ref p) (upd H p (.dK (mergeK [] kvs)))
theorem seqN_at {pins : List (Addr × Obj)} {σ : L2.St} {H : Hp} {s : Shared} {a : Addr} {xs : List V} (I : Inv X pins σ H s) (h : SqN X.K H a xs) : ∃ (o : Obj) (its : List Value) (n : Nat), s.heap.get? a = some o ∧ o.cls = .type "tuple" ∧ o.dict = none ∧ o.data = .seq its.toArray n ∧ xs.length ≤ sizeLine ∧ Vals xs its := by
  rcases h with ⟨o, h, hd⟩ | ⟨o, its, n, h1, h2, h3, h4, h5, h6⟩
  · obtain ⟨ho, hz, its, rv, o', ho', hc, n, hdat⟩ := (show ObjOk X.prog X.w H s.heap a (.frz o (.tup xs)) from I.hok a _ h)
    rw [ho] at ho'
    cases ho'
    exact ⟨o, its, n, ho, hc, hd, hdat, hz, rv⟩
  · exact ⟨o, its.toList, n, I.kIn a o h1, h2, h3, by simpa using h4, by rw [h6.length]; simpa using h5, h6⟩
theorem c_dictN (hcalm : X.calm = true) : CallR X (.type "dict") (rDictN X.K) := by
  intro pins s σ H xs us Q I r q
  obtain ⟨a, ps, kvs, ex, hq, hp, q⟩ := q
  subst ex
  obtain ⟨u, eu, rx⟩ := vals1 r
  subst eu
  cases rx
  obtain ⟨o, its, n, ho, hc, hdn, hdat, hz, rv⟩ := seqN_at I hq
  have ei := refs_at rv
  subst ei
  rw [List.length_map] at hz
  obtain ⟨prs, rel, hl, hpr⟩ := pairs_of I hp
  obtain ⟨us, hul, hus⟩ := J.pairs_us (h := s.heap) prs ps hpr
  have P := PairArg.tuple (prog := X.prog) (w := X.w) a (ps.map Value.ref).toArray (fun j => ps.getD j 0) us
  refine PySem.call_dict_pairs (knd := mixKind X.prog X.w) (kvs := prs) P (I.ok.hd hcalm) ⟨⟨o, n, ho, hc, hdn, hdat⟩, ?_, fun j k v e => ?_⟩ ⟨hul.symm, fun j key v e => ?_⟩ (by rw [hul, hl]; exact hz) fun h' tk hd' k => ?_
  · simp [hul, hl]
  · have hj : j < prs.length := by rw [← hul]; exact (List.getElem?_eq_some_iff.mp e).1
    obtain ⟨b, u, e1, e2, e3, e4⟩ := hus j prs[j] (List.getElem?_eq_getElem hj)
    rw [e] at e2
    cases e2
    have eb : ps.getD j 0 = b := by rw [List.getD_eq_getElem?_getD, e1]; rfl
    show (ps.map Value.ref).toArray[j]? = some (Value.ref (ps.getD j 0)) ∧ PairAt s.heap (ps.getD j 0) k prs[j].2
    rw [eb]
    exact ⟨by simp [e1], .inl e3⟩
  · have hj : j < prs.length := by rw [← hul]; exact (List.getElem?_eq_some_iff.mp e).1
    obtain ⟨b, u, e1, e2, e3, e4⟩ := hus j prs[j] (List.getElem?_eq_getElem hj)
    have e2' : us[j]? = some (key, v) := e
    rw [e2'] at e2
    cases e2
    exact ⟨prs[j].1, List.getElem?_eq_getElem hj, e4⟩
  · have hm : (s.heap.objs.size == sysModules) = false := beq_eq_false_iff_ne.mpr (Nat.ne_of_gt I.big)
    have hlen : (mergeK [] kvs).length ≤ sizeLine := by
      refine Nat.le_trans (length_mergeK kvs []) ?_
      rw [List.length_nil, Nat.zero_add, rel.length, hl]
      exact hz
    exact ⟨.ref s.heap.objs.size, upd H s.heap.objs.size (.dK (mergeK [] kvs)), I.laid (t' := tk) (fun b o e => k b o (fun z => nomatch z) e) (Nat.le_refl _) (show ObjOk X.prog X.w _ _ _ (.dK (mergeK [] kvs)) from ⟨hlen, hm, merged [] prs, KV.merge rel .nil, hd'⟩), rfl, q _ (I.hok.fresh (Nat.le_refl _))⟩
end
theorem pairs_rp {c : Base} {w : Wd} : ∀ {ds : List D} {xs : List V} {m : List (Key × D)}, RpsW c w xs ds → pairsD ds = some m → ∃ (ps : List Addr) (kvs : List (Key × V)), xs = ps.map V.ref ∧ Paired (fun p kv => SqT c.K w.H p [kV kv.1, kv.2]) ps kvs ∧ KR c.K (c.dks w) (c.vis w) kvs m
  | [], _, _, .nil, e => by cases e; exact ⟨[], [], rfl, .nil, .nil⟩
  | d :: ds, _, m, .cons h r, e => by
    unfold pairsD at e
    split at e
    · cases ‹_ = []›
    · rename_i k v r' heq
      cases heq
      split at e
      · rename_i key m' ek em
        cases e
        obtain ⟨ps, kvs, e1, e2, e3⟩ := pairs_rp r em
        obtain ⟨p, xs', rfl, s1, a1⟩ := h.isTup
        cases a1 with
        | cons h1 t1 =>
          cases t1 with
          | cons h2 t2 =>
            cases t2
            have hk := rp_key h1 ek
            subst hk e1
            exact ⟨p :: ps, (key, _) :: kvs, rfl, .cons (sqT_vis s1) e2, .cons h2 e3⟩
      · cases e
    · cases e
theorem d_dict : CallDK rDictN gDict := fun c W σ w x v Q k r h => by
  unfold gDict at h
  split at h
  · split at h
    · rename_i ps m em
      cases r with
      | cons r1 r2 =>
        cases r2
        obtain ⟨a, xs, rfl, s1, a1⟩ := r1.isTupN
        obtain ⟨qs, kvs, rfl, hp, kr⟩ := pairs_rp a1 em
        refine ⟨a, qs, kvs, rfl, sqN_mono (fun _ _ => vis_sub) s1, hp, fun p hp => ?_⟩
        have g := Grow.new (o := .dK (mergeK [] kvs)) k hp
        exact h _ _ (by rfl) g (.dct (vis_new k hp) ((kr.merge .nil).enc.mono (g.le k).ex (g.le k).dk))
    · exact h.elim
  · exact h.elim
theorem hu1d {A : Around} {k : Nat} (hr : Room k A) : A.units + 1 < cLine := by
  have := hr.un
  omega
end DL
namespace DL
open PySem PySem.Spec PyProof.Rows L2
def RevF (K : PySem.W.Frag) (x : V) (H : Hp) (Q : VK) : Prop := ∃ a xs, x = .ref a ∧ SqT K H a xs ∧ ∀ p o, H p = none → o.dict = none → Q (.ref p) (upd H p (.frz o (.tup xs.reverse)))
theorem pe_revF {X : Cx} {e : Expr} {te : TE} {k : Nat} {p1 p2 p3 pos : Pos} (he : PE X e te) : PE X (.Subscript e (.Slice none none (some (.UnaryOp .USub (.Constant (.int 1) k p1) p2)) p3) pos) (fun σ H Q => te σ H fun x H1 => RevF X.K x H1 Q) := by
  refine ⟨fun pins s σ H Q I h => ?_⟩
  refine Subscript_ (thn (he.run pins s σ H _ I h) fun v s1 ⟨x, H1, I1, r1, q1⟩ => ?_)
  obtain ⟨a, xs, ex, hx, q⟩ := q1
  subst ex
  cases r1
  have hst : PO X (some (.UnaryOp .USub (.Constant (.int 1) k p1) p2)) (tPart (tUn (rU fun i => .int (-i)) (tC (.int 1)))) := po_some (pe_un un_neg pe_int)
  refine wpAny_Slice (thn (po_none.run pins s1 σ H1 (fun o H2 => o = none ∧ H2 = H1) I1 ⟨rfl, rfl⟩) fun vl s2 ⟨l, H2, I2, pl, el, e2⟩ => ?_)
  subst el e2
  refine thn (po_none.run pins s2 σ H2 (fun o H3 => o = none ∧ H3 = H2) I2 ⟨rfl, rfl⟩) fun vu s3 ⟨u, H3, I3, pu, eu, e3⟩ => ?_
  subst eu e3
  refine thn (hst.run pins s3 σ H3 (fun o H4 => o = some (-1) ∧ H4 = H3) I3 ⟨1, rfl, -1, rfl, rfl, rfl⟩) fun vs s4 ⟨o, H4, I4, ps, eo, e4⟩ => ?_
  subst eo e4
  have I5 : Inv X pins σ H4 { s4 with heap := s4.heap.push { cls := .type "slice", data := .fields #[vl, vu, vs] } } := I4.kept (t' := s4.toks) fun b ob q => Heap.get?_push_of_some _ q
  obtain ⟨its, r, ht, hz⟩ := I5.tuple hx
  have hlen := r.length
  show wpAny (model X.prog X.w) X.A (subscriptTail e (.Slice none none (some (.UnaryOp .USub (.Constant (.int 1) k p1) p2)) p3) (.ref a) (.ref s4.heap.objs.size)) (EP X pins σ Q) X.xe { s4 with heap := s4.heap.push { cls := .type "slice", data := .fields #[vl, vu, vs] } }
  refine tail_any (ops := [.ref a, .ref s4.heap.objs.size]) ht.typeIs PyProof.Rows.slot_tuple_getitem.lookup ?_ (by with_unfolding_all rfl)
  refine J.getItem_tuple_rev ht (Heap.IsSliceOf.new _ vl vu vs) pl pu ps ?_ (by rw [List.size_toArray]; omega)
  exact ⟨.ref _, _, Inv.tnewF (t' := s4.toks) I5 r.reverse (by rw [List.length_reverse]; exact hz), rfl, q _ _ (I5.hok.fresh (Nat.le_refl _)) rfl⟩
def gRevT (x : D) : R D := match x with
  | .tuple ds => .ret (.tuple ds.reverse)
  | _ => .bad
theorem de_rev {X : Cx} {c : Base} {W : WX} {e : Expr} {fa : Env → R D} {k : Nat} {p1 p2 p3 pos : Pos} (hK : c.K = X.K) (he : PE X e (liftE c W fa)) : PE X (.Subscript e (.Slice none none (some (.UnaryOp .USub (.Constant (.int 1) k p1) p2)) p3) pos) (liftE c W (un gRevT fa)) :=
  pe_imp (pe_revF he) fun σ H Q ⟨w, env, a, q⟩ => step a q fun x v w1 g1 r1 q1 => by
    unfold gRevT at q1
    split at q1
    · obtain ⟨a', xs, rfl, s1, a1⟩ := r1.isTup
      exact ⟨a', xs, rfl, hK ▸ sqT_vis s1, new_tup g1.ok a1.rev q1⟩
    · exact q1.elim
end DL
namespace DL
open PySem PySem.Spec PyProof.Rows L2
section
variable {X : Cx}
def rRng1 : List V → Hp → VK → Prop := fun vs H Q => ∃ j, vs = [V.int j] ∧ ∀ p, H p = none → Q (.ref p) (upd H p (.rng 0 j))
theorem cr_range1 : CallR X (.type "range") rRng1 := by
  intro pins s σ H vs us Q I r h
  obtain ⟨j, rfl, q⟩ := h
  obtain ⟨u1, rfl, ri⟩ := vals1 r
  obtain ⟨t, rfl⟩ := ri
  refine call_range_1 ⟨.ref s.heap.objs.size, upd H s.heap.objs.size (.rng 0 j), I.laid (t' := s.toks + 1 + 1) (fun b o e => Heap.get?_push_of_some _ e) (Nat.le_refl _) ?_, rfl, q _ (I.hok.fresh (Nat.le_refl _))⟩
  exact ⟨s.toks, t, s.toks + 1, Heap.get?_push_size _ rfl⟩
def rInRng (n : Bool) : R2 := fun x y H Q => ∃ i a lo hi, x = V.int i ∧ y = V.ref a ∧ H a = some (.rng lo hi) ∧ Q (.bl (n ^^ decide (lo ≤ i ∧ i < hi))) H
theorem op_inRng : OpR X (compareOp .In) (rInRng false) := by
  intro pins s σ H x y v u Q I rx ry h
  obtain ⟨i, a, lo, hi, rfl, rfl, ha, q⟩ := h
  rw [Bool.false_xor] at q
  exact op_in_rng pins s σ H _ _ v u Q I rx ry ⟨i, a, lo, hi, rfl, rfl, ha, q⟩
theorem op_notInRng : OpR X (compareOp .NotIn) (rInRng true) := by
  intro pins s σ H x y v u Q I rx ry h
  obtain ⟨i, a, lo, hi, rfl, rfl, ha, q⟩ := h
  obtain ⟨k, rfl⟩ := rx
  obtain rfl : u = Value.ref a := ry
  obtain ⟨t1, t2, t3, ho⟩ := I.hok a _ ha
  show wpAny _ _ (do return Value.bool (!(← contains (Value.ref a) (Value.int i k)))) _ _ s
  refine wpAny_bind (wpAny_contains_slot (T := "range") ⟨_, ho, rfl⟩ F.slot_range_contains (call_meets F.slot_range_contains ⟨_, ho, rfl⟩ F.entry_range_contains (F.args_range_contains_2 _ _) (q_contains a lo hi i t1 t2 t3 k)
    ⟨ho, wpAny_truthy_bool (wpAny_pure ⟨.bl _, H, I, rfl, ?_⟩)⟩))
  rw [place1]
  rw [Bool.true_xor] at q
  exact q
end
def gInR (n : Bool) (x y : D) : R D := match x, y with
  | .int i, .int j => .ret (.bool (n ^^ decide (0 ≤ i ∧ i < j)))
  | _, _ => .bad
section
variable {X : Cx} {c : Base} {W : WX} {w w' w1 w2 : Wd} {σ : L2.St} {env : Env} {a b d : Expr} {fa fb fc : Env → R D}
theorem inRng_of {n : Bool} : ∀ σ H Q, liftE c W (bin (gInR n) fa fb) σ H Q → tOp (rInRng n) (liftE c W fa) (tCB rRng1 (L2.tCons (liftE c W fb) L2.tNil)) σ H Q := fun σ H Q ⟨w, env, a, q⟩ => step a q fun x v w1 g1 r1 q1 => step (a.grow g1) q1 fun y u w2 g2 r2 q2 => by
  unfold gInR at q2
  split at q2
  · rename_i i j
    obtain rfl := (r2.isInt)
    obtain rfl := ((g2.le g1.ok).rp r1).isInt
    exact ⟨j, rfl, fun p hp => ⟨i, p, 0, j, rfl, rfl, upd_same, q2 (.bl _) { w2 with H := upd w2.H p (.rng 0 j) } rfl (Grow.new (o := .rng 0 j) g2.ok hp) (.bl _)⟩⟩
  · exact q2.elim
theorem de_inRng {n : Bool} {op : CmpOp} {pos : Pos} (ho : OpR X (compareOp op) (rInRng n)) (ha : PE X a (liftE c W fa)) (hb : PE X b (tCB rRng1 (L2.tCons (liftE c W fb) L2.tNil))) (hm : behindInMarks op b = false) : PE X (.Compare a [op] [b] pos) (liftE c W (bin (gInR n) fa fb)) :=
  pe_imp (pe_cmpR ho ha hb hm) inRng_of
theorem dt_inRng {n : Bool} {op : CmpOp} {pos : Pos} (ho : OpR X (compareOp op) (rInRng n)) (ha : PE X a (liftE c W fa)) (hb : PE X b (tCB rRng1 (L2.tCons (liftE c W fb) L2.tNil))) (hm : behindInMarks op b = false) : PT X (.Compare a [op] [b] pos) (liftT c W (blT (bin (gInR n) fa fb))) :=
  pt_imp (pt_cmpR ho ha hb hm) fun σ H Q h => inRng_of σ H _ (tTest_of (t := fun _ _ _ => True) h)
end
section
variable {env : Env} {fu : Nat} {E : Nat → Er → Prop} {QD : Nat → D → Prop} {i j : Int}
theorem v_inR {n : Bool} (h : QD fu (.bool (n ^^ decide (0 ≤ i ∧ i < j)))) : (gInR n (.int i) (.int j)).wp fu QD E := h
end
end DL
namespace DL
open PySem PySem.Spec PyProof.Rows L2
theorem look_map {f : Str × NameKind → Str × NameKind} (h1 : ∀ p, (f p).1 = p.1) (h2 : ∀ p, p.2 = .cell ∨ p.2 = .free → (f p).2 = .cell ∨ (f p).2 = .free) : ∀ {names : List (Str × NameKind)} {x : Str}, names.lookup x = some .cell ∨ names.lookup x = some .free →
    (names.map f).lookup x = some .cell ∨ (names.map f).lookup x = some .free
  | [], x, h => by rcases h with h | h <;> cases h
  | (n, k) :: r, x, h => by
    have e1 := h1 (n, k)
    have e2 := h2 (n, k)
    rw [List.map_cons]
    generalize f (n, k) = q at e1 e2 ⊢
    obtain ⟨n', k'⟩ := q
    have e1 : n' = n := e1
    subst e1
    cases hx : x == n' with
    | true =>
      simp only [List.lookup_cons, hx] at h ⊢
      have h : k = .cell ∨ k = .free := by
        rcases h with h | h
        · exact .inl (Option.some.inj h)
        · exact .inr (Option.some.inj h)
      rcases e2 h with e | e
      · exact .inl (congrArg some e)
      · exact .inr (congrArg some e)
    | false =>
      simp only [List.lookup_cons, hx] at h ⊢
      exact look_map h1 h2 h
theorem blkOk_re {N : List Str} {sc scope : Scope} {own : List (Str × Nat)} {env : PySem.Env} (h : BlkOk N sc scope own) : BlkOk N (relabel sc env) scope own where
  kind := h.kind
  uniq := h.uniq
  ix := h.ix
  own := h.own
  free := fun y hy e => by
    refine look_map (fun p => ?_) (fun p hp => ?_) (h.free y hy e)
    · obtain ⟨n, k⟩ := p
      dsimp only
      split <;> rfl
    · obtain ⟨n, k⟩ := p
      dsimp only
      split
      · exact .inl rfl
      · exact hp
end DL
namespace PySem.W
open PySem Sem PyProof.Rows
section
variable {prog : Program} {w : World} {A : Around} {E : Value → Shared → Prop} {s : Shared} {β : Type} {vs : List Value} {bs : List β} {enc : β → PyData} {R : Value → β → Prop}
theorem tupCollect {t : Addr} {ob : Obj} {m : Nat} {Q : List Value → Shared → Prop} (h1 : s.heap.get? t = some ob) (h2 : ob.cls = .type "tuple") (h3 : ob.data = .seq vs.toArray m) (hz : vs.length ≤ sizeLine)
    (q : ∀ h', h'.objs.size = s.heap.objs.size + 1 → (∀ b o, s.heap.get? b = some o → h'.get? b = some o) → Q vs { s with heap := h' }) : wpAny (model prog w) A (collect (.ref t)) Q E s := by
  have hN : (s.heap.push (seqObj "list" #[] 0)).get? s.heap.objs.size = some (seqObj "list" #[] 0) := Heap.get?_push_size _ rfl
  have hT : (s.heap.push (seqObj "list" #[] 0)).get? t = some ob := Heap.get?_push_of_some _ h1
  unfold collect
  refine wpAny_bind (wpAny_runValue (codeAny_builtin entry_proto_collect' ?_))
  refine wpAny_bind (m := newList []) (wpAny_newList (wpAny_pure ⟨Code.quiet_builtin _ (by decide +kernel), codeAny_builtin entry_list_iadd' ?_⟩))
  show wpAny _ _ (Builtin.List.listExtendWith (.ref s.heap.objs.size) (.ref t) (.ref s.heap.objs.size)) _ _ (Shared.mk (s.heap.push (seqObj "list" #[] 0)) s.gens s.drawn s.toks s.os)
  unfold Builtin.List.listExtendWith
  refine wpAny_bind (wpAny_typeOf (T := "tuple") ⟨ob, hT, h2⟩ ?_)
  have e1 : (Value.type "tuple" == Value.type "tuple") = true := by rfl
  rw [if_pos (by rw [e1]; simp)]
  refine wpAny_bind (listItems_at hT h3 ?_)
  refine wpAny_bind (listItems_at (xs := #[]) hN rfl ?_)
  rw [if_neg (by simp)]
  refine wpAny_bind (listUpdate_at (xs := #[]) hN rfl (wpAny_pure ?_) (Nat.zero_le _) (by show (#[] ++ vs.toArray).size ≤ sizeLine + 1; rw [Array.size_append, List.size_toArray, List.size_toArray, List.length_nil]; omega))
  have hU := get?_update_seq hN (· ++ vs.toArray)
  refine wpAny_bind (wpAny_load hU ?_)
  refine wpAny_pure ?_
  have e2 : ((#[] : Array Value) ++ vs.toArray).toList = vs := by simp
  show Q ((#[] : Array Value) ++ vs.toArray).toList _
  rw [e2]
  refine q _ (by rw [Heap.size_update, size_push']) fun b o hb => ?_
  rw [Heap.get?_update_ne _ _ _ _ (Nat.ne_of_lt (Heap.lt_size hb))]
  exact Heap.get?_push_of_some _ hb
/-- sorted(t): a new list with the items in order -/
theorem tupSorted {t : Addr} {Q : Value → Shared → Prop} (ht : s.heap.IsTuple t vs.toArray) (e : EachIs R vs bs) (er : EachIs (fun v b => ∃ as, Reads s.heap v (enc b) as) vs bs) (hal : AllAlike (bs.map enc)) (hk : Sortable (bs.map enc)) (hL : bs.length ≤ sizeLine)
    (hu : ∀ b, b ∈ bs → A.units + 2 + (enc b).depth < cLine)
    (h : ∀ (out : List Value) (h2 : Heap) (p : Addr) (n : Nat), out.length = bs.length → EachIs R out (bs.mergeSort (dataLe false enc)) → s.heap.objs.size ≤ p → (∀ b o, s.heap.get? b = some o → h2.get? b = some o) → h2.get? p = some (seqObj "list" out.toArray n) → Q (.ref p) { s with heap := h2 }) :
    wpAny (model prog w) A (call (.builtin "sorted") [.ref t]) Q E s := by
  have hvl : vs.length ≤ sizeLine := e.length ▸ hL
  obtain ⟨o, ho, hc, n, hd⟩ := ht
  refine call_function_entry_kw kind_sorted plain_sorted entry_sorted (args_sorted1 (.ref t)) ?_
  unfold Builtin.«sorted»
  refine wpAny_bind (m := checkCount "sorted" 1 1 _) (wpAny_pure ?_)
  refine wpAny_bind (tupCollect ho hc hd hvl fun h1 hs1 k1 => ?_)
  refine wpAny_bind (wpAny_newList ?_ hvl)
  generalize hpp : h1.objs.size = p at hs1
  have hat : (h1.push (seqObj "list" vs.toArray 0)).get? p = some (seqObj "list" vs.toArray 0) := by rw [← hpp]; exact Heap.get?_push_size _ rfl
  have kold : ∀ b o', s.heap.get? b = some o' → (h1.push (seqObj "list" vs.toArray 0)).get? b = some o' := fun b o' hb => Heap.get?_push_of_some _ (k1 b o' hb)
  have psz : p < (h1.push (seqObj "list" vs.toArray 0)).objs.size := by rw [size_push', hpp]; exact Nat.lt_succ_self _
  have er2 : EachIs (fun v b => ∃ as, Reads (sortingHeap (h1.push (seqObj "list" vs.toArray 0)) p vs) v (enc b) as) vs bs := er.mono fun _ _ ⟨as, r⟩ => ⟨as, PyProof.Rows.Reads.keeps (fun b o' hb => sortingHeap_old (Nat.ne_of_lt (Nat.lt_of_lt_of_le (Heap.lt_size hb) (by omega))) (kold b o' hb)) r⟩
  have hsort := list_sort_vals (prog := prog) (w := w) (A := A.in1.in1) (E := E) (κ := dataKind (sortingHeap (h1.push (seqObj "list" vs.toArray 0)) p vs) (bs.map enc)) (s := Shared.mk (h1.push (seqObj "list" vs.toArray 0)) s.gens s.drawn s.toks s.os) (P := fun f s' => ∃ v, f = .done (.ret v) ∧ Q (.ref p) s') hat
    (SortsAt.data (s := Shared.mk (sortingHeap (h1.push (seqObj "list" vs.toArray 0)) p vs) s.gens s.drawn s.toks s.os) (each_map (R := fun v d => ∃ as, Reads (sortingHeap (h1.push (seqObj "list" vs.toArray 0)) p vs) v d as) enc er2) hal hk (bound_map hu)) hvl
    ⟨_, rfl, by
      obtain ⟨n2, hn2⟩ := sortedHeap_at (vs := vs) (out := (sortVals (dataKind (sortingHeap (h1.push (seqObj "list" vs.toArray 0)) p vs) (bs.map enc)) false vs vs).toArray) hat
      refine h _ _ p n2 (by rw [sortVals_length false rfl]; exact e.length) (sortVals_data false e er2 hal) (by omega) (fun b o' hb => ?_) hn2
      have hlt := Heap.lt_size (kold b o' hb)
      rw [sortedHeap_old (Nat.ne_of_lt (Nat.lt_of_lt_of_le (Heap.lt_size hb) (by omega))) hlt]
      exact kold b o' hb⟩

  refine wpAny_bind (wpAny_holding (wpAny_call_entry_kw slot_list_sort ⟨_, hat, rfl⟩ entry_list_sort (wpAny_mono hsort (fun f s' ⟨v, hf, hq⟩ => ⟨v, hf, ?_⟩) fun _ _ q => q) (args_list_sort (.ref p))))
  exact wpAny_pure ⟨_, rfl, hq⟩
end
end PySem.W
namespace DL
open PySem PySem.Spec PyProof.Rows L2
def rSortT (K : PySem.W.Frag) : List V → Hp → VK → Prop := fun vs H Q => ∃ (a : Addr) (xs : List V) (ds : List D), vs = [V.ref a] ∧ SqT K H a xs ∧ DpAll K H xs ds ∧ PyData.canLayAll0 ds = true ∧ PySem.W.AllAlike ds ∧ PySem.W.Sortable ds ∧ ds.length ≤ sizeLine ∧ (∀ d ∈ ds, d.depth ≤ 60) ∧
  ∀ ys p, PySem.W.EachIs (fun v d => (v, d) ∈ xs.zip ds) ys (ds.mergeSort (PySem.W.dataLe false id)) → H p = none → Q (.ref p) (upd H p (.lst ys))
theorem cr_sortT {X : Cx} (hu : X.A.units + 64 < cLine) : CallR X (.builtin "sorted") (rSortT X.K) := by
  intro pins s σ H vs us Q I r h
  obtain ⟨a, xs, ds, rfl, hs, hd, hcl, hal, hk, hz, hdep, q⟩ := h
  obtain ⟨its, rv, ht, hz2⟩ := I.tuple hs
  rw [Vals.ref1 r]
  obtain ⟨e1, e2⟩ := each_of (K := X.K) I hd rv
  refine PySem.W.tupSorted (enc := id) ht e1 e2 (by rw [List.map_id]; exact hal) (by rw [List.map_id]; exact hk) hz (fun d hm => ?_) fun out h2 p n ho he hp kk hat => ?_
  · have := hdep d hm
    show X.A.units + 2 + d.depth < cLine
    omega
  · obtain ⟨ys, ry, py⟩ := vals_each (P := fun v d => (v, d) ∈ xs.zip ds) he
    refine ⟨.ref _, upd H p (.lst ys), I.laid (t' := s.toks) kk hp ⟨?_, out, n, ry, ?_⟩, rfl, q ys _ py (I.hok.fresh hp)⟩
    · rw [ry.length, ho]; exact hz
    · exact hat
end DL
namespace DL
open PySem PySem.Spec PyProof.Rows L2
def rSortB (K : PySem.W.Frag) : List V → Hp → VK → Prop := fun vs H Q => rSortU K vs H Q ∨ rSortT K vs H Q
theorem cr_sortB {X : Cx} (hu : X.A.units + 64 < cLine) : CallR X (.builtin "sorted") (rSortB X.K) := by
  intro pins s σ H vs us Q I r h
  rcases h with h | h
  · exact cr_sortU hu pins s σ H vs us Q I r h
  · exact cr_sortT hu pins s σ H vs us Q I r h
def sortG (f : Env → R D) : Env → R (List D) := fun env => (f env).bind fun x => match x with
  | .list ds => guard' (sortOk ds) (.ret (sortD ds))
  | .tuple ds => guard' (sortOk ds) (.ret (sortD ds))
  | _ => .bad
section
variable {X : Cx} {c : Base} {W : WX} {w w' w1 w2 : Wd} {σ : L2.St} {env : Env} {e a b d : Expr} {fa fb fc : Env → R D}
theorem dl_sortB (hK : c.K = X.K) (h : PE X e (tCB (rSortB X.K) (L2.tCons (liftE c W fa) L2.tNil))) : PE X e (liftL c W (sortG fa)) := pe_imp h fun σ H Q ⟨w, env, a, q⟩ => by
  refine ⟨w, env, a, R.wp_mono (wp_b q) (fun fu x hx v w1 e1 g1 r1 => ?_) fun _ _ h => h⟩
  subst e1
  cases x with
  | list ds =>
    obtain ⟨h1, h2⟩ := wp_guard.mp hx
    unfold sortOk at h1
    simp only [Bool.and_eq_true, List.all_eq_true, decide_eq_true_eq] at h1
    obtain ⟨c0, c1, c2, c3, c4⟩ := h1
    obtain ⟨a', xs, rfl, s1, a1⟩ := r1.isLst
    exact .inl ⟨a', xs, ds, rfl, hK ▸ sqL_vis s1, hK ▸ dpAll_mono (fun _ _ => vis_sub) (a1.dp c0), c0, allAlikeB_of c1, sortableB_of c2, line_eq.mpr c3, c4, fun ys p hy => own_new a g1 (each_rp (zip_rp a1) hy) h2 p⟩
  | tuple ds =>
    obtain ⟨h1, h2⟩ := wp_guard.mp hx
    unfold sortOk at h1
    simp only [Bool.and_eq_true, List.all_eq_true, decide_eq_true_eq] at h1
    obtain ⟨c0, c1, c2, c3, c4⟩ := h1
    obtain ⟨a', xs, rfl, s1, a1⟩ := r1.isTup
    exact .inr ⟨a', xs, ds, rfl, hK ▸ sqT_vis s1, hK ▸ dpAll_mono (fun _ _ => vis_sub) (a1.dp c0), c0, allAlikeB_of c1, sortableB_of c2, line_eq.mpr c3, c4, fun ys p hy => own_new a g1 (each_rp (zip_rp a1) hy) h2 p⟩
  | _ => exact hx.elim
end
def IzF (K : PySem.W.Frag) (a b : Addr) : It := ⟨(RZ.ItzT K a b).go,
  fun i H v H' => ∃ (T : Addr) (ob : Obj) (x y : V), v = .ref T ∧ H T = none ∧ ob.dict = none ∧ H' = upd H T (.frz ob (.tup [x, y])) ∧ (∀ l, SqT K H a l → l[i]? = some x) ∧ ∀ l, SqT K H b l → l[i]? = some y, (RZ.ItzT K a b).stop⟩
theorem turn_zipF {P : Program} {w : World} {K : PySem.W.Frag} {es : List Expr} {kk : Nat} {tp : Pos} {a b z p q i1 i2 : Addr} (D : ZipApart z p q i1 i2 a b) :
    Turn P w K (.Tuple es kk tp) (IzF K a b) [z, p, q, i1, i2] z (fun i h => IsZip h z p q .none ∧ IsPair h p (.ref i1) (.ref i2) ∧ (∃ x y, IsPair h q x y) ∧ h.IsTupleIter i1 a i ∧ h.IsTupleIter i2 b i) := by
  have U := RZ.turn_zipT (P := P) (w := w) (K := K) (elts := es) (kk := kk) (tpos := tp) D
  refine ⟨U.mem, U.obj, U.keep, ?_, U.done, U.self⟩
  intro X hP hw hK hc i pins s σ H E I hf tn0 go
  subst hP hw hK
  obtain ⟨tz, tp0, ⟨_, _, tq⟩, ta, tb⟩ := tn0
  obtain ⟨l, m, x, y, la, mb, ex, ey⟩ := go
  obtain ⟨va, ra, ia, _⟩ := I.tuple la
  obtain ⟨vb, rb, ib, _⟩ := I.tuple mb
  obtain ⟨u, eu, ru⟩ := ra.get ex
  obtain ⟨u', eu', ru'⟩ := rb.get ey
  have below : ∀ c, c ∈ [z, p, q, i1, i2] → c < s.heap.objs.size := fun c hm => by
    simp only [List.mem_cons, List.not_mem_nil, or_false] at hm
    obtain ⟨_, ea, _⟩ := ta
    obtain ⟨_, eb, _⟩ := tb
    rcases hm with r | r | r | r | r
    · exact r ▸ Heap.lt_size tz
    · exact r ▸ Heap.lt_size tp0
    · exact r ▸ Heap.lt_size tq
    · exact r ▸ Heap.lt_size ea
    · exact r ▸ Heap.lt_size eb
  refine RZ.pyNext_zipT_item D tz tp0 tq ta tb ia ib (x := u) (y := u') (by simpa using eu) (by simpa using eu') fun g nz nq na nb nT sz keep => ⟨_, rfl, wpAny_letOwnedTupleGo_zip (s := { s with heap := g }) nz fun g2 nz2 sb => ?_⟩
  have at2 : g2.get? s.heap.objs.size = some { cls := .type "tuple", data := .seq #[u, u'] } := (sb.2 _ (Nat.ne_of_gt (below z (by simp)))).trans nT
  have keep2 : ∀ c o, c ∉ [z, p, q, i1, i2] → s.heap.get? c = some o → g2.get? c = some o := fun c o hn e => by
    simp only [List.mem_cons, List.not_mem_nil, or_false, not_or] at hn
    exact (sb.2 c hn.1).trans (keep c o hn.1 hn.2.2.1 hn.2.2.2.1 hn.2.2.2.2 e)
  have I2 : Inv X pins σ (upd H s.heap.objs.size (.frz { cls := .type "tuple", data := .seq #[u, u'] } (.tup [x, y]))) { s with heap := g2 } :=
    I.turnedNew (t' := s.toks) (ch := [z, p, q, i1, i2]) keep2 hf (Nat.le_refl _) ⟨at2, by show 2 ≤ sizeLine; decide, [u, u'], .cons ru (.cons ru' .nil), ⟨_, at2, rfl, _, rfl⟩⟩
  refine ⟨.ref s.heap.objs.size, _, I2, rfl, ⟨_, _, x, y, rfl, I.hok.fresh (Nat.le_refl _), rfl, rfl, fun t ht => I.tuple_inj ht la ▸ ex, fun t ht => I.tuple_inj ht mb ▸ ey⟩, ⟨nz2, (sb.2 _ D.TIz).trans (keep _ _ D.TIz D.TITO D.TIi1 D.TIi2 tp0), ⟨u, u', (sb.2 _ D.TOz).trans nq⟩, na.at fun o e => (sb.2 _ D.i1z).trans e, nb.at fun o e => (sb.2 _ D.i2z).trans e⟩, fun c hm => ?_⟩
  rw [upd_ne (Nat.ne_of_lt (below c hm))]
  exact (hf c hm).1
def iZipF (K : PySem.W.Frag) (ta : TA) : TI := fun σ H R => ta σ H fun vs H1 => ∃ a b xs ys, vs = [.ref a, .ref b] ∧ SqT K H1 a xs ∧ SqT K H1 b ys ∧ R (IzF K a b) H1
theorem pi_zipF {X : Cx} {e e2 : Expr} {ta : TA} {p pos tp : Pos} {es : List Expr} {kk : Nat} (hg : Gl X "zip") (hm : X.mg "zip" = none) (ha : PA X [e, e2] ta)
    (h1 : starEach [e, e2] X.env = (false, eval e X.env) :: starEach [e2] X.env := by rfl) (h2 : (backTo pos (starEach [e2] X.env)).any (·.1) = false := by rfl) :
    PI X (.Tuple es kk tp) (.Call (.Name "zip" p) [e, e2] [] pos) (iZipF X.K ta) := ⟨fun pins s σ H R I h => by
  refine Call_ (ld_blt I hg hm PyProof.Rows.boot_zip (PyProof.Rows.callWith_type1 (thn (ha.run pos pins s σ H _ I h) fun us s1 ⟨vs, G, J, r1, q1⟩ => ?_) h1 h2))
  obtain ⟨a, b, xs, ys, rfl, la, lb, q⟩ := q1
  cases r1 with | cons r r' => cases r' with | cons r2 r3 =>
  cases r3; cases r; cases r2
  obtain ⟨va, _, ia, _⟩ := J.tuple la
  obtain ⟨vb, _, ib, _⟩ := J.tuple lb
  have lt1 : a < s1.heap.objs.size := by obtain ⟨_, e, _⟩ := id ia; exact Heap.lt_size e
  have lt2 : b < s1.heap.objs.size := by obtain ⟨_, e, _⟩ := id ib; exact Heap.lt_size e
  refine RZ.call_zipT (show s1.heap.IsTuple a va.toArray from ia) (show s1.heap.IsTuple b vb.toArray from ib) fun g z0 z1 z2 z3 z4 sz keep => wpAny_pyIter_zip z0 ?_
  refine ⟨_, _, _, _, G, rfl, J.kept (t' := s1.toks) keep, turn_zipF (PySem.W.ktu_apart s1.heap.objs.size a b lt1 lt2), ⟨z0, z1, ⟨_, _, z2⟩, z3, z4⟩, fun c hm => ?_, q⟩
  have le : s1.heap.objs.size ≤ c := by
    simp only [List.mem_cons, List.not_mem_nil, or_false] at hm
    rcases hm with r | r | r | r | r <;> rw [r] <;> first | exact Nat.le_refl _ | exact Nat.le_add_right _ _
  exact J.fpOk le (J.hok.fresh le)⟩
def zipG (fr : Env → R (List D)) : Env → R (List D) := fun env => (fr env).bind fun xs => match xs with
  | [.tuple ds, .tuple es] => .ret (zipD ds es)
  | _ => .bad
theorem zipD_at {ds es : List D} {i : Nat} {d : D} (h : (zipD ds es)[i]? = some d) : ∃ x y, ds[i]? = some x ∧ es[i]? = some y ∧ d = .tuple [x, y] := by
  unfold zipD at h
  rw [List.getElem?_map] at h
  obtain ⟨⟨x, y⟩, e, rfl⟩ := Option.map_eq_some_iff.mp h
  obtain ⟨a, b⟩ := List.getElem?_zip_eq_some.mp e
  exact ⟨x, y, a, b, rfl⟩
section
variable {X : Cx} {c : Base} {W : WX} {w w' w1 w2 : Wd} {σ : L2.St} {env : Env} {e a b d : Expr} {tg : Expr} {fr : Env → R (List D)} {ds es : List D} {xs ys : List V}
theorem itd_zip {a b : Addr} (h1 : SqT c.K (c.vis w) a xs) (h2 : SqT c.K (c.vis w) b ys) (r1 : RpsW c w xs ds) (r2 : RpsW c w ys es) : ItD c (IzF c.K a b) w (zipD ds es) := by
  have len : (zipD ds es).length = min ds.length es.length := by unfold zipD; rw [List.length_map, List.length_zip]
  refine ⟨fun w' i le k hi => ?_, fun w' i x H2 le k hy d hd => ?_, fun w' i le k hi => ?_⟩
  · rw [len] at hi
    obtain ⟨v, e, _⟩ := r1.at' (List.getElem?_eq_getElem (show i < ds.length by omega))
    obtain ⟨v2, e2, _⟩ := r2.at' (List.getElem?_eq_getElem (show i < es.length by omega))
    exact ⟨xs, ys, v, v2, sqT_vis (sqT_mono le.ex h1), sqT_vis (sqT_mono le.ex h2), e, e2⟩
  · obtain ⟨T, ob, v1, v2, rfl, hT, hob, e1, e2, e3⟩ := hy
    obtain ⟨x, y, hx, hy, rfl⟩ := zipD_at hd
    obtain ⟨u1, f1, s1⟩ := r1.at' hx
    obtain ⟨u2, f2, s2⟩ := r2.at' hy
    have g1 := e2 xs (sqT_vis (sqT_mono le.ex h1))
    have g2 := e3 ys (sqT_vis (sqT_mono le.ex h2))
    rw [f1] at g1
    rw [f2] at g2
    cases g1
    cases g2
    have g := Grow.new (o := .frz ob (.tup [v1, v2])) k hT
    exact ⟨{ w' with H := upd w'.H T (.frz ob (.tup [v1, v2])) }, e1.symm, rfl, g, .tup (sqN_new k hT hob) ((g.le k).rpAll (.cons (le.rp s1) (.cons (le.rp s2) .nil)))⟩
  · rw [len] at hi
    refine ⟨xs, ys, sqT_vis (sqT_mono le.ex h1), sqT_vis (sqT_mono le.ex h2), ?_⟩
    rw [r1.len, r2.len]
    omega
theorem di_zip (hK : c.K = X.K) (h : PI X tg e (iZipF X.K (liftA c W fr))) : PI X tg e (liftI c W (zipG fr)) := pi_imp h fun σ H Q ⟨w, env, a, q⟩ => by
  refine ⟨w, env, a, R.wp_mono (wp_b q) (fun fu x hx v w1 e1 g1 r1 => ?_) fun _ _ h => h⟩
  subst e1
  split at hx
  · cases r1 with | cons r1 r2 => cases r2 with | cons r2 r3 =>
    cases r3
    obtain ⟨a', xs, rfl, s1, a1⟩ := r1.isTup
    obtain ⟨b', ys, rfl, s2, a2⟩ := r2.isTup
    exact ⟨a', b', xs, ys, rfl, hK ▸ sqT_vis s1, hK ▸ sqT_vis s2, hK ▸ hx _ w1 rfl g1 (itd_zip s1 s2 a1 a2)⟩
  · exact hx.elim
end
end DL
namespace PySem
open Sem (wp)
open PyProof.Rows
section
variable {prog : Program} {w : World} {A : Around} {E : Value → Shared → Prop} {s : Shared}
theorem alive_load {M : Model} {a : Addr} {o : Obj} {Q : Option Obj → Shared → Prop} (ho : s.heap.get? a = some o) (h : Q (some o) s) : wpAny M A (loadIfAlive a) Q E s := fun Γ p hΓ => by
  show Q (s.heap.get? a) s
  rw [ho]; exact h
/-- an enumerator whose last tuple is kept elsewhere -/
def KeptEnum (h : Heap) (e it : Addr) (i : Int) : Prop := ∃ (a : Addr) (b : Bool) (x : Value) (o : Obj),
  h.get? e = some { cls := .type "enumerate", dict := none, data := .fields #[rawInt a, .bool b, .ref it, rawInt i, .none, x], slots := #[] } ∧ h.get? a = some o ∧ a ≠ e ∧ a ≠ it
theorem keptEnum_next {e it : Addr} {fp : List Addr} {n i : Nat} {P : Nat → Value → Prop} {St : Nat → Heap → Prop} {Q : Option Value → Shared → Prop}
    (D : Draws prog w A.in1 it fp n P St) (he : KeptEnum s.heap e it i) (hst : St i s.heap) (hi : i < n) (ne : e ≠ it) (nf : e ∉ fp)
    (q : ∀ x h' tk, P i x → KeptEnum h' e it ((i : Int) + 1) → St (i + 1) h' → h'.get? s.heap.objs.size = some { cls := .type "tuple", data := .seq #[.int i tk, x] } → h'.objs.size = s.heap.objs.size + 1 →
      (∀ b o, b ≠ e → b ≠ it → s.heap.get? b = some o → h'.get? b = some o) → Q (some (.ref s.heap.objs.size)) { s with heap := h', toks := tk + 1 }) :
    wpAny (model prog w) A (pyNext (.ref e)) Q E s := by
  obtain ⟨a, b, y, oa, h0, ha, hae, hai⟩ := he
  obtain ⟨hp, gg, dd, tk0, os⟩ := s
  have hT : Shared.TypeIs ⟨hp, gg, dd, tk0, os⟩ (.ref e) "enumerate" := ⟨_, h0, rfl⟩
  unfold pyNext
  refine wpAny_bind (wpAny_attempt (wpAny_callSpecial?_slot (name := Str.ofString "__next__") hT F.slot_enumerate_next (wpAny_call_entry F.slot_enumerate_next hT F.entry_enumerate_next ?_ (F.args_enumerate_next_1 _))))
  show wpAny _ _ (field (.ref e) 2 >>= _) _ _ _
  refine wpAny_bind (wpAny_field h0 rfl (x := .ref it) rfl ?_)
  refine wpAny_bind (D.item i _ _ _ hi hst fun x g1 tk px st1 sb1 => ?_)
  have sb1 : Heap.SameBut it hp g1 := sb1
  have h1 := (sb1.2 e ne).trans h0
  refine wpAny_bind (m := field (.ref e) 3) (wpAny_field (s := ⟨g1, gg, dd, tk, os⟩) h1 rfl (x := rawInt i) rfl ?_)
  refine wpAny_bind (m := field (.ref e) 4) (wpAny_field (s := ⟨g1, gg, dd, tk, os⟩) h1 rfl (x := .none) rfl ?_)
  refine wpAny_bind (m := mkInt i) (wpAny_mkInt ?_)
  refine wpAny_bind (m := setField (.ref e) 3 (rawInt ((i : Int) + 1))) (wpAny_setField_rec (s := ⟨g1, gg, dd, tk + 1, os⟩) h1 (by simp) fun g2 h2 sb2 => ?_)
  have sb2 : Heap.SameBut e g1 g2 := sb2
  refine wpAny_bind (m := setField (.ref e) 4 .none) (wpAny_setField_rec (s := ⟨g2, gg, dd, tk + 1, os⟩) h2 (by simp) fun g3 h3 sb3 => ?_)
  have sb3 : Heap.SameBut e g2 g3 := sb3
  refine wpAny_bind (m := newTuple [.int i tk, x]) (wpAny_newTuple (s := ⟨g3, gg, dd, tk + 1, os⟩) ?_)
  have sz : g3.objs.size = hp.objs.size := by rw [sb3.1, sb2.1, sb1.1]
  have hel : e < hp.objs.size := Heap.lt_size h0
  have hal : a < hp.objs.size := Heap.lt_size ha
  have keep : ∀ c o, c ≠ e → c ≠ it → hp.get? c = some o → g3.get? c = some o := fun c o n1 n2 q => (sb3.2 c n1).trans ((sb2.2 c n1).trans ((sb1.2 c n2).trans q))
  have h4 := Heap.get?_push_of_some { cls := .type "tuple", data := .seq #[.int i tk, x] } h3
  have ht := Heap.get?_push_size g3 (o := { cls := .type "tuple", data := .seq #[.int i tk, x] }) rfl
  have ha4 := Heap.get?_push_of_some { cls := .type "tuple", data := .seq #[.int i tk, x] } (keep a oa hae hai ha)
  have keep4 : ∀ c o, c ≠ e → c ≠ it → hp.get? c = some o → (g3.push { cls := .type "tuple", data := .seq #[.int i tk, x] }).get? c = some o := fun c o n1 n2 q => Heap.get?_push_of_some _ (keep c o n1 n2 q)
  have st4 : St (i + 1) (g3.push { cls := .type "tuple", data := .seq #[.int i tk, x] }) := D.frame _ _ _ st1 fun c hc o z => by
    have n1 : c ≠ e := fun q => nf (q ▸ hc)
    exact Heap.get?_push_of_some _ ((sb3.2 c n1).trans ((sb2.2 c n1).trans z))
  have sz4 : (g3.push { cls := .type "tuple", data := .seq #[.int i tk, x] }).objs.size = hp.objs.size + 1 := by rw [Heap.size_push, sz]
  rw [sz] at ht
  rw [show (Value.ref (Shared.heap ⟨g3, gg, dd, tk + 1, os⟩).objs.size) = .ref hp.objs.size from congrArg Value.ref sz]
  generalize g3.push { cls := .type "tuple", data := .seq #[.int i tk, x] } = g4 at h4 ht ha4 keep4 st4 sz4
  refine wpAny_bind (m := Builtin.SmallTypes.ownedTupleIsFree (.ref e)) ?_
  unfold Builtin.SmallTypes.ownedTupleIsFree
  refine wpAny_bind (wpAny_field (s := ⟨g4, gg, dd, tk + 1, os⟩) h4 rfl (x := rawInt a) rfl ?_)
  refine wpAny_bind (m := loadIfAlive (Int.toNat (a : Int))) (alive_load (s := ⟨g4, gg, dd, tk + 1, os⟩) (by rw [Int.toNat_natCast]; exact ha4) ?_)
  simp only [Option.isNone_some, Bool.false_eq_true, if_false]
  refine wpAny_bind (wpAny_field (s := ⟨g4, gg, dd, tk + 1, os⟩) h4 rfl (x := .bool b) rfl ?_)
  have fin : ∀ (g5 : Heap) (b' : Bool), Heap.SameBut e g4 g5 → g5.get? e = some { cls := .type "enumerate", dict := none, data := .fields #[rawInt a, .bool b', .ref it, rawInt ((i : Int) + 1), .none, y], slots := #[] } → Q (some (.ref hp.objs.size)) ⟨g5, gg, dd, tk + 1, os⟩ := fun g5 b' sb5 h5 =>
    q x g5 tk px ⟨a, b', y, oa, h5, (sb5.2 a hae).trans ha4, hae, hai⟩ (D.frame _ _ _ st4 fun c hc o z => (sb5.2 c fun r => nf (r ▸ hc)).trans z) ((sb5.2 _ (Nat.ne_of_gt hel)).trans ht) (by rw [sb5.1, sz4]) fun c o n1 n2 z => (sb5.2 c n1).trans (keep4 c o n1 n2 z)
  cases b with
  | true =>
    rw [if_neg (by decide)]
    refine wpAny_pure ?_
    rw [if_neg (by decide)]
    exact wpAny_pure ⟨_, rfl, wpAny_pure (fin g4 true (Heap.SameBut.refl _ _) h4)⟩
  | false =>
    rw [if_pos (by decide)]
    refine wpAny_bind (wpAny_setField_rec (s := ⟨g4, gg, dd, tk + 1, os⟩) h4 (by simp) fun g5 h5 sb5 => wpAny_pure ?_)
    rw [if_neg (by decide)]
    exact wpAny_pure ⟨_, rfl, wpAny_pure (fin g5 true sb5 h5)⟩
def EnAt (h : Heap) (e it : Addr) (i : Int) : Prop := (∃ old, IsEnum h e it i old) ∨ KeptEnum h e it i
theorem enAt_next {e it a : Addr} {i : Nat} {ys : Array Value} {x : Value} {Q : Option Value → Shared → Prop} (hh : A.in1.handled = none)
    (he : EnAt s.heap e it i) (hit : s.heap.IsTupleIter it a i) (ha : s.heap.IsTuple a ys) (hx : ys[i]? = some x) (ne : e ≠ it) (nea : e ≠ a) (nia : a ≠ it)
    (q : ∀ h' tk, EnAt h' e it ((i : Int) + 1) → h'.IsTupleIter it a (i + 1) → h'.get? s.heap.objs.size = some { cls := .type "tuple", data := .seq #[.int i tk, x] } →
      (∀ b o, b ≠ e → b ≠ it → s.heap.get? b = some o → h'.get? b = some o) → Q (some (.ref s.heap.objs.size)) { s with heap := h', toks := tk + 1 }) :
    wpAny (model prog w) A (pyNext (.ref e)) Q E s := by
  have D : Draws prog w A.in1 it [it, a] ys.size (fun i v => ys[i]? = some v) (fun i h => h.IsTupleIter it a i ∧ h.IsTuple a ys) := Draws.tuple hh it a nia ys
  have hi : i < ys.size := (Array.getElem?_eq_some_iff.mp hx).1
  have nf : e ∉ [it, a] := by simp; exact ⟨ne, nea⟩
  have hel : e < s.heap.objs.size := by
    rcases he with ⟨_, h⟩ | ⟨_, _, _, _, h, _⟩ <;> exact Heap.lt_size h
  have hil : it < s.heap.objs.size := by obtain ⟨_, h, _⟩ := hit; exact Heap.lt_size h
  rcases he with ⟨old, he⟩ | he
  · refine wpAny_pyNext_enum_itemD D he ⟨hit, ha⟩ hi ne nf fun y h' tk py out st ht _ k => ?_
    obtain rfl : x = y := Option.some.inj (hx.symm.trans py)
    exact q h' tk (.inr ⟨_, false, x, _, out, ht, Nat.ne_of_gt hel, Nat.ne_of_gt hil⟩) st.1 ht k
  · refine keptEnum_next D he ⟨hit, ha⟩ hi ne nf fun y h' tk py out st ht _ k => ?_
    obtain rfl : x = y := Option.some.inj (hx.symm.trans py)
    exact q h' tk (.inr out) st.1 ht k
theorem enAt_end {e it a : Addr} {i : Nat} {ys : Array Value} {Q : Option Value → Shared → Prop} (hh : A.in1.handled = none)
    (he : EnAt s.heap e it i) (hit : s.heap.IsTupleIter it a i) (ha : s.heap.IsTuple a ys) (hx : ys.size = i) (nia : a ≠ it)
    (q : ∀ h', (∀ b o, b ≠ it → s.heap.get? b = some o → h'.get? b = some o) → Q none { s with heap := h' }) :
    wpAny (model prog w) A (pyNext (.ref e)) Q E s := by
  have D : Draws prog w A.in1 it [it, a] ys.size (fun i v => ys[i]? = some v) (fun i h => h.IsTupleIter it a i ∧ h.IsTuple a ys) := Draws.tuple hh it a nia ys
  subst hx
  rcases he with ⟨old, he⟩ | ⟨b, c, y, o, he, _⟩
  · exact wpAny_pyNext_enum_endD D he ⟨hit, ha⟩ fun h' hk => q h' fun b o n z => hk b o n z
  · have hT : s.TypeIs (.ref e) "enumerate" := ⟨_, he, rfl⟩
    unfold pyNext
    refine wpAny_bind (wpAny_attempt (wpAny_callSpecial?_slot (name := Str.ofString "__next__") hT F.slot_enumerate_next (wpAny_call_entry F.slot_enumerate_next hT F.entry_enumerate_next ?_ (F.args_enumerate_next_1 _))))
    refine wpAny_bind (m := field (.ref e) 2) (wpAny_field he rfl (x := .ref it) rfl ?_)
    refine wpAny_bind (D.done _ _ _ ⟨hit, ha⟩ fun h' st hk hst => ?_)
    obtain ⟨o2, ho2, hc2⟩ := hst
    refine wpAny_bind (wpAny_isInstance (T := "StopIteration") (b := true) ⟨o2, ho2, hc2⟩ isSubtype_stop ?_)
    exact wpAny_pure (q h' fun b o n z => hk b o n z)
theorem enum_no_len : typeLookup (.type "enumerate") "__len__" = pure none := by rw [typeLookup_type, builtinLookup_eq_fast]; kernel_rfl
theorem enum_no_hint : typeLookup (.type "enumerate") "__length_hint__" = pure none := by rw [typeLookup_type, builtinLookup_eq_fast]; kernel_rfl
end
end PySem
namespace DL
open PySem PySem.Spec PyProof.Rows L2
section
variable {X : Cx} {pins : List (Addr × Obj)} {σ : L2.St} {H : Hp} {s : Shared} {A1 : Around} {a e it S : Addr} {xs : List V}
/-- the list at S filled by the enumerator's pairs -/
def FillsT (K : PySem.W.Frag) (a S : Addr) (xs : List V) (P : Nat → List V → Hp → Prop) : Prop :=
  (∀ i acc H, P i acc H → SqT K H a xs ∧ H S = some (.lst acc) ∧ acc.length = i) ∧
  ∀ i acc H x T ob, P i acc H → xs[i]? = some x → H T = none → ob.dict = none → P (i + 1) (acc ++ [.ref T]) (upd (upd H T (.frz ob (.tup [.int (i : Nat), x]))) S (.lst (acc ++ [.ref T])))
theorem en_loop {P : Nat → List V → Hp → Prop} {Rs : Result → Shared → Prop} (hh : A1.in1.in1.handled = none) (nea : e ≠ a) (nia : a ≠ it) (ne : e ≠ it) (hf : FillsT X.K a S xs P)
    (hd : ∀ acc H s, Inv X pins σ H s → P xs.length acc H → Rs (.ok (.ret .none)) s) : ∀ (k i : Nat) (acc : List V) (H : Hp) (s : Shared), k + i = xs.length → Inv X pins σ H s → (∀ b ∈ [e, it], FpOk X pins H b) →
      EnAt s.heap e it i → s.heap.IsTupleIter it a i → P i acc H → codeAny (model X.prog X.w) A1 (.builtin "list.extend.loop" ⟨[.ref S, .ref e, .none], []⟩) Rs s := by
  intro k
  induction k with
  | zero =>
    intro i acc H s hk I fp en ti p
    obtain ⟨hq, hS, hl⟩ := hf.1 i acc H p
    obtain ⟨its, rv, pt, hz⟩ := I.tuple hq
    refine codeAny_builtin PySem.F.entry_extend_loop ?_
    rw [Around.under_plainId PySem.F.plain_extend_loop _]
    show wpAny _ A1.in1 (pyNext (.ref e) >>= _) _ _ s
    obtain ⟨f0, f1, f2, f3, f4, f5⟩ := fp it (by simp)
    refine wpAny_bind (enAt_end hh en ti pt (by rw [List.size_toArray, ← rv.length]; omega) nia fun h' hk' => ?_)
    refine wpAny_pure (hd acc H _ (I.turned (t' := s.toks) hk' f0 f1 f3 f4 f5) ?_)
    rw [show xs.length = i by omega]; exact p
  | succ k ih =>
    intro i acc H s hk I fp en ti p
    obtain ⟨hq, hS, hl⟩ := hf.1 i acc H p
    obtain ⟨its, rv, pt, hz⟩ := I.tuple hq
    have hx : xs[i]? = some (xs[i]'(by omega)) := List.getElem?_eq_getElem (by omega)
    obtain ⟨u, hu, ru⟩ := rv.get hx
    refine codeAny_builtin PySem.F.entry_extend_loop ?_
    rw [Around.under_plainId PySem.F.plain_extend_loop _]
    show wpAny _ A1.in1 (pyNext (.ref e) >>= _) _ _ s
    refine wpAny_bind (enAt_next hh en ti pt (x := u) (by simpa using hu) ne nea nia fun h' tk en2 ti2 ht k2 => ?_)
    have hT : H s.heap.objs.size = none := I.hok.fresh (Nat.le_refl _)
    have J : Inv X pins σ (upd H s.heap.objs.size (.frz { cls := .type "tuple", data := .seq #[.int i tk, u] } (.tup [.int (i : Nat), xs[i]'(by omega)]))) { s with heap := h', toks := tk + 1 } :=
      I.turnedNew (ch := [e, it]) (fun b o hb z => k2 b o (fun r => hb (by simp [r])) (fun r => hb (by simp [r])) z) fp (Nat.le_refl _) ⟨ht, by show 2 ≤ sizeLine; decide, [.int i tk, u], .cons ⟨_, rfl⟩ (.cons ru .nil), ⟨_, ht, rfl, _, rfl⟩⟩
    have neS : S ≠ s.heap.objs.size := fun r => by rw [r, hT] at hS; cases hS
    have hS2 : upd H s.heap.objs.size (.frz { cls := .type "tuple", data := .seq #[.int i tk, u] } (.tup [.int (i : Nat), xs[i]'(by omega)])) S = some (.lst acc) := by rw [upd_ne neS]; exact hS
    obtain ⟨z, js, n, rj, lj, ej⟩ := J.lstM hS2
    have hlt : acc.length < sizeLine := by
      have l1 : xs.length ≤ sizeLine := hz
      omega
    show wpAny _ A1.in1 (updateSeq S (·.push (.ref s.heap.objs.size)) >>= _) _ _ _
    refine wpAny_bind (wpAny_updateSeq ej rfl (wpAny_pure ⟨plainId_quiet PySem.F.plain_extend_loop _, ?_⟩) (by rw [List.size_toArray]; omega) (by show (js.toArray.push _).size ≤ sizeLine + 1; rw [Array.size_push, List.size_toArray]; omega))
    have rv1 : Vals [V.ref s.heap.objs.size] [Value.ref s.heap.objs.size] := .cons rfl .nil
    have J2 := J.lset (its' := js ++ [.ref s.heap.objs.size]) (ys := acc ++ [.ref s.heap.objs.size]) (f := (·.push (.ref s.heap.objs.size))) (t' := tk + 1) hS2 ej (by simp) (rj.append rv1) (by rw [List.length_append, List.length_singleton]; omega)
    have nSe : ∀ b ∈ [e, it], b ≠ S := fun b hb r => by have := (fp b hb).1; rw [r, hS] at this; cases this
    have hel : ∀ b ∈ [e, it], b < s.heap.objs.size := fun b hb => by
      rcases (by simpa using hb : b = e ∨ b = it) with r | r
      · rw [r]; rcases en with ⟨_, h⟩ | ⟨_, _, _, _, h, _⟩ <;> exact Heap.lt_size h
      · rw [r]; obtain ⟨_, h, _⟩ := ti; exact Heap.lt_size h
    have old : ∀ b o, b ≠ S → h'.get? b = some o → (h'.update S (Obj.mapSeq (·.push (.ref s.heap.objs.size)))).get? b = some o := fun b o nb z => (Heap.get?_update_other _ _ (Ne.symm nb)).trans z
    refine ih (i + 1) (acc ++ [.ref s.heap.objs.size]) _ _ (by omega) J2 (fun b hb => ?_) ?_ ?_ (hf.2 i acc H _ s.heap.objs.size _ p hx hT rfl)
    · obtain ⟨_, r⟩ := fp b hb
      refine ⟨?_, r⟩
      rw [upd_ne (nSe b hb), upd_ne (Nat.ne_of_lt (hel b hb))]
      exact (fp b hb).1
    · have ee : EnAt h' e it ((i : Int) + 1) := en2
      show EnAt _ e it (((i + 1 : Nat)) : Int)
      rw [show ((i + 1 : Nat) : Int) = (i : Int) + 1 from rfl]
      rcases ee with ⟨o, r⟩ | ⟨b, c, y, o, r1, r2, r3, r4⟩
      · exact .inl ⟨o, old e _ (nSe e (by simp)) r⟩
      · by_cases hb : b = S
        · subst hb
          exact .inr ⟨b, c, y, _, old e _ (nSe e (by simp)) r1, Heap.get?_update_self _ ej rfl, r3, r4⟩
        · exact .inr ⟨b, c, y, o, old e _ (nSe e (by simp)) r1, old b _ hb r2, r3, r4⟩
    · exact ti2.at fun o z => old it o (nSe it (by simp)) z
def tEnumL (K : PySem.W.Frag) (te : TE) : TE := fun σ H Q => te σ H fun x H1 => ∃ a xs, x = .ref a ∧ SqT K H1 a xs ∧ ∀ S, H1 S = none → ∃ P : Nat → List V → Hp → Prop, FillsT K a S xs P ∧ P 0 [] (upd H1 S (.lst [])) ∧ ∀ acc H2, P xs.length acc H2 → Q (.ref S) H2
theorem en_list {Q : VK} (hc : X.calm = true) (I : Inv X pins σ H s) (en : IsEnum s.heap e it 0 .none) (ti : s.heap.IsTupleIter it a 0) (nea : e ≠ a) (nia : a ≠ it) (ne : e ≠ it) (fp : ∀ b ∈ [e, it], FpOk X pins H b)
    (hq : ∀ S, H S = none → ∃ P : Nat → List V → Hp → Prop, FillsT X.K a S xs P ∧ P 0 [] (upd H S (.lst [])) ∧ ∀ acc H2, P xs.length acc H2 → Q (.ref S) H2) :
    wpAny (model X.prog X.w) X.A (call (.type "list") [.ref e]) (EP X pins σ Q) X.xe s := by
  have hel : e < s.heap.objs.size := Heap.lt_size en
  have hil : it < s.heap.objs.size := by obtain ⟨_, h, _⟩ := ti; exact Heap.lt_size h
  refine callType_codes (Q₁ := fun r z => r = .ref s.heap.objs.size ∧ z = { s with heap := s.heap.push { cls := .type "list", data := .seq #[] } }) PySem.F.called_list (PySem.F.typeCall_list_1 _) PySem.F.entry_list_init (code_list_new _ ⟨rfl, rfl⟩) fun r z hz => ?_
  obtain ⟨rfl, rfl⟩ := hz
  have fr : H s.heap.objs.size = none := I.hok.fresh (Nat.le_refl _)
  obtain ⟨P, hf, p0, hd⟩ := hq _ fr
  have at0 : (s.heap.push { cls := .type "list", data := .seq #[] }).get? s.heap.objs.size = some { cls := .type "list", data := .seq #[] } := Heap.get?_push_size _ rfl
  refine ⟨⟨_, at0, rfl⟩, PySem.F.args_list_init_2 _ _, ?_⟩
  have I1 : Inv X pins σ (upd H s.heap.objs.size (.lst [])) { s with heap := s.heap.push { cls := .type "list", data := .seq #[] } } := I.lnew (its := []) (t' := s.toks) .nil (Nat.zero_le _)
  have en1 := Heap.get?_push_of_some { cls := .type "list", data := .seq #[] } en
  have ti1 : (s.heap.push { cls := .type "list", data := .seq #[] }).IsTupleIter it a 0 := ti.at fun o z => Heap.get?_push_of_some _ z
  refine wpAny_bind (m := Builtin.List.listItems (.ref s.heap.objs.size)) ?_
  unfold Builtin.List.listItems
  refine wpAny_bind (wpAny_seqItems at0 rfl (wpAny_pure ?_))
  refine wpAny_bind (m := updateSeq s.heap.objs.size (fun _ => #[])) (wpAny_updateSeq at0 rfl ?_)
  have I2 := I1.lset (f := fun _ => #[]) (its := []) (its' := []) (ys := []) (t' := s.toks) upd_same at0 rfl .nil (Nat.zero_le _)
  rw [upd_upd] at I2
  have other : ∀ b o, b ≠ s.heap.objs.size → (s.heap.push { cls := .type "list", data := .seq #[] }).get? b = some o → ((s.heap.push { cls := .type "list", data := .seq #[] }).update s.heap.objs.size (Obj.mapSeq fun _ => #[])).get? b = some o := fun b o nb z => (Heap.get?_update_other _ _ (Ne.symm nb)).trans z
  have en2 := other e _ (Nat.ne_of_lt hel) en1
  have ti2 := ti1.at fun o z => other it o (Nat.ne_of_lt hil) z
  obtain ⟨_, js, m, rj, _, ej⟩ := I2.lstM upd_same
  cases rj
  generalize (s.heap.push { cls := .type "list", data := .seq #[] }).update s.heap.objs.size (Obj.mapSeq fun _ => #[]) = h2 at I2 en2 ti2 ej
  refine wpAny_bind (m := letGo _) (wpAny_letGo ?_)
  unfold Builtin.List.listExtendWith
  have hT : Shared.TypeIs { s with heap := h2 } (.ref e) "enumerate" := ⟨_, en2, rfl⟩
  refine wpAny_bind (wpAny_typeOf hT ?_)
  have d1 : Builtin.List.listSameRef (.ref s.heap.objs.size) (.ref e) = false := by simp [Builtin.List.listSameRef]; exact Nat.ne_of_gt hel
  have d2 : (Value.type "enumerate" == Value.type "list") = false := by decide
  have d3 : (Value.type "enumerate" == Value.type "tuple") = false := by decide
  simp only [d1, d2, d3, Bool.or_false, Bool.false_eq_true, if_false]
  refine wpAny_bind (wpAny_pyIter_enum en2 ?_)
  refine wpAny_bind (wpAny_holding ?_)
  unfold Builtin.List.listLengthHint
  refine wpAny_bind (wpAny_specialOf hT enum_no_len ?_)
  refine wpAny_bind (m := specialOf (Value.ref e) (Str.ofString "__length_hint__")) (wpAny_specialOf hT enum_no_hint ?_)
  refine wpAny_pure ?_
  refine wpAny_bind (m := rule "list.extend.makes-room") (wpAny_rule ?_)
  refine wpAny_bind (m := Builtin.List.listTouch (.ref s.heap.objs.size)) ?_
  refine wpAny_bind (m := updateSeq s.heap.objs.size (fun vs => vs.push .none)) (wpAny_updateSeq ej rfl ?_)
  have I3 := I2.lset (f := fun vs => vs.push Value.none) (its := []) (its' := [Value.none]) (ys := [V.non]) (t' := s.toks) upd_same ej (by simp) (.cons rfl .nil) (by rw [List.length_singleton, sizeLine_eq]; decide)
  have oth2 : ∀ b o, b ≠ s.heap.objs.size → h2.get? b = some o → (h2.update s.heap.objs.size (Obj.mapSeq fun vs => vs.push Value.none)).get? b = some o := fun b o nb z => (Heap.get?_update_other _ _ (Ne.symm nb)).trans z
  have en3 := oth2 e _ (Nat.ne_of_lt hel) en2
  have ti3 := ti2.at fun o z => oth2 it o (Nat.ne_of_lt hil) z
  obtain ⟨_, ks, m2, rk, _, ek⟩ := I3.lstM upd_same
  obtain ⟨u2, rfl, ru2⟩ := rk.one
  generalize h2.update s.heap.objs.size (Obj.mapSeq fun vs => vs.push Value.none) = h3 at I3 en3 ti3 ek
  refine wpAny_updateSeq (s := Shared.mk h3 s.gens s.drawn s.toks s.os) ek rfl ?_ (by show 1 ≤ sizeLine; rw [sizeLine_eq]; decide) (by show 0 ≤ sizeLine + 1; exact Nat.zero_le _)
  have I4 := I3.lset (f := fun vs => vs.pop) (its := [u2]) (its' := []) (ys := []) (t' := s.toks) upd_same ek (by rfl) .nil (Nat.zero_le _)
  rw [upd_upd, upd_upd] at I4
  have oth3 : ∀ b o, b ≠ s.heap.objs.size → h3.get? b = some o → (h3.update s.heap.objs.size (Obj.mapSeq fun vs => vs.pop)).get? b = some o := fun b o nb z => (Heap.get?_update_other _ _ (Ne.symm nb)).trans z
  refine wpAny_pure ⟨plainId_quiet PySem.F.plain_extend_loop _, en_loop (P := P) (Rs := wants (fun r s₂ => r = .none ∧ EP X pins σ Q (.ref s.heap.objs.size) s₂) X.xe) (A1 := X.A.in1) (show X.A.in1.in1.in1.handled = none from I.ok.hd hc) nea nia ne hf (fun acc H' s' I' hR => ⟨rfl, .ref s.heap.objs.size, H', I', rfl, hd acc H' hR⟩) xs.length 0 [] _ _ rfl I4 (fun b hb => ?_) (.inl ⟨.none, oth3 e _ (Nat.ne_of_lt hel) en3⟩) (ti3.at fun o z => oth3 it o (Nat.ne_of_lt hil) z) p0⟩
  obtain ⟨f0, r⟩ := fp b hb
  refine ⟨?_, r⟩
  rw [upd_ne]
  · exact f0
  · rcases (by simpa using hb : b = e ∨ b = it) with r | r
    · rw [r]; exact Nat.ne_of_lt hel
    · rw [r]; exact Nat.ne_of_lt hil
theorem pe_listEnum {x : Expr} {te : TE} {p p2 pos pos2 : Pos} (hc : X.calm = true) (hgl : Gl X "list") (hml : X.mg "list" = none) (hg : Gl X "enumerate") (hm : X.mg "enumerate" = none) (he : PE X x te)
    (hs : starEach [x] X.env = [(false, eval x X.env)] := by rfl)
    (na : starEach [.Call (.Name "enumerate" p2) [x] [] pos2] X.env = (false, eval (.Call (.Name "enumerate" p2) [x] [] pos2) X.env) :: starEach [] X.env := by rfl) :
    PE X (.Call (.Name "list" p) [.Call (.Name "enumerate" p2) [x] [] pos2] [] pos) (tEnumL X.K te) := by
  have one : PA X [x] (L2.tCons te L2.tNil) := pa_cons he pa_nil (by rw [hs]; rfl)
  refine ⟨fun pins s σ H Q I h => ?_⟩
  refine Call_ (ld_blt I hgl hml boot_list (PyProof.Rows.callWith_type1 (args_cons (thn (Q := fun v s' => ∃ (e it a : Addr) (xs : List V) (H1 : Hp), v = .ref e ∧ Inv X pins σ H1 s' ∧ IsEnum s'.heap e it 0 .none ∧ s'.heap.IsTupleIter it a 0 ∧ e ≠ a ∧ a ≠ it ∧ e ≠ it ∧ (∀ b ∈ [e, it], FpOk X pins H1 b) ∧
    ∀ S, H1 S = none → ∃ P : Nat → List V → Hp → Prop, FillsT X.K a S xs P ∧ P 0 [] (upd H1 S (.lst [])) ∧ ∀ acc H2, P xs.length acc H2 → Q (.ref S) H2) ?_ fun v s1 ⟨e, it, a, xs, H1, ev, I1, en, ti, n1, n2, n3, fp, hq⟩ => args_nil ?_) na) na))
  · refine Call_ (ld_blt I hg hm boot_enumerate (PyProof.Rows.callWith_type1 (thn (one.run pos2 pins s σ H (fun vs H1 => match vs with
      | [v] => ∃ a xs, v = .ref a ∧ SqT X.K H1 a xs ∧ ∀ S, H1 S = none → ∃ P : Nat → List V → Hp → Prop, FillsT X.K a S xs P ∧ P 0 [] (upd H1 S (.lst [])) ∧ ∀ acc H2, P xs.length acc H2 → Q (.ref S) H2
      | _ => False) I h) fun us s1 ⟨vs, H1, I1, r1, q1⟩ => ?_) hs rfl))
    obtain ⟨v, rfl⟩ : ∃ v, vs = [v] := by
      match vs, q1 with
      | [v], _ => exact ⟨v, rfl⟩
    have q2 : ∃ a xs, v = .ref a ∧ SqT X.K H1 a xs ∧ ∀ S, H1 S = none → ∃ P : Nat → List V → Hp → Prop, FillsT X.K a S xs P ∧ P 0 [] (upd H1 S (.lst [])) ∧ ∀ acc H2, P xs.length acc H2 → Q (.ref S) H2 := q1
    obtain ⟨a, xs, rfl, hq, q⟩ := q2
    cases r1 with | cons r rr =>
    cases rr
    cases r
    obtain ⟨its, rv, pt, hz⟩ := I1.tuple hq
    have hal : a < s1.heap.objs.size := by obtain ⟨o, z, _⟩ := id pt; exact Heap.lt_size z
    refine dl_call_enum1 (begins_tuple a its.toArray) pt fun h' en hit hsz hk => ?_
    refine ⟨s1.heap.objs.size + 1, s1.heap.objs.size, a, xs, H1, rfl, I1.kept (t' := s1.toks) hk, en, ⟨_, hit, rfl, rfl⟩, Nat.ne_of_gt (Nat.lt_succ_of_lt hal), Nat.ne_of_lt hal, Nat.succ_ne_self _, fun b hb => ?_, q⟩
    have hle : s1.heap.objs.size ≤ b := by
      rcases (by simpa using hb : b = s1.heap.objs.size + 1 ∨ b = s1.heap.objs.size) with z | z
      · exact z ▸ Nat.le_add_right _ _
      · exact z ▸ Nat.le_refl _
    exact I1.fpOk hle (I1.hok.fresh hle)
  · subst ev
    exact en_list hc I1 en ti n1 n2 n3 fp hq
end
def enumLF (fa : Env → R D) : Env → R (List D) := fun env => (fa env).bind fun x => match x with
  | .tuple ds => .ret (enumD ds)
  | _ => .bad
section
variable {X : Cx} {c : Base} {W : WX} {w w' w1 w2 : Wd} {σ : L2.St} {env : Env} {e a b d : Expr} {fa fb fc : Env → R D}
theorem sqT_upd {K : PySem.W.Frag} {H : Hp} {a S : Addr} {xs : List V} {o : HO} (h : SqT K H a xs) (hS : H S = none) : SqT K (upd H S o) a xs := sqT_mono (fun b u e => by rw [upd_ne (ne_of_none e hS)]; exact e) h
theorem enum_take {ds : List D} {i : Nat} {d : D} (h : ds[i]? = some d) : (enumD ds).take (i + 1) = (enumD ds).take i ++ [.tuple [.int (i : Nat), d]] := by
  have e : (enumD ds)[i]? = some (.tuple [.int (i : Nat), d]) := by unfold enumD; rw [List.getElem?_mapIdx, h]; rfl
  rw [List.take_succ, e]; rfl
theorem dl_listEnum (hK : c.K = X.K) (h : PE X e (tEnumL X.K (liftE c W fa))) : PE X e (liftL c W (enumLF fa)) := pe_imp h fun σ H Q ⟨w, env, a, q⟩ => by
  refine ⟨w, env, a, R.wp_mono (wp_b q) (fun fu x hx v w1 e1 g1 r1 => ?_) fun _ _ h => h⟩
  subst e1
  split at hx
  · rename_i ds
    obtain ⟨a', xs, rfl, s1, a1⟩ := r1.isTup
    have hlen : xs.length = ds.length := a1.len
    refine ⟨a', xs, rfl, hK ▸ sqT_vis s1, fun S hS => ⟨fun i acc H2 => ∃ wT : Wd, Grow c w1 wT ∧ wT.fu = w1.fu ∧ wT.H S = none ∧ H2 = upd wT.H S (.lst acc) ∧ RpsW c wT acc ((enumD ds).take i) ∧ acc.length = i, ⟨?_, ?_⟩, ?_, ?_⟩⟩
    · rintro i acc H2 ⟨wT, g, ef, hn, rfl, ra, hl⟩
      exact ⟨hK ▸ sqT_upd (sqT_vis (sqT_mono (g.le g1.ok).ex s1)) hn, upd_same, hl⟩
    · rintro i acc H2 y T ob ⟨wT, g, ef, hn, rfl, ra, hl⟩ hy hT hob
      have nTS : T ≠ S := fun z => by rw [z, upd_same] at hT; cases hT
      rw [upd_ne nTS] at hT
      have hi : i < ds.length := by have := (List.getElem?_eq_some_iff.mp hy).1; omega
      obtain ⟨y', ey, ry⟩ := a1.at' (List.getElem?_eq_getElem hi)
      rw [hy] at ey
      obtain rfl := Option.some.inj ey
      have gT := Grow.new (o := .frz ob (.tup [.int (i : Nat), y])) g.ok hT
      refine ⟨{ wT with H := upd wT.H T (.frz ob (.tup [.int (i : Nat), y])) }, g.trans g1.ok gT, ef, by show upd wT.H T _ S = none; rw [upd_ne (Ne.symm nTS)]; exact hn, ?_, ?_, by rw [List.length_append, hl]; rfl⟩
      · funext b
        by_cases b1 : b = S
        · subst b1; rw [upd_same, upd_same]
        · rw [upd_ne b1, upd_ne b1]
          show _ = upd wT.H T _ b
          by_cases b2 : b = T
          · subst b2; rw [upd_same, upd_same]
          · rw [upd_ne b2, upd_ne b1, upd_ne b2]
      · rw [enum_take (List.getElem?_eq_getElem hi)]
        exact ((gT.le g.ok).rpAll ra).app (.cons (.tup (sqN_new g.ok hT hob) ((gT.le g.ok).rpAll (.cons (.int _) (.cons ((g.le g1.ok).rp ry) .nil)))) .nil)
    · exact ⟨w1, Grow.refl g1.ok, rfl, hS, rfl, .nil, rfl⟩
    · rintro acc H2 ⟨wT, g, ef, hn, rfl, ra, hl⟩
      have et : (enumD ds).take xs.length = enumD ds := List.take_of_length_le (by rw [enum_len, hlen]; exact Nat.le_refl _)
      rw [et] at ra
      refine own_new a (g1.trans a.ok g) ra ?_ S hn
      rw [ef]
      exact hx
  · exact hx.elim
end
section
variable {env : Env} {fu : Nat} {E : Nat → Er → Prop} {QL : Nat → List D → Prop} {fa : Env → R D}
theorem v_enumL (h : (fa env).wp fu (fun fu x => ∃ ds, x = .tuple ds ∧ QL fu (enumD ds)) E) : (enumLF fa env).wp fu QL E := by
  refine (R.wp_bind _ _ _ _ _).mpr (R.wp_mono h (fun fu x ⟨ds, e, q⟩ => ?_) fun _ _ h => h)
  subst e
  exact q
end
end DL
namespace DL
open PySem PySem.Spec PyProof.Rows L2
section
variable {X : Cx} {c : Base} {W : WX} {w w' w1 w2 : Wd} {σ : L2.St} {env : Env} {e a b d : Expr} {tg : Expr} {fa fb fc : Env → R D}
theorem itd_revR {j : Int} : ItD c (Itc (0 + (((j - 0).toNat : Nat) : Int) - 1) (-1) (j - 0).toNat) w (rngD 0 j).reverse := by
  have hl : (rngD 0 j).reverse.length = (j - 0).toNat := by unfold rngD; rw [List.length_reverse, List.length_map, List.length_range]
  refine ⟨fun w' m le k hi => by rw [hl] at hi; exact hi, fun w' m x H2 le k hy d hd => ?_, fun w' m le k hi => by rw [hl] at hi; exact Nat.le_of_eq hi.symm⟩
  obtain ⟨e1, rfl⟩ := hy
  have hm : m < (j - 0).toNat := by
    have := (List.getElem?_eq_some_iff.mp hd).1
    rw [hl] at this; exact this
  unfold rngD at hd
  rw [List.getElem?_reverse (by rw [List.length_map, List.length_range]; exact hm), List.length_map, List.length_range, List.getElem?_map, List.getElem?_range (by omega)] at hd
  obtain rfl : PyData.int (0 + (((j - 0).toNat - 1 - m : Nat) : Int)) = d := by simpa using hd
  have e2 : (0 : Int) + (((j - 0).toNat : Nat) : Int) - 1 + (m : Nat) * -1 = 0 + (((j - 0).toNat - 1 - m : Nat) : Int) := by omega
  rw [e2]
  exact ⟨w', e1.symm, rfl, Grow.refl k, .int _⟩
theorem di_revR (h : PI X tg e (iRevR (tRg1 (liftE c W fa)))) : PI X tg e (liftI c W (revRI fa)) := pi_imp h fun σ H Q ⟨w, env, a, q⟩ => by
  refine ⟨w, env, a, R.wp_mono (wp_b q) (fun fu x hx v w1 e1 g1 r1 => ?_) fun _ _ h => h⟩
  subst e1
  cases x with
  | int j =>
    obtain rfl := r1.isInt
    have hx : (guard' (rngOk 0 j) (R.ret (rngD 0 j).reverse)).wp w1.fu _ _ := hx
    obtain ⟨h1, h2⟩ := wp_guard.mp hx
    obtain ⟨b1, b2, b3, b4⟩ := of_decide_eq_true h1
    refine ⟨j, rfl, b1, b2, b3, b4, ?_⟩
    exact h2 _ w1 rfl g1 itd_revR
  | _ => exact hx.elim
end
end DL
namespace DL
open PySem PySem.Spec PyProof.Rows L2
def tRevL (K : PySem.W.Frag) (te : TE) : TE := fun σ H Q => te σ H fun x H1 => ∃ a xs, x = .ref a ∧ SqL K H1 a xs ∧ ∀ p, H1 p = none → Q (.ref p) (upd H1 p (.lst xs.reverse))
theorem pe_revLst {X : Cx} {e : Expr} {te : TE} {k : Nat} {p1 p2 p3 pos : Pos} (he : PE X e te) : PE X (.Subscript e (.Slice none none (some (.UnaryOp .USub (.Constant (.int 1) k p1) p2)) p3) pos) (tRevL X.K te) := by
  refine ⟨fun pins s σ H Q I h => Subscript_ (thn (he.run pins s σ H _ I h) fun v s1 ⟨x, H1, I1, r1, q1⟩ => ?_)⟩
  obtain ⟨a, xs, rfl, hx, q⟩ := q1
  cases r1
  have step1 : PO X (some (.UnaryOp .USub (.Constant (.int 1) k p1) p2)) (tPart (tUn (rU fun i => .int (-i)) (tC (.int 1)))) := po_some (pe_un un_neg pe_int)
  refine wpAny_Slice (thn (po_none.run pins s1 σ H1 (fun o G => o = none ∧ G = H1) I1 ⟨rfl, rfl⟩) fun vl s2 ⟨l, G2, I2, pl, el, g2⟩ => ?_)
  subst el g2
  refine thn (po_none.run pins s2 σ G2 (fun o G => o = none ∧ G = G2) I2 ⟨rfl, rfl⟩) fun vu s3 ⟨u, G3, I3, pu, eu, g3⟩ => ?_
  subst eu g3
  refine thn (step1.run pins s3 σ G3 (fun o G => o = some (-1) ∧ G = G3) I3 ⟨1, rfl, -1, rfl, rfl, rfl⟩) fun vs s4 ⟨o, G4, I4, ps, eo, g4⟩ => ?_
  subst eo g4
  have I5 : Inv X pins σ G4 { s4 with heap := s4.heap.push { cls := .type "slice", data := .fields #[vl, vu, vs] } } := I4.kept (t' := s4.toks) fun b ob z => Heap.get?_push_of_some _ z
  obtain ⟨its, r, ht, hz⟩ := I5.list hx
  have hlen := r.length
  show wpAny (model X.prog X.w) X.A (subscriptTail e (.Slice none none (some (.UnaryOp .USub (.Constant (.int 1) k p1) p2)) p3) (.ref a) (.ref s4.heap.objs.size)) (EP X pins σ Q) X.xe { s4 with heap := s4.heap.push { cls := .type "slice", data := .fields #[vl, vu, vs] } }
  refine tail_any (ops := [.ref a, .ref s4.heap.objs.size]) ht.isList.typeIs PySem.F.slot_list_getitem.lookup ?_ (by with_unfolding_all rfl)
  refine wpAny_getItem_list_slice ht.isList (Heap.IsSliceOf.new _ vl vu vs) pl pu ps (by decide) ?_ (by rw [List.size_toArray]; omega)
  rw [PySem.W.krv_pick]
  exact ⟨.ref _, _, I5.lnew (t' := s4.toks) (its := its.reverse) r.reverse (by rw [List.length_reverse]; omega), rfl, q _ (I5.hok.fresh (Nat.le_refl _))⟩
def ownRev (i : Nat) : Env → R (List D) := fun env => match env[i]? with
  | some (some (.own es)) => .ret es.reverse
  | _ => .bad
section
variable {X : Cx} {c : Base} {W : WX} {w w' w1 w2 : Wd} {σ : L2.St} {env : Env} {e a b d : Expr} {fa fb fc : Env → R D}
theorem dl_ownRev {i : Nat} (hK : c.K = X.K) (h : PE X e (tRevL X.K (tVar i))) : PE X e (liftL c W (ownRev i)) := pe_imp h fun σ H Q ⟨w, env, a, q⟩ => by
  obtain ⟨rfl⟩ := a.h
  unfold ownRev at q
  split at q
  · rename_i es he
    obtain ⟨p, vs, h1, h2, h3, h4⟩ := own_here a he
    exact ⟨.ref p, h1, p, vs, rfl, .inl (.inl h3), own_new a (Grow.refl a.ok) h4.rev q⟩
  · exact q.elim
end
end DL
namespace DL
open PySem PySem.Spec PyProof.Rows L2
theorem lexAt_gt : ∀ (ns ms : List Int) (i : Nat) (e r : Nat → Bool) (z : Bool), (∀ j, j < min ns.length ms.length → e (i + j) = decide (ns.getD j 0 = ms.getD j 0) ∧ r (i + j) = decide (ms.getD j 0 < ns.getD j 0)) → z = decide (ms.length < ns.length) → Ob.lexAt e r z i (min ns.length ms.length) = HT.lexLt ms ns
  | [], [], i, e, r, z, _, hz => by rw [hz]; rfl
  | [], y :: ms, i, e, r, z, _, hz => by
    rw [hz]
    show Ob.lexAt e r _ i (min 0 (ms.length + 1)) = false
    rw [Nat.zero_min]
    show decide ((y :: ms).length < 0) = false
    exact decide_eq_false (by omega)
  | x :: ns, [], i, e, r, z, _, hz => by
    rw [hz]
    show Ob.lexAt e r _ i (min (ns.length + 1) 0) = true
    rw [Nat.min_zero]
    show decide (0 < ns.length + 1) = true
    exact decide_eq_true (by omega)
  | x :: ns, y :: ms, i, e, r, z, h, hz => by
    have hmin : min (x :: ns).length (y :: ms).length = min ns.length ms.length + 1 := by simp only [List.length_cons]; omega
    rw [hmin] at h ⊢
    rw [Ob.lexAt_succ]
    obtain ⟨e0, r0⟩ := h 0 (by omega)
    have e0 : e i = decide (x = y) := e0
    have r0 : r i = decide (y < x) := r0
    rw [HT.lexLt_cons]
    by_cases hxy : x = y
    · rw [e0, decide_eq_true hxy, if_pos rfl, if_pos hxy.symm]
      exact lexAt_gt ns ms (i + 1) e r z (fun j hj => by
        obtain ⟨a, b⟩ := h (j + 1) (by omega)
        rw [show i + 1 + j = i + (j + 1) by omega]
        exact ⟨by simpa using a, by simpa using b⟩) (by rw [hz]; simp)
    · rw [e0, decide_eq_false hxy, if_neg (by decide), if_neg (fun q => hxy q.symm), r0]
def rGtT (K : PySem.W.Frag) : R2 := fun x y H Q => ∃ (a b : Addr) (ns ms : List Int), x = .ref a ∧ y = .ref b ∧ SqT K H a (ns.map V.int) ∧ SqT K H b (ms.map V.int) ∧ Q (.bl (HT.lexLt ms ns)) H
theorem op_gtT {X : Cx} (hu : X.A.units < cLine) : OpR X (compareOp .Gt) (rGtT X.K) := by
  intro pins s σ H x y v u Q I rx ry h
  obtain ⟨a, b, ns, ms, rfl, rfl, ha, hb, q⟩ := h
  cases rx
  cases ry
  obtain ⟨its, r1, p1, _⟩ := I.tuple ha
  obtain ⟨jts, r2, p2, _⟩ := I.tuple hb
  have i1 : IntsAre its ns := Vals.ints r1
  have i2 : IntsAre jts ms := Vals.ints r2
  have l1 : its.toArray.size = ns.length := by rw [List.size_toArray]; exact i1.length
  have l2 : jts.toArray.size = ms.length := by rw [List.size_toArray]; exact i2.length
  have g1 : ∀ j (hj : j < its.toArray.size), ∃ t, its.toArray[j] = .int (ns.getD j 0) t := fun j hj => PyProof.Rows.IntsAre.int_at i1 _ _ (by simp at hj; simp [hj])
  have g2 : ∀ j (hj : j < jts.toArray.size), ∃ t, jts.toArray[j] = .int (ms.getD j 0) t := fun j hj => PyProof.Rows.IntsAre.int_at i2 _ _ (by simp at hj; simp [hj])
  have G := Ob.RcOp.tuples_gt (A := X.A) (s := s) (e := fun j => decide (ns.getD j 0 = ms.getD j 0)) (r := fun j => decide (ms.getD j 0 < ns.getD j 0)) p1 p2 hu (fun j h1 h2 => by
      obtain ⟨t, et⟩ := g1 j h1
      obtain ⟨t', et'⟩ := g2 j h2
      rw [et, et']
      have z : decide (ns.getD j 0 = ms.getD j 0) = (ns.getD j 0 == ms.getD j 0) := by
        by_cases c : ns.getD j 0 = ms.getD j 0
        · rw [decide_eq_true c]; exact (beq_iff_eq.mpr c).symm
        · rw [decide_eq_false c]; exact (beq_eq_false_iff_ne.mpr c).symm
      rw [z]
      exact SeqAt.EqAt.int_int _ _ _ _)
    (fun j h1 h2 _ => by
      obtain ⟨t, et⟩ := g1 j h1
      obtain ⟨t', et'⟩ := g2 j h2
      rw [et, et']
      exact Ob.RcOp.gt_int _ _ _ _)
  rw [l1, l2, lexAt_gt ns ms 0 _ _ _ (fun j _ => by rw [Nat.zero_add]; exact ⟨rfl, rfl⟩) rfl] at G
  exact G X.prog X.w X.xe (EP X pins σ Q) ⟨.bl _, H, I, rfl, q⟩
def gGtA (x y : D) : R D := match x, y with
  | .int i, .int j => .ret (.bool (decide (j < i)))
  | .tuple a, .tuple b => tupLt b a
  | _, _ => .bad
def rGtAll (K : PySem.W.Frag) : R2 := orR (rI0 fun i j => .bl (decide (j < i))) (rGtT K)
theorem op_gtAll {X : Cx} (hu : X.A.units < cLine) : OpR X (compareOp .Gt) (rGtAll X.K) := OpR.or op_gt (op_gtT hu)
theorem d_gtA : OpDK rGtAll gGtA := fun c W σ w x y v u Q k r1 r2 h => by
  cases x <;> cases y <;> first
    | exact h.elim
    | skip
  · obtain rfl := r1.isInt
    obtain rfl := r2.isInt
    exact .inl ⟨_, _, rfl, rfl, PQ.here k h (.bl _)⟩
  · rename_i ta tb
    have h5 : (tupLt tb ta).wp w.fu (PQ c w Q) (EK c W σ w) := h
    clear h
    unfold tupLt at h5
    split at h5
    · rename_i ns ms e1 e2
      have e1 := intsOf_map e1
      have e2 := intsOf_map e2
      subst e1 e2
      obtain ⟨a, xs, rfl, s1, a1⟩ := r1.isTup
      obtain ⟨b, ys, rfl, s2, a2⟩ := r2.isTup
      obtain rfl := rpInts a1
      obtain rfl := rpInts a2
      exact .inr ⟨a, b, ms, ns, rfl, rfl, sqT_vis s1, sqT_vis s2, PQ.here (d := .bool _) k h5 (.bl _)⟩
    · exact h5.elim
end DL
namespace DL
open PySem PySem.Spec PyProof.Rows L2
def rSumT (K : PySem.W.Frag) : List V → Hp → VK → Prop := fun vs H Q => ∃ (a : Addr) (ns : List Int), vs = [V.ref a] ∧ SqT K H a (ns.map V.int) ∧ Q (.int ns.sum) H
theorem cr_sumT {X : Cx} (hc : X.calm = true) : CallR X (.builtin "sum") (rSumT X.K) := by
  intro pins s σ H vs us Q I r h
  obtain ⟨a, ns, rfl, hs, q⟩ := h
  obtain ⟨its, rv, ht, _⟩ := I.tuple hs
  rw [Vals.ref1 r]
  obtain ⟨xs, e⟩ := (Vals.ints rv).allInts.items
  have hn : numsOf (intItems xs).toList = ns := by rw [← e]; exact (Vals.ints rv).numsOf
  rw [nums_intItems] at hn
  have ht : s.heap.IsTuple a its.toArray := ht
  rw [e] at ht
  refine PySem.W.ktm_sumG (I.ok.hd hc) ht fun h' tk t' hk => ?_
  rw [preSum_eq, List.take_of_length_le (by simp), hn]
  exact ⟨.int _, H, I.kept hk, ⟨_, rfl⟩, q⟩
def rSumA (K : PySem.W.Frag) : List V → Hp → VK → Prop := fun vs H Q => rSum K vs H Q ∨ rSumT K vs H Q
theorem cr_sumA {X : Cx} (hc : X.calm = true) : CallR X (.builtin "sum") (rSumA X.K) := by
  intro pins s σ H vs us Q I r h
  rcases h with h | h
  · exact cr_sum hc pins s σ H vs us Q I r h
  · exact cr_sumT hc pins s σ H vs us Q I r h
def gSumA (xs : List D) : R D := match xs with
  | [.tuple ds] => match intsOf ds with
    | some ns => .ret (.int ns.sum)
    | none => .bad
  | _ => gSum xs
theorem d_sumA : CallDK rSumA gSumA := fun c W σ w x v Q k r h => by
  unfold gSumA at h
  split at h
  · split at h
    · rename_i ns e
      have e := intsOf_map e
      subst e
      cases r with
      | cons r1 r2 =>
        cases r2
        obtain ⟨a, xs, rfl, s1, a1⟩ := r1.isTup
        obtain rfl := rpInts a1
        exact .inr ⟨a, ns, rfl, sqT_vis s1, PQ.here (d := .int _) k h (.int _)⟩
    · exact h.elim
  · exact .inl (d_sum c W σ w x v Q k r h)
def gIsNotA (x y : D) : R D := match x, y with
  | x, .none => .ret (.bool (!isNonD x))
  | .bool a, .bool b => .ret (.bool (!decide (a = b)))
  | _, _ => .bad
def rNotBl : R2 := fun x y H Q => ∃ a b, x = .bl a ∧ y = .bl b ∧ Q (.bl (!decide (a = b))) H
theorem op_isNotA {X : Cx} : OpR X (compareOp .IsNot) (orR rNotNn rNotBl) := OpR.or op_notN op_isnot_bl
theorem d_isNotA : OpD (orR rNotNn rNotBl) gIsNotA := fun c W σ w x y v u Q k r1 r2 h => by
  cases y with
  | none =>
    have h' : (R.ret (PyData.bool (!isNonD x))).wp w.fu (PQ c w Q) (EK c W σ w) := by
      cases x <;> exact h
    refine .inl ⟨r2.isNon, ?_⟩
    rw [isNon_v r1]
    exact PQ.here k h' (.bl _)
  | bool b =>
    cases x with
    | bool a => exact .inr ⟨_, _, r1.isBl, r2.isBl, PQ.here k h (.bl _)⟩
    | _ => exact h.elim
  | _ => cases x <;> exact h.elim
end DL
namespace DL
open PySem PySem.Spec PyProof.Rows L2
def B_is_whole : Env → R Out :=
  (retS (andD (isiD "int" (varD 0)) (andD (notD (isiD "bool" (varD 0))) (chainD gLe gLe (varD 1) (varD 0) (varD 2)))))
def F_is_whole : List D → R D := defF 3 B_is_whole
def B_is_pair : Env → R Out :=
  (retS (andD (isiD "tuple" (varD 0)) (bin gEq (callD gLen (consA (varD 0) nilA)) (cD (.int 2)))))
def F_is_pair : List D → R D := defF 1 B_is_pair
def B_is_rising : Env → R Out :=
  (retS (callD gAll (consA (lstD (compD (rngI (consA (bin gSub (callD gLen (consA (varD 0) nilA)) (cD (.int 1))) nilA)) (tName 1) yesT (bin gLt (bin gIx (varD 0) (varD 1)) (bin gIx (varD 0) (bin gAdd (varD 1) (cD (.int 1))))) [1])) nilA)))
def F_is_rising : List D → R D := defF 2 B_is_rising
def B_is_pattern : Env → R Out :=
  (retS (andD (isiD "str" (varD 0)) (andD (bin gLe (callD gLen (consA (varD 0) nilA)) (cD (.int 4))) (andD (bin gInA (cD (.str "o")) (varD 0)) (bin gEq (bin gAdd (strM gCount (varD 0) (cD (.str "o"))) (strM gCount (varD 0) (cD (.str "-")))) (callD gLen (consA (varD 0) nilA)))))))
def F_is_pattern : List D → R D := defF 1 B_is_pattern
def B_is_span : Env → R Out :=
  (retS (andD (callF 1 F_is_pair (consA (varD 0) nilA)) (andD (callF 3 F_is_whole (consA (bin gIx (varD 0) (cD (.int 0))) (consA (cD (.int (-30))) (consA (cD (.int 30)) nilA)))) (callF 3 F_is_whole (consA (bin gIx (varD 0) (cD (.int 1))) (consA (bin gIx (varD 0) (cD (.int 0))) (consA (cD (.int 30)) nilA)))))))
def F_is_span : List D → R D := defF 1 B_is_span
def B_is_spans : Env → R Out :=
  (retS (andD (isiD "tuple" (varD 0)) (andD (bin gLe (callD gLen (consA (varD 0) nilA)) (cD (.int 2))) (andD (callD gAll (consA (lstD (compD (iterF (varD 0)) (tName 1) yesT (callF 1 F_is_span (consA (varD 1) nilA)) [1])) nilA)) (callF 1 F_is_rising (consA (varD 0) nilA))))))
def F_is_spans : List D → R D := defF 2 B_is_spans
def B_is_calendar : Env → R Out :=
  (retS (andD (isiD "tuple" (varD 0)) (andD (bin gEq (callD gLen (consA (varD 0) nilA)) (cD (.int 3))) (andD (callF 1 F_is_pattern (consA (bin gIx (varD 0) (cD (.int 0))) nilA)) (andD (callF 1 F_is_spans (consA (bin gIx (varD 0) (cD (.int 1))) nilA)) (callF 1 F_is_spans (consA (bin gIx (varD 0) (cD (.int 2))) nilA)))))))
def F_is_calendar : List D → R D := defF 1 B_is_calendar
def B_is_name : Env → R Out :=
  (retS (andD (isiD "str" (varD 0)) (andD (bin gEq (callD gLen (consA (varD 0) nilA)) (cD (.int 1))) (chainD gLe gLe (cD (.str "a")) (varD 0) (cD (.str "z"))))))
def F_is_name : List D → R D := defF 1 B_is_name
def B_is_named_calendar : Env → R Out :=
  (retS (andD (callF 1 F_is_pair (consA (varD 0) nilA)) (andD (callF 1 F_is_name (consA (bin gIx (varD 0) (cD (.int 0))) nilA)) (callF 1 F_is_calendar (consA (bin gIx (varD 0) (cD (.int 1))) nilA)))))
def F_is_named_calendar : List D → R D := defF 1 B_is_named_calendar
def B_is_book : Env → R Out :=
  (retS (andD (isiD "tuple" (varD 0)) (andD (bin gLe (callD gLen (consA (varD 0) nilA)) (cD (.int 4))) (andD (callD gAll (consA (lstD (compD (iterF (varD 0)) (tName 1) yesT (callF 1 F_is_named_calendar (consA (varD 1) nilA)) [1])) nilA)) (callF 1 F_is_rising (consA (lstD (compD (iterF (varD 0)) (tName 1) yesT (bin gIx (varD 1) (cD (.int 0))) [1])) nilA))))))
def F_is_book : List D → R D := defF 2 B_is_book
def B_is_letter : Env → R Out :=
  (retS (orD (callF 1 F_is_name (consA (varD 0) nilA)) (andD (isiD "str" (varD 0)) (bin gEq (varD 0) (cD (.str "+"))))))
def F_is_letter : List D → R D := defF 1 B_is_letter
def B_is_route : Env → R Out :=
  (retS (andD (isiD "tuple" (varD 0)) (andD (bin gLe (callD gLen (consA (varD 0) nilA)) (cD (.int 8))) (callD gAll (consA (lstD (compD (iterF (varD 0)) (tName 1) yesT (callF 1 F_is_letter (consA (varD 1) nilA)) [1])) nilA)))))
def F_is_route : List D → R D := defF 2 B_is_route
def B_need_day : Env → R Out :=
  (ifS (notT (truT (callF 3 F_is_whole (consA (varD 0) (consA (un gNeg (cD (.int 1000000000000000))) (consA (cD (.int 1000000000000000)) nilA))))))
    (raiseS "BadDay" (cD (.str "a day is an integer from -10 ** 15 to 10 ** 15")))
    passS)
def F_need_day : List D → R D := defF 1 B_need_day
def B_need_calendar : Env → R Out :=
  (ifS (notT (truT (callF 1 F_is_calendar (consA (varD 0) nilA))))
    (raiseS "BadCalendar" (cD (.str "a calendar is a tuple of a pattern, closed spans and opened spans")))
    passS)
def F_need_calendar : List D → R D := defF 1 B_need_calendar
def B_in_spans : Env → R Out :=
  (seqS (forS (iterF (varD 0)) (tTup 2 (tCons (tName 2) (tCons (tName 3) tNil)))
    (ifS (blT (chainD gLe gLe (varD 2) (varD 1) (varD 3)))
    (retS (cD (.bool true)))
    passS))
    (retS (cD (.bool false))))
def F_in_spans : List D → R D := defF 4 B_in_spans
def B_open_on : Env → R Out :=
  (seqS (asgS (varD 0) (tTup 3 (tCons (tName 2) (tCons (tName 3) (tCons (tName 4) tNil)))))
    (seqS (ifS (blT (chainD gLe gLe (cD (.int (-30))) (varD 1) (cD (.int 30))))
    (seqS (ifS (truT (callF 2 F_in_spans (consA (varD 3) (consA (varD 1) nilA))))
    (retS (cD (.bool false)))
    passS)
    (ifS (truT (callF 2 F_in_spans (consA (varD 4) (consA (varD 1) nilA))))
    (retS (cD (.bool true)))
    passS))
    passS)
    (retS (bin gEq (bin gIx (varD 2) (bin gMod (varD 1) (callD gLen (consA (varD 2) nilA)))) (cD (.str "o"))))))
def F_open_on : List D → R D := defF 5 B_open_on
def B_is_open : Env → R Out :=
  (seqS (dropS (callF 1 F_need_calendar (consA (varD 0) nilA)))
    (seqS (dropS (callF 1 F_need_day (consA (varD 1) nilA)))
    (retS (callF 2 F_open_on (consA (varD 0) (consA (varD 1) nilA))))))
def F_is_open : List D → R D := defF 2 B_is_open
def B_open_from : Env → R Out :=
  (seqS (whileS (notT (truT (callF 2 F_open_on (consA (varD 0) (consA (varD 1) nilA)))))
    (augS 1 gAddI (cD (.int 1))))
    (retS (varD 1)))
def F_open_from : List D → R D := defF 2 B_open_from
def B_next_open : Env → R Out :=
  (seqS (dropS (callF 1 F_need_calendar (consA (varD 0) nilA)))
    (seqS (dropS (callF 1 F_need_day (consA (varD 1) nilA)))
    (retS (callF 2 F_open_from (consA (varD 0) (consA (varD 1) nilA))))))
def F_next_open : List D → R D := defF 2 B_next_open
def B_open_until : Env → R Out :=
  (seqS (whileS (notT (truT (callF 2 F_open_on (consA (varD 0) (consA (varD 1) nilA)))))
    (augS 1 gSubI (cD (.int 1))))
    (retS (varD 1)))
def F_open_until : List D → R D := defF 2 B_open_until
def B_last_open : Env → R Out :=
  (seqS (dropS (callF 1 F_need_calendar (consA (varD 0) nilA)))
    (seqS (dropS (callF 1 F_need_day (consA (varD 1) nilA)))
    (retS (callF 2 F_open_until (consA (varD 0) (consA (varD 1) nilA))))))
def F_last_open : List D → R D := defF 2 B_last_open
def B_need_number : Env → R Out :=
  (ifS (notT (truT (callF 3 F_is_whole (consA (varD 0) (consA (cD (.int 0)) (consA (varD 1) nilA))))))
    (raiseS "BadNumber" (jsD [(cD (.str "the number is an integer from 0 to ")), (fmtD (varD 1))] Str.empty))
    passS)
def F_need_number : List D → R D := defF 2 B_need_number
def B_plain_rank : Env → R Out :=
  (seqS badS
    (retS (bin gAdd (bin gMulA (varD 2) (strM gCount (varD 0) (cD (.str "o")))) (strM gCount (slD gSl (varD 0) noPart (part (varD 3))) (cD (.str "o"))))))
def F_plain_rank : List D → R D := defF 4 B_plain_rank
def B_plain_day : Env → R Out :=
  (seqS (setS 2 (lstD (compD (rngI (consA (callD gLen (consA (varD 0) nilA)) nilA)) (tName 5) (blT (bin gEq (bin gIx (varD 0) (varD 5)) (cD (.str "o")))) (varD 5) [5])))
    (seqS badS
    (retS (bin gAdd (bin gMulA (varD 3) (callD gLen (consA (varD 0) nilA))) (bin gIx (varD 2) (varD 4))))))
def F_plain_day : List D → R D := defF 6 B_plain_day
def B_ranked_day : Env → R Out :=
  (seqS (setS 2 (bin gIx (varD 0) (cD (.int 0))))
    (seqS (setS 3 (callF 2 F_plain_rank (consA (varD 2) (consA (cD (.int (-30))) nilA))))
    (seqS (ifS (blT (bin gLt (varD 1) (varD 3)))
    (retS (callF 2 F_plain_day (consA (varD 2) (consA (varD 1) nilA))))
    passS)
    (seqS (setS 4 (lstD (compD (rngI (consA (cD (.int (-30))) (consA (bin gAdd (cD (.int 30)) (cD (.int 1))) nilA))) (tName 5) (truT (callF 2 F_open_on (consA (varD 0) (consA (varD 5) nilA)))) (varD 5) [5])))
    (seqS (ifS (blT (bin gLt (varD 1) (bin gAdd (varD 3) (callD gLen (consA (varD 4) nilA)))))
    (retS (bin gIx (varD 4) (bin gSub (varD 1) (varD 3))))
    passS)
    (retS (callF 2 F_plain_day (consA (varD 2) (consA (bin gAdd (bin gSub (bin gSub (varD 1) (varD 3)) (callD gLen (consA (varD 4) nilA))) (callF 2 F_plain_rank (consA (varD 2) (consA (bin gAdd (cD (.int 30)) (cD (.int 1))) nilA)))) nilA)))))))))
def F_ranked_day : List D → R D := defF 6 B_ranked_day
def B_rank : Env → R Out :=
  (seqS (setS 2 (bin gIx (varD 0) (cD (.int 0))))
    (seqS (ifS (blT (bin gLe (varD 1) (cD (.int (-30)))))
    (retS (callF 2 F_plain_rank (consA (varD 2) (consA (varD 1) nilA))))
    passS)
    (seqS (setS 3 (lstD (compD (rngI (consA (cD (.int (-30))) (consA (callD gMin (consA (varD 1) (consA (bin gAdd (cD (.int 30)) (cD (.int 1))) nilA))) nilA))) (tName 5) (truT (callF 2 F_open_on (consA (varD 0) (consA (varD 5) nilA)))) (varD 5) [5])))
    (seqS (setS 4 (bin gAdd (callF 2 F_plain_rank (consA (varD 2) (consA (cD (.int (-30))) nilA))) (callD gLen (consA (varD 3) nilA))))
    (seqS (ifS (blT (bin gLe (varD 1) (cD (.int 30))))
    (retS (varD 4))
    passS)
    (retS (bin gSub (bin gAdd (varD 4) (callF 2 F_plain_rank (consA (varD 2) (consA (varD 1) nilA)))) (callF 2 F_plain_rank (consA (varD 2) (consA (bin gAdd (cD (.int 30)) (cD (.int 1))) nilA))))))))))
def F_rank : List D → R D := defF 6 B_rank
def B_nth_open : Env → R Out :=
  (seqS (dropS (callF 1 F_need_calendar (consA (varD 0) nilA)))
    (seqS (dropS (callF 1 F_need_day (consA (varD 1) nilA)))
    (seqS (dropS (callF 2 F_need_number (consA (varD 2) (consA (cD (.int 1000000000000000)) nilA))))
    (retS (callF 2 F_ranked_day (consA (varD 0) (consA (bin gAdd (callF 2 F_rank (consA (varD 0) (consA (varD 1) nilA))) (varD 2)) nilA)))))))
def F_nth_open : List D → R D := defF 3 B_nth_open
def B_count_open : Env → R Out :=
  (seqS (dropS (callF 1 F_need_calendar (consA (varD 0) nilA)))
    (seqS (dropS (callF 1 F_need_day (consA (varD 1) nilA)))
    (seqS (dropS (callF 1 F_need_day (consA (varD 2) nilA)))
    (seqS (ifS (blT (bin gLt (varD 2) (varD 1)))
    (retS (cD (.int 0)))
    passS)
    (retS (bin gSub (callF 2 F_rank (consA (varD 0) (consA (bin gAdd (varD 2) (cD (.int 1))) nilA))) (callF 2 F_rank (consA (varD 0) (consA (varD 1) nilA)))))))))
def F_count_open : List D → R D := defF 3 B_count_open
def B_unlike_day : Env → R Out :=
  (seqS (dropS (callF 1 F_need_calendar (consA (varD 0) nilA)))
    (seqS (dropS (callF 1 F_need_calendar (consA (varD 1) nilA)))
    (seqS (forS (rngI (consA (bin gAdd (bin gAdd (cD (.int 30)) (cD (.int 12))) (cD (.int 1))) nilA)) (tName 2)
    (forS (iterF (tupD (consA (varD 2) (consA (un gNeg (varD 2)) nilA)))) (tName 3)
    (ifS (blT (bin gNe (callF 2 F_open_on (consA (varD 0) (consA (varD 3) nilA))) (callF 2 F_open_on (consA (varD 1) (consA (varD 3) nilA)))))
    (retS (varD 3))
    passS)))
    (retS (cD .none)))))
def F_unlike_day : List D → R D := defF 4 B_unlike_day
def B_need_book : Env → R Out :=
  (ifS (notT (truT (callF 1 F_is_book (consA (varD 0) nilA))))
    (raiseS "BadBook" (cD (.str "a book is a tuple of names with their calendars, ascending by names")))
    passS)
def F_need_book : List D → R D := defF 1 B_need_book
def B_need_route : Env → R Out :=
  (ifS (notT (truT (callF 1 F_is_route (consA (varD 0) nilA))))
    (raiseS "BadRoute" (jsD [(cD (.str "a route is a tuple of at most ")), (fmtD (cD (.int 8))), (cD (.str " letters"))] Str.empty))
    passS)
def F_need_route : List D → R D := defF 1 B_need_route
def B_need_start : Env → R Out :=
  (seqS (dropS (callF 1 F_need_book (consA (varD 0) nilA)))
    (seqS (dropS (callF 1 F_need_route (consA (varD 1) nilA)))
    (dropS (callF 1 F_need_day (consA (varD 2) nilA)))))
def F_need_start : List D → R D := defF 3 B_need_start
def B_move : Env → R Out :=
  (seqS (forS (iterF (varD 1)) (tName 3)
    (setS 2 (ifD (blT (bin gEq (varD 3) (cD (.str "+")))) (bin gAdd (varD 2) (cD (.int 1))) (callF 2 F_open_from (consA (bin gGetK (varD 0) (varD 3)) (consA (varD 2) nilA))))))
    (retS (varD 2)))
def F_move : List D → R D := defF 4 B_move
def B_calendars_for : Env → R Out :=
  (seqS (setS 2 (callD gDict (consA (varD 0) nilA)))
    (seqS (forS (iterF (varD 1)) (tName 3)
    (ifS (andT (blT (bin gNe (varD 3) (cD (.str "+")))) (blT (bin (gInK true) (varD 3) (varD 2))))
    badS
    passS))
    (retS (varD 2))))
def F_calendars_for : List D → R D := defF 4 B_calendars_for
def B_moved : Env → R Out :=
  (seqS (dropS (callF 3 F_need_start (consA (varD 0) (consA (varD 1) (consA (varD 2) nilA)))))
    (retS (callF 3 F_move (consA (callF 2 F_calendars_for (consA (varD 0) (consA (varD 1) nilA))) (consA (varD 1) (consA (varD 2) nilA))))))
def F_moved : List D → R D := defF 3 B_moved
def B_stops : Env → R Out :=
  (seqS (dropS (callF 3 F_need_start (consA (varD 0) (consA (varD 1) (consA (varD 2) nilA)))))
    (seqS (setS 3 (callF 2 F_calendars_for (consA (varD 0) (consA (varD 1) nilA))))
    (seqS (setO 4 (dispL (consA (varD 2) nilA)))
    (seqS (forS (iterF (varD 1)) (tName 5)
    (appS 4 (callF 3 F_move (consA (varD 3) (consA (tupD (consA (varD 5) nilA)) (consA (ownIx 4 (un gNeg (cD (.int 1)))) nilA))))))
    (retO 4)))))
def F_stops : List D → R D := defF 6 B_stops
def FL_stops : List D → R (List D) := defL 6 B_stops
def B_move_back : Env → R Out :=
  (seqS (forS (iterF (un gRevT (varD 1))) (tName 3)
    (setS 2 (ifD (blT (bin gEq (varD 3) (cD (.str "+")))) (bin gSub (varD 2) (cD (.int 1))) (callF 2 F_open_until (consA (bin gGetK (varD 0) (varD 3)) (consA (varD 2) nilA))))))
    (retS (varD 2)))
def F_move_back : List D → R D := defF 4 B_move_back
def B_latest_start : Env → R Out :=
  (seqS (dropS (callF 3 F_need_start (consA (varD 0) (consA (varD 1) (consA (varD 2) nilA)))))
    (retS (callF 3 F_move_back (consA (callF 2 F_calendars_for (consA (varD 0) (consA (varD 1) nilA))) (consA (varD 1) (consA (varD 2) nilA))))))
def F_latest_start : List D → R D := defF 3 B_latest_start
def B_start_days : Env → R Out :=
  (seqS (dropS (callF 3 F_need_start (consA (varD 0) (consA (varD 1) (consA (varD 2) nilA)))))
    (seqS (setS 3 (callF 2 F_calendars_for (consA (varD 0) (consA (varD 1) nilA))))
    (seqS (setS 4 (bin gAdd (callF 3 F_move_back (consA (varD 3) (consA (varD 1) (consA (bin gSub (varD 2) (cD (.int 1))) nilA)))) (cD (.int 1))))
    (seqS (setS 5 (callF 3 F_move_back (consA (varD 3) (consA (varD 1) (consA (varD 2) nilA)))))
    (retS (ifD (blT (bin gLe (varD 4) (varD 5))) (tupD (consA (varD 4) (consA (varD 5) nilA))) (cD .none)))))))
def F_start_days : List D → R D := defF 6 B_start_days
def B_far_leaps : Env → R Out :=
  (seqS badS
    (seqS (setS 4 (cD (.int 1)))
    (seqS (setS 5 (lstD (compD (rngI (consA (cD (.int 12)) nilA)) (tName 8) yesT (bin gSub (callF 3 F_move (consA (varD 3) (consA (varD 1) (consA (varD 8) nilA)))) (varD 8)) [8])))
    (seqS (setO 6 (dispL (consA (tupD (consA (varD 4) (consA (varD 5) nilA))) nilA)))
    (seqS (whileS (blT (bin gLt (varD 4) (varD 2)))
    (seqS (setS 4 (bin gMulA (cD (.int 2)) (varD 4)))
    (seqS (setS 5 (lstD (compD (enumF (varD 5)) (tTup 2 (tCons (tName 8) (tCons (tName 9) tNil))) yesT (bin gAdd (varD 9) (bin gIx (varD 5) (bin gMod (bin gAdd (varD 8) (varD 9)) (cD (.int 12))))) [8, 9])))
    (appS 6 (tupD (consA (varD 4) (consA (varD 5) nilA)))))))
    (retO 6))))))
def F_far_leaps : List D → R D := defF 10 B_far_leaps
def FL_far_leaps : List D → R (List D) := defL 10 B_far_leaps
def B_leap : Env → R Out :=
  (seqS (setS 4 (cD (.int 0)))
    (seqS (forS (iterF (un gRevT (varD 0))) (tTup 2 (tCons (tName 5) (tCons (tName 6) tNil)))
    (seqS (setS 7 (bin gAdd (varD 1) (bin gIx (varD 6) (bin gMod (varD 1) (cD (.int 12))))))
    (ifS (andT (blT (bin gLe (bin gAdd (varD 4) (varD 5)) (varD 2))) (blT (bin gLe (varD 7) (varD 3))))
    (seqS (setS 1 (varD 7))
    (augS 4 gAddI (varD 5)))
    passS)))
    (retS (tupD (consA (varD 1) (consA (varD 4) nilA))))))
def F_leap : List D → R D := defF 8 B_leap
def B_move_often : Env → R Out :=
  (seqS (setS 5 (callF 3 F_far_leaps (consA (varD 0) (consA (varD 1) (consA (varD 3) nilA)))))
    (seqS (asgS (callF 4 F_leap (consA (varD 5) (consA (varD 2) (consA (varD 3) (consA (callD gMin (consA (varD 4) (consA (bin gSub (cD (.int (-30))) (cD (.int 1))) nilA))) nilA))))) (tTup 2 (tCons (tName 2) (tCons (tName 6) tNil))))
    (seqS (whileS (andT (blT (bin gLt (varD 6) (varD 3))) (blT (bin gLe (varD 2) (cD (.int 30)))))
    (seqS (setS 7 (callF 3 F_move (consA (varD 0) (consA (varD 1) (consA (varD 2) nilA)))))
    (seqS (ifS (orT (blT (bin gEq (varD 7) (varD 2))) (blT (bin gGt (varD 7) (varD 4))))
    (retS (tupD (consA (varD 2) (consA (varD 6) nilA))))
    passS)
    (seqS (setS 2 (varD 7))
    (augS 6 gAddI (cD (.int 1)))))))
    (seqS (asgS (callF 4 F_leap (consA (varD 5) (consA (varD 2) (consA (bin gSub (varD 3) (varD 6)) (consA (varD 4) nilA))))) (tTup 2 (tCons (tName 2) (tCons (tName 8) tNil))))
    (retS (tupD (consA (varD 2) (consA (bin gAdd (varD 6) (varD 8)) nilA))))))))
def F_move_often : List D → R D := defF 9 B_move_often
def B_repeated : Env → R Out :=
  (seqS (dropS (callF 3 F_need_start (consA (varD 0) (consA (varD 1) (consA (varD 2) nilA)))))
    (seqS (dropS (callF 2 F_need_number (consA (varD 3) (consA (cD (.int 1000000000000)) nilA))))
    (seqS (setS 4 (callF 2 F_calendars_for (consA (varD 0) (consA (varD 1) nilA))))
    (seqS (asgS (callF 5 F_move_often (consA (varD 4) (consA (varD 1) (consA (varD 2) (consA (varD 3) (consA (bin gAdd (varD 2) (bin gMulA (cD (.int 800)) (varD 3))) nilA)))))) (tTup 2 (tCons (tName 5) (tCons (tName 6) tNil))))
    (retS (varD 5))))))
def F_repeated : List D → R D := defF 7 B_repeated
def B_times_to : Env → R Out :=
  (seqS (dropS (callF 3 F_need_start (consA (varD 0) (consA (varD 1) (consA (varD 2) nilA)))))
    (seqS (dropS (callF 1 F_need_day (consA (varD 3) nilA)))
    (seqS (setS 4 (callF 2 F_calendars_for (consA (varD 0) (consA (varD 1) nilA))))
    (seqS (ifS (blT (bin gGe (varD 2) (varD 3)))
    (retS (cD (.int 0)))
    passS)
    (seqS (asgS (callF 5 F_move_often (consA (varD 4) (consA (varD 1) (consA (varD 2) (consA (bin gSub (varD 3) (varD 2)) (consA (bin gSub (varD 3) (cD (.int 1))) nilA)))))) (tTup 2 (tCons (tName 5) (tCons (tName 6) tNil))))
    (seqS (ifS (blT (bin gEq (callF 3 F_move (consA (varD 4) (consA (varD 1) (consA (varD 5) nilA)))) (varD 5)))
    (retS (cD .none))
    passS)
    (retS (bin gAdd (varD 6) (cD (.int 1))))))))))
def F_times_to : List D → R D := defF 7 B_times_to
def B_reduce_letters : Env → R Out :=
  (seqS (setO 1 (dispL nilA))
    (seqS (forS (iterF (varD 0)) (tName 2)
    (ifS (orT (blT (bin gEq (varD 2) (cD (.str "+")))) (blT (bin gNe (ownSl 1 (part (un gNeg (cD (.int 1)))) noPart) (lstD (dispL (consA (varD 2) nilA))))))
    (appS 1 (varD 2))
    passS))
    (retS (ownTup 1))))
def F_reduce_letters : List D → R D := defF 3 B_reduce_letters
def B_reduced : Env → R Out :=
  (seqS (dropS (callF 1 F_need_route (consA (varD 0) nilA)))
    (retS (callF 1 F_reduce_letters (consA (varD 0) nilA))))
def F_reduced : List D → R D := defF 1 B_reduced
def B_joined : Env → R Out :=
  (seqS badS
    (seqS badS
    (seqS (ifS (blT (bin gGt (callD gLen (consA (varD 1) nilA)) (cD (.int 8))))
    (raiseS "TooMany" (jsD [(cD (.str "the joined route has more than ")), (fmtD (cD (.int 8))), (cD (.str " letters"))] Str.empty))
    passS)
    (retS (varD 1)))))
def F_joined : List D → R D := defF 3 B_joined
def B_need_routes : Env → R Out :=
  (seqS (dropS (callF 1 F_need_route (consA (varD 0) nilA)))
    (dropS (callF 1 F_need_route (consA (varD 1) nilA))))
def F_need_routes : List D → R D := defF 2 B_need_routes
def B_spell : Env → R Out :=
  (seqS (setO 2 (dispL nilA))
    (seqS (forS (enumF (varD 1)) (tTup 2 (tCons (tName 3) (tCons (tName 4) tNil)))
    (ifS (andT (blT (bin gLt (ownLen 2) (callD gLen (consA (varD 0) nilA)))) (blT (bin gEq (bin gIx (varD 0) (ownLen 2)) (varD 4))))
    (appS 2 (varD 3))
    passS))
    (retS (ifD (blT (bin gEq (ownLen 2) (callD gLen (consA (varD 0) nilA)))) (ownTup 2) (cD .none)))))
def F_spell : List D → R D := defF 5 B_spell
def B_never_later : Env → R Out :=
  (seqS (dropS (callF 2 F_need_routes (consA (varD 0) (consA (varD 1) nilA))))
    (retS (bin gIsNot (callF 2 F_spell (consA (callF 1 F_reduce_letters (consA (varD 0) nilA)) (consA (varD 1) nilA))) (cD .none))))
def F_never_later : List D → R D := defF 2 B_never_later
def B_spelled_at : Env → R Out :=
  (seqS (dropS (callF 2 F_need_routes (consA (varD 0) (consA (varD 1) nilA))))
    (retS (callF 2 F_spell (consA (callF 1 F_reduce_letters (consA (varD 0) nilA)) (consA (varD 1) nilA)))))
def F_spelled_at : List D → R D := defF 2 B_spelled_at
def B_names_of : Env → R Out :=
  badS
def F_names_of : List D → R D := defF 2 B_names_of
def FL_names_of : List D → R (List D) := defL 2 B_names_of
def B_later_shown : Env → R Out :=
  (seqS (dropS (callF 2 F_need_routes (consA (varD 0) (consA (varD 1) nilA))))
    (seqS (setS 2 (callF 1 F_reduce_letters (consA (varD 0) nilA)))
    (seqS (ifS (blT (bin gIsNot (callF 2 F_spell (consA (varD 2) (consA (varD 1) nilA))) (cD .none)))
    (retS (cD .none))
    passS)
    (seqS badS
    (seqS (setS 4 (cD (.int 0)))
    (seqS (forS (iterF (varD 2)) (tName 5)
    (seqS (setS 6 (ifD (blT (bin gEq (varD 5) (cD (.str "+")))) (bin gAdd (varD 4) (cD (.int 1))) (bin gAdd (bin gAdd (varD 4) (callD gLen (consA (varD 1) nilA))) (cD (.int 1)))))
    (seqS (ifS (blT (bin gNe (varD 5) (cD (.str "+"))))
    badS
    passS)
    (setS 4 (varD 6)))))
    (retS (tupD (consA (callD gTuple (consA (lstD (compD (iterF (varD 3)) (tName 7) yesT (tupD (consA (varD 7) (consA (callD gTuple (consA (bin gGetK (varD 3) (varD 7)) nilA)) nilA))) [7])) nilA)) (consA (cD (.int 0)) nilA))))))))))
def F_later_shown : List D → R D := defF 8 B_later_shown
def B_is_near : Env → R Out :=
  (retS (callF 3 F_is_whole (consA (varD 0) (consA (un gNeg (cD (.int 200))) (consA (cD (.int 200)) nilA)))))
def F_is_near : List D → R D := defF 1 B_is_near
def B_is_closed : Env → R Out :=
  (retS (andD (callF 1 F_is_pair (consA (varD 0) nilA)) (andD (callF 1 F_is_name (consA (bin gIx (varD 0) (cD (.int 0))) nilA)) (andD (isiD "tuple" (bin gIx (varD 0) (cD (.int 1)))) (andD (bin gLe (callD gLen (consA (bin gIx (varD 0) (cD (.int 1))) nilA)) (cD (.int 100))) (andD (callD gAll (consA (lstD (compD (iterF (bin gIx (varD 0) (cD (.int 1)))) (tName 1) yesT (callF 1 F_is_near (consA (varD 1) nilA)) [1])) nilA)) (callF 1 F_is_rising (consA (bin gIx (varD 0) (cD (.int 1))) nilA))))))))
def F_is_closed : List D → R D := defF 2 B_is_closed
def B_is_shown : Env → R Out :=
  (retS (andD (callF 1 F_is_pair (consA (varD 0) nilA)) (andD (isiD "tuple" (bin gIx (varD 0) (cD (.int 0)))) (andD (callD gAll (consA (lstD (compD (iterF (bin gIx (varD 0) (cD (.int 0)))) (tName 1) yesT (callF 1 F_is_closed (consA (varD 1) nilA)) [1])) nilA)) (andD (callF 1 F_is_rising (consA (lstD (compD (iterF (bin gIx (varD 0) (cD (.int 0)))) (tName 1) yesT (bin gIx (varD 1) (cD (.int 0))) [1])) nilA)) (callF 1 F_is_near (consA (bin gIx (varD 0) (cD (.int 1))) nilA)))))))
def F_is_shown : List D → R D := defF 2 B_is_shown
def B_move_past : Env → R Out :=
  (seqS (forS (iterF (varD 1)) (tName 3)
    (ifS (blT (bin gEq (varD 3) (cD (.str "+"))))
    (augS 2 gAddI (cD (.int 1)))
    (whileS (blT (bin gInA (varD 2) (bin gIx (varD 0) (varD 3))))
    (augS 2 gAddI (cD (.int 1))))))
    (retS (varD 2)))
def F_move_past : List D → R D := defF 4 B_move_past
def B_later_holds : Env → R Out :=
  (seqS (dropS (callF 2 F_need_routes (consA (varD 0) (consA (varD 1) nilA))))
    (seqS (ifS (notT (truT (callF 1 F_is_shown (consA (varD 2) nilA))))
    (retS (cD (.bool false)))
    passS)
    (seqS badS
    (seqS (ifS (notT (truT (callD gAll (consA (lstD (compD (iterF (callF 1 F_names_of (consA (bin gAdd (varD 0) (varD 1)) nilA))) (tName 5) yesT (bin gInA (varD 5) (varD 3)) [5])) nilA))))
    (retS (cD (.bool false)))
    passS)
    (retS (bin gGt (callF 3 F_move_past (consA (varD 3) (consA (varD 0) (consA (varD 4) nilA)))) (callF 3 F_move_past (consA (varD 3) (consA (varD 1) (consA (varD 4) nilA))))))))))
def F_later_holds : List D → R D := defF 6 B_later_holds
def B_is_word : Env → R Out :=
  (retS (andD (isiD "str" (varD 0)) (bin gInA (varD 0) (varD 1))))
def F_is_word : List D → R D := defF 2 B_is_word
def B_is_weights : Env → R Out :=
  (retS (andD (isiD "tuple" (varD 0)) (andD (chainD gLe gLe (cD (.int 2)) (callD gLen (consA (varD 0) nilA)) (cD (.int 6))) (callD gAll (consA (lstD (compD (iterF (varD 0)) (tName 2) yesT (callF 3 F_is_whole (consA (varD 2) (consA (cD (.int 0)) (consA (bin gSub (varD 1) (cD (.int 1))) nilA)))) [2])) nilA)))))
def F_is_weights : List D → R D := defF 3 B_is_weights
def B_is_scheme : Env → R Out :=
  (retS (andD (isiD "tuple" (varD 0)) (andD (bin gEq (callD gLen (consA (varD 0) nilA)) (cD (.int 4))) (andD (callF 3 F_is_whole (consA (bin gIx (varD 0) (cD (.int 0))) (consA (cD (.int 2)) (consA (cD (.int 10)) nilA)))) (andD (callF 3 F_is_whole (consA (bin gIx (varD 0) (cD (.int 1))) (consA (cD (.int 2)) (consA (cD (.int 30)) nilA)))) (andD (callF 2 F_is_weights (consA (bin gIx (varD 0) (cD (.int 2))) (consA (bin gIx (varD 0) (cD (.int 1))) nilA))) (callF 3 F_is_whole (consA (bin gIx (varD 0) (cD (.int 3))) (consA (cD (.int 0)) (consA (bin gSub (bin gIx (varD 0) (cD (.int 1))) (cD (.int 1))) nilA))))))))))
def F_is_scheme : List D → R D := defF 1 B_is_scheme
def B_need_scheme : Env → R Out :=
  (ifS (notT (truT (callF 1 F_is_scheme (consA (varD 0) nilA))))
    (raiseS "BadScheme" (cD (.str "a scheme is a tuple of a base, a modulus, weights and a rest")))
    passS)
def F_need_scheme : List D → R D := defF 1 B_need_scheme
def B_is_row : Env → R Out :=
  (retS (andD (isiD "tuple" (varD 1)) (bin gEq (callD gLen (consA (varD 1) nilA)) (callD gLen (consA (bin gIx (varD 0) (cD (.int 2))) nilA)))))
def F_is_row : List D → R D := defF 2 B_is_row
def B_is_digit : Env → R Out :=
  (retS (callF 3 F_is_whole (consA (varD 1) (consA (cD (.int 0)) (consA (bin gSub (bin gIx (varD 0) (cD (.int 0))) (cD (.int 1))) nilA)))))
def F_is_digit : List D → R D := defF 2 B_is_digit
def B_has_digits : Env → R Out :=
  (retS (andD (callF 2 F_is_row (consA (varD 0) (consA (varD 1) nilA))) (callD gAll (consA (lstD (compD (iterF (varD 1)) (tName 2) yesT (callF 2 F_is_digit (consA (varD 0) (consA (varD 2) nilA))) [2])) nilA))))
def F_has_digits : List D → R D := defF 3 B_has_digits
def B_is_code : Env → R Out :=
  (seqS (dropS (callF 1 F_need_scheme (consA (varD 0) nilA)))
    (retS (callF 2 F_has_digits (consA (varD 0) (consA (varD 1) nilA)))))
def F_is_code : List D → R D := defF 2 B_is_code
def B_need_code : Env → R Out :=
  (ifS (notT (truT (callF 2 F_has_digits (consA (varD 0) (consA (varD 1) nilA)))))
    (raiseS "BadCode" (cD (.str "a code is a tuple of as many digits as the scheme has weights")))
    passS)
def F_need_code : List D → R D := defF 2 B_need_code
def B_leaves_rest : Env → R Out :=
  (seqS (asgS (varD 0) (tTup 4 (tCons (tName 2) (tCons (tName 3) (tCons (tName 4) (tCons (tName 5) tNil))))))
    (retS (bin gEq (bin gMod (callD gSum (consA (lstD (compD (zipG (consA (varD 4) (consA (varD 1) nilA))) (tTup 2 (tCons (tName 6) (tCons (tName 7) tNil))) yesT (bin gMulA (varD 6) (varD 7)) [6, 7])) nilA)) (varD 3)) (varD 5))))
def F_leaves_rest : List D → R D := defF 8 B_leaves_rest
def B_is_right : Env → R Out :=
  (seqS (dropS (callF 1 F_need_scheme (consA (varD 0) nilA)))
    (seqS (dropS (callF 2 F_need_code (consA (varD 0) (consA (varD 1) nilA))))
    (retS (callF 2 F_leaves_rest (consA (varD 0) (consA (varD 1) nilA))))))
def F_is_right : List D → R D := defF 2 B_is_right
def B_digits_at : Env → R Out :=
  (retS (ifD (blT (bin gIs (varD 1) (cD .none))) (lstD (rng1 (bin gIx (varD 0) (cD (.int 0))))) (lstD (dispL (consA (varD 1) nilA)))))
def F_digits_at : List D → R D := defF 2 B_digits_at
def B_ways_along : Env → R Out :=
  (seqS (asgS (varD 0) (tTup 4 (tCons (tName 2) (tCons (tName 3) (tCons (tName 4) (tCons (tName 2) tNil))))))
    (seqS (setS 5 (bin gAdd (lstD (dispL (consA (cD (.int 1)) nilA))) (lstD (repL (dispL (consA (cD (.int 0)) nilA)) (bin gSub (varD 3) (cD (.int 1)))))))
    (seqS (setO 6 (dispL (consA (varD 5) nilA)))
    (seqS (forS (revRI (callD gLen (consA (varD 4) nilA))) (tName 7)
    (seqS (setS 8 (lstD (compD (iterF (callF 2 F_digits_at (consA (varD 0) (consA (bin gIx (varD 1) (varD 7)) nilA)))) (tName 9) yesT (bin gMulA (bin gIx (varD 4) (varD 7)) (varD 9)) [9])))
    (seqS (setS 5 (lstD (compD (rngI (consA (varD 3) nilA)) (tName 11) yesT (callD gSum (consA (lstD (compD (iterF (varD 8)) (tName 10) yesT (bin gIx (varD 5) (bin gMod (bin gSub (varD 11) (varD 10)) (varD 3))) [10])) nilA)) [11])))
    (appS 6 (varD 5)))))
    (retL (ownRev 6))))))
def F_ways_along : List D → R D := defF 12 B_ways_along
def B_count_in : Env → R Out :=
  (retS (bin gIx (bin gIx (callF 2 F_ways_along (consA (varD 0) (consA (varD 1) nilA))) (cD (.int 0))) (bin gIx (varD 0) (cD (.int 3)))))
def F_count_in : List D → R D := defF 2 B_count_in
def B_open_gap : Env → R Out :=
  (retS (bin gMulA (tupD (consA (cD .none) nilA)) (callD gLen (consA (bin gIx (varD 0) (cD (.int 2))) nilA))))
def F_open_gap : List D → R D := defF 1 B_open_gap
def B_count_right : Env → R Out :=
  (seqS (dropS (callF 1 F_need_scheme (consA (varD 0) nilA)))
    (retS (callF 2 F_count_in (consA (varD 0) (consA (callF 1 F_open_gap (consA (varD 0) nilA)) nilA)))))
def F_count_right : List D → R D := defF 1 B_count_right
def B_nth_along : Env → R Out :=
  (seqS (asgS (varD 0) (tTup 4 (tCons (tName 4) (tCons (tName 5) (tCons (tName 6) (tCons (tName 7) tNil))))))
    (seqS (setO 8 (dispL nilA))
    (seqS (forS (enumF (varD 6)) (tTup 2 (tCons (tName 9) (tCons (tName 10) tNil)))
    (seqS (forS (iterF (callF 2 F_digits_at (consA (varD 0) (consA (bin gIx (varD 1) (varD 9)) nilA)))) (tName 11)
    (seqS (setS 12 (bin gMod (bin gSub (varD 7) (bin gMulA (varD 10) (varD 11))) (varD 5)))
    (seqS (ifS (blT (bin gLt (varD 3) (bin gIx (bin gIx (varD 2) (bin gAdd (varD 9) (cD (.int 1)))) (varD 12))))
    brkS
    passS)
    (augS 3 gSubI (bin gIx (bin gIx (varD 2) (bin gAdd (varD 9) (cD (.int 1)))) (varD 12))))))
    (seqS (appS 8 (varD 11))
    (setS 7 (varD 12)))))
    (retS (ownTup 8)))))
def F_nth_along : List D → R D := defF 13 B_nth_along
def B_nth_in : Env → R Out :=
  (retS (callF 4 F_nth_along (consA (varD 0) (consA (varD 1) (consA (callF 2 F_ways_along (consA (varD 0) (consA (varD 1) nilA))) (consA (varD 2) nilA))))))
def F_nth_in : List D → R D := defF 3 B_nth_in
def B_numbered : Env → R Out :=
  (seqS (dropS (callF 2 F_need_number (consA (varD 2) (consA (bin gSub (callF 2 F_count_in (consA (varD 0) (consA (varD 1) nilA))) (cD (.int 1))) nilA))))
    (retS (callF 3 F_nth_in (consA (varD 0) (consA (varD 1) (consA (varD 2) nilA))))))
def F_numbered : List D → R D := defF 3 B_numbered
def B_nth_right : Env → R Out :=
  (seqS (dropS (callF 1 F_need_scheme (consA (varD 0) nilA)))
    (retS (callF 3 F_numbered (consA (varD 0) (consA (callF 1 F_open_gap (consA (varD 0) nilA)) (consA (varD 1) nilA))))))
def F_nth_right : List D → R D := defF 2 B_nth_right
def B_count_less : Env → R Out :=
  (seqS (asgS (varD 0) (tTup 4 (tCons (tName 2) (tCons (tName 3) (tCons (tName 4) (tCons (tName 5) tNil))))))
    (seqS (setS 6 (callF 2 F_ways_along (consA (varD 0) (consA (callF 1 F_open_gap (consA (varD 0) nilA)) nilA))))
    (seqS (setS 7 (cD (.int 0)))
    (seqS (forS (enumF (varD 4)) (tTup 2 (tCons (tName 8) (tCons (tName 9) tNil)))
    (seqS (augS 7 gAddI (callD gSum (consA (lstD (compD (rngI (consA (bin gIx (varD 1) (varD 8)) nilA)) (tName 10) yesT (bin gIx (bin gIx (varD 6) (bin gAdd (varD 8) (cD (.int 1)))) (bin gMod (bin gSub (varD 5) (bin gMulA (varD 9) (varD 10))) (varD 3))) [10])) nilA)))
    (setS 5 (bin gMod (bin gSub (varD 5) (bin gMulA (varD 9) (bin gIx (varD 1) (varD 8)))) (varD 3)))))
    (retS (varD 7))))))
def F_count_less : List D → R D := defF 11 B_count_less
def B_number_of : Env → R Out :=
  (seqS (dropS (callF 1 F_need_scheme (consA (varD 0) nilA)))
    (seqS (dropS (callF 2 F_need_code (consA (varD 0) (consA (varD 1) nilA))))
    (seqS (ifS (notT (truT (callF 2 F_leaves_rest (consA (varD 0) (consA (varD 1) nilA)))))
    (raiseS "NotRight" (cD (.str "the code is not right")))
    passS)
    (retS (callF 2 F_count_less (consA (varD 0) (consA (varD 1) nilA)))))))
def F_number_of : List D → R D := defF 2 B_number_of
def B_next_right : Env → R Out :=
  (seqS (dropS (callF 1 F_need_scheme (consA (varD 0) nilA)))
    (seqS (dropS (callF 2 F_need_code (consA (varD 0) (consA (varD 1) nilA))))
    (seqS (setS 2 (callF 1 F_open_gap (consA (varD 0) nilA)))
    (seqS (setS 3 (callF 2 F_count_less (consA (varD 0) (consA (varD 1) nilA))))
    (seqS (ifS (truT (callF 2 F_leaves_rest (consA (varD 0) (consA (varD 1) nilA))))
    (augS 3 gAddI (cD (.int 1)))
    passS)
    (retS (ifD (blT (bin gLt (varD 3) (callF 2 F_count_in (consA (varD 0) (consA (varD 2) nilA))))) (callF 3 F_nth_in (consA (varD 0) (consA (varD 2) (consA (varD 3) nilA)))) (cD .none))))))))
def F_next_right : List D → R D := defF 4 B_next_right
def B_count_below : Env → R Out :=
  (seqS (dropS (callF 1 F_need_scheme (consA (varD 0) nilA)))
    (seqS (dropS (callF 2 F_need_code (consA (varD 0) (consA (varD 1) nilA))))
    (retS (callF 2 F_count_less (consA (varD 0) (consA (varD 1) nilA))))))
def F_count_below : List D → R D := defF 2 B_count_below
def B_need_gap : Env → R Out :=
  (ifS (notT (andT (truT (callF 2 F_is_row (consA (varD 0) (consA (varD 1) nilA)))) (truT (callD gAll (consA (lstD (compD (iterF (varD 1)) (tName 2) yesT (orD (bin gIs (varD 2) (cD .none)) (callF 2 F_is_digit (consA (varD 0) (consA (varD 2) nilA)))) [2])) nilA)))))
    (raiseS "BadGap" (cD (.str "a gap is a tuple of as many digits and None as the scheme has weights")))
    passS)
def F_need_gap : List D → R D := defF 3 B_need_gap
def B_count_fills : Env → R Out :=
  (seqS (dropS (callF 1 F_need_scheme (consA (varD 0) nilA)))
    (seqS (dropS (callF 2 F_need_gap (consA (varD 0) (consA (varD 1) nilA))))
    (retS (callF 2 F_count_in (consA (varD 0) (consA (varD 1) nilA))))))
def F_count_fills : List D → R D := defF 2 B_count_fills
def B_nth_fill : Env → R Out :=
  (seqS (dropS (callF 1 F_need_scheme (consA (varD 0) nilA)))
    (seqS (dropS (callF 2 F_need_gap (consA (varD 0) (consA (varD 1) nilA))))
    (retS (callF 3 F_numbered (consA (varD 0) (consA (varD 1) (consA (varD 2) nilA)))))))
def F_nth_fill : List D → R D := defF 3 B_nth_fill
def B_put_in : Env → R Out :=
  (retS (bin gAdd (bin gAdd (slD gSl (varD 0) noPart (part (varD 1))) (varD 2)) (slD gSl (varD 0) (part (bin gAdd (varD 1) (callD gLen (consA (varD 2) nilA)))) noPart)))
def F_put_in : List D → R D := defF 3 B_put_in
def B_sure_digits : Env → R Out :=
  (seqS (dropS (callF 1 F_need_scheme (consA (varD 0) nilA)))
    (seqS (dropS (callF 2 F_need_gap (consA (varD 0) (consA (varD 1) nilA))))
    (seqS (ifS (blT (bin gEq (callF 2 F_count_in (consA (varD 0) (consA (varD 1) nilA))) (cD (.int 0))))
    (raiseS "NotRight" (cD (.str "no right code has the digits of the gap")))
    passS)
    (seqS (setO 2 (dispL nilA))
    (seqS (forS (rngI (consA (callD gLen (consA (varD 1) nilA)) nilA)) (tName 3)
    (seqS (setS 4 (lstD (compD (iterF (callF 2 F_digits_at (consA (varD 0) (consA (bin gIx (varD 1) (varD 3)) nilA)))) (tName 5) (blT (bin gGt (callF 2 F_count_in (consA (varD 0) (consA (callF 3 F_put_in (consA (varD 1) (consA (varD 3) (consA (tupD (consA (varD 5) nilA)) nilA)))) nilA))) (cD (.int 0)))) (varD 5) [5])))
    (appS 2 (ifD (blT (bin gEq (callD gLen (consA (varD 4) nilA)) (cD (.int 1)))) (bin gIx (varD 4) (cD (.int 0))) (cD .none)))))
    (retS (ownTup 2)))))))
def F_sure_digits : List D → R D := defF 6 B_sure_digits
def B_slipped : Env → R Out :=
  (seqS badS
    (seqS badS
    (seqS (setS 4 (lstD (compD (rngI (consA (bin gSub (callD gLen (consA (varD 1) nilA)) (cD (.int 1))) nilA)) (tName 5) yesT (tupD (consA (varD 5) (consA (bin gIx (varD 1) (varD 5)) (consA (bin gIx (varD 1) (bin gAdd (varD 5) (cD (.int 1)))) nilA)))) [5])))
    (retS (bin gAdd (varD 3) (lstD (compD (iterF (varD 4)) (tTup 3 (tCons (tName 5) (tCons (tName 6) (tCons (tName 7) tNil)))) (blT (bin gNe (varD 6) (varD 7))) (callF 3 F_put_in (consA (varD 1) (consA (varD 5) (consA (tupD (consA (varD 7) (consA (varD 6) nilA))) nilA)))) [5, 6, 7])))))))
def F_slipped : List D → R D := defF 8 B_slipped
def B_fixes : Env → R Out :=
  (seqS (dropS (callF 1 F_need_scheme (consA (varD 0) nilA)))
    (seqS (dropS (callF 2 F_need_code (consA (varD 0) (consA (varD 1) nilA))))
    (retL (sortG (lstD (compD (iterF (callF 2 F_slipped (consA (varD 0) (consA (varD 1) nilA)))) (tName 2) (truT (callF 2 F_leaves_rest (consA (varD 0) (consA (varD 2) nilA)))) (varD 2) [2]))))))
def F_fixes : List D → R D := defF 3 B_fixes
def FL_fixes : List D → R (List D) := defL 3 B_fixes
def B_need_kind : Env → R Out :=
  (ifS (notT (truT (callF 2 F_is_word (consA (varD 0) (consA (cD (.tuple ((["digit", "swap"] : List Str).map PyData.str))) nilA)))))
    (raiseS "BadKind" (cD (.str "a kind of slip is 'digit' or 'swap'")))
    passS)
def F_need_kind : List D → R D := defF 1 B_need_kind
def B_blind_slips : Env → R Out :=
  (seqS (asgS (varD 0) (tTup 4 (tCons (tName 2) (tCons (tName 3) (tCons (tName 4) (tCons (tName 5) tNil))))))
    (seqS badS
    (seqS (setO 7 (dispL nilA))
    (seqS (forS (enumF (ifD (blT (bin gEq (varD 1) (cD (.str "digit")))) (varD 4) (slD gSl (varD 4) (part (cD (.int 1))) noPart))) (tTup 2 (tCons (tName 8) (tCons (tName 9) tNil)))
    (forS (iterF (varD 6)) (tTup 2 (tCons (tName 10) (tCons (tName 11) tNil)))
    (seqS (ifS (blT (bin gEq (varD 1) (cD (.str "digit"))))
    badS
    badS)
    (ifS (blT (bin gEq (bin gMod (varD 14) (varD 3)) (cD (.int 0))))
    (appS 7 (tupD (consA (varD 8) (consA (varD 12) (consA (varD 13) nilA)))))
    passS))))
    (retO 7)))))
def F_blind_slips : List D → R D := defF 15 B_blind_slips
def FL_blind_slips : List D → R (List D) := defL 15 B_blind_slips
def B_unnoticed : Env → R Out :=
  (seqS (dropS (callF 1 F_need_scheme (consA (varD 0) nilA)))
    (seqS (dropS (callF 1 F_need_kind (consA (varD 1) nilA)))
    (seqS (setO 2 (dispL nilA))
    (seqS (forS (iterF (callF 2 F_blind_slips (consA (varD 0) (consA (varD 1) nilA)))) (tTup 3 (tCons (tName 3) (tCons (tName 4) (tCons (tName 5) tNil))))
    (seqS (setS 6 (callF 3 F_put_in (consA (callF 1 F_open_gap (consA (varD 0) nilA)) (consA (varD 3) (consA (varD 4) nilA)))))
    (ifS (blT (bin gGt (callF 2 F_count_in (consA (varD 0) (consA (varD 6) nilA))) (cD (.int 0))))
    (seqS (setS 7 (callF 3 F_nth_in (consA (varD 0) (consA (varD 6) (consA (cD (.int 0)) nilA)))))
    (appS 2 (tupD (consA (varD 7) (consA (callF 3 F_put_in (consA (varD 7) (consA (varD 3) (consA (varD 5) nilA)))) nilA)))))
    passS)))
    badS))))
def F_unnoticed : List D → R D := defF 8 B_unnoticed
def B_count_unnoticed : Env → R Out :=
  (seqS (dropS (callF 1 F_need_scheme (consA (varD 0) nilA)))
    (seqS (dropS (callF 1 F_need_kind (consA (varD 1) nilA)))
    (seqS (setS 2 (callF 1 F_open_gap (consA (varD 0) nilA)))
    (retS (callD gSum (consA (lstD (compD (iterF (callF 2 F_blind_slips (consA (varD 0) (consA (varD 1) nilA)))) (tTup 3 (tCons (tName 3) (tCons (tName 4) (tCons (tName 5) tNil)))) yesT (callF 2 F_count_in (consA (varD 0) (consA (callF 3 F_put_in (consA (varD 2) (consA (varD 3) (consA (varD 4) nilA)))) nilA))) [3, 4, 5])) nilA))))))
def F_count_unnoticed : List D → R D := defF 6 B_count_unnoticed
def B_changes_along : Env → R Out :=
  (seqS (asgS (varD 0) (tTup 4 (tCons (tName 2) (tCons (tName 3) (tCons (tName 4) (tCons (tName 5) tNil))))))
    (seqS (setS 6 (bin gAdd (lstD (dispL (consA (cD (.int 0)) nilA))) (lstD (repL (dispL (consA (cD (.int 7)) nilA)) (bin gSub (varD 3) (cD (.int 1)))))))
    (seqS (setO 7 (dispL (consA (varD 6) nilA)))
    (seqS (forS (revRI (callD gLen (consA (varD 4) nilA))) (tName 8)
    (seqS (setS 9 (lstD (compD (rngI (consA (varD 2) nilA)) (tName 10) yesT (tupD (consA (callD gInt (consA (bin gNe (varD 10) (bin gIx (varD 1) (varD 8))) nilA)) (consA (bin gMulA (bin gIx (varD 4) (varD 8)) (varD 10)) nilA))) [10])))
    (seqS (setS 6 (lstD (compD (rngI (consA (varD 3) nilA)) (tName 13) yesT (callD gMin (consA (lstD (compD (iterF (varD 9)) (tTup 2 (tCons (tName 11) (tCons (tName 12) tNil))) yesT (bin gAdd (varD 11) (bin gIx (varD 6) (bin gMod (bin gSub (varD 13) (varD 12)) (varD 3)))) [11, 12])) nilA)) [13])))
    (appS 7 (varD 6)))))
    (retL (ownRev 7))))))
def F_changes_along : List D → R D := defF 14 B_changes_along
def B_least_change : Env → R Out :=
  (seqS (asgS (varD 0) (tTup 4 (tCons (tName 3) (tCons (tName 4) (tCons (tName 5) (tCons (tName 6) tNil))))))
    (seqS (setO 7 (dispL nilA))
    (seqS (forS (enumF (varD 5)) (tTup 2 (tCons (tName 8) (tCons (tName 9) tNil)))
    (seqS (forS (rngI (consA (varD 3) nilA)) (tName 10)
    (seqS (setS 11 (bin gMod (bin gSub (varD 6) (bin gMulA (varD 9) (varD 10))) (varD 4)))
    (ifS (blT (bin gEq (bin gAdd (callD gInt (consA (bin gNe (varD 10) (bin gIx (varD 1) (varD 8))) nilA)) (bin gIx (bin gIx (varD 2) (bin gAdd (varD 8) (cD (.int 1)))) (varD 11))) (bin gIx (bin gIx (varD 2) (varD 8)) (varD 6))))
    brkS
    passS)))
    (seqS (appS 7 (varD 10))
    (setS 6 (varD 11)))))
    (retS (ownTup 7)))))
def F_least_change : List D → R D := defF 12 B_least_change
def B_closest_right : Env → R Out :=
  (seqS (dropS (callF 1 F_need_scheme (consA (varD 0) nilA)))
    (seqS (dropS (callF 2 F_need_code (consA (varD 0) (consA (varD 1) nilA))))
    (seqS (setS 2 (callF 2 F_changes_along (consA (varD 0) (consA (varD 1) nilA))))
    (seqS (setS 3 (bin gIx (bin gIx (varD 2) (cD (.int 0))) (bin gIx (varD 0) (cD (.int 3)))))
    (seqS (ifS (blT (bin gGe (varD 3) (cD (.int 7))))
    (retS (cD .none))
    passS)
    (retS (tupD (consA (varD 3) (consA (callF 3 F_least_change (consA (varD 0) (consA (varD 1) (consA (varD 2) nilA)))) nilA)))))))))
def F_closest_right : List D → R D := defF 4 B_closest_right
def B_need_register : Env → R Out :=
  (ifS (notT (andT (truT (isiD "tuple" (varD 1))) (andT (blT (bin gLe (callD gLen (consA (varD 1) nilA)) (cD (.int 8)))) (andT (truT (callD gAll (consA (lstD (compD (iterF (varD 1)) (tName 2) yesT (andD (callF 2 F_has_digits (consA (varD 0) (consA (varD 2) nilA))) (callF 2 F_leaves_rest (consA (varD 0) (consA (varD 2) nilA)))) [2])) nilA))) (truT (callF 1 F_is_rising (consA (varD 1) nilA)))))))
    (raiseS "BadRegister" (jsD [(cD (.str "a register is a tuple of at most ")), (fmtD (cD (.int 8))), (cD (.str " right codes, ascending, without duplicates"))] Str.empty))
    passS)
def F_need_register : List D → R D := defF 3 B_need_register
def B_near_pairs : Env → R Out :=
  (seqS (dropS (callF 1 F_need_scheme (consA (varD 0) nilA)))
    (seqS (dropS (callF 2 F_need_register (consA (varD 0) (consA (varD 1) nilA))))
    (seqS badS
    (seqS (setO 3 (dispL nilA))
    (seqS (forS (enumF (varD 1)) (tTup 2 (tCons (tName 4) (tCons (tName 5) tNil)))
    (seqS badS
    (forS (iterF (slD gSl (varD 1) (part (bin gAdd (varD 4) (cD (.int 1)))) noPart)) (tName 7)
    (ifS (truT (callD gAny (consA (lstD (compD (iterF (bin gGetK (varD 2) (varD 7))) (tName 8) yesT (bin gInA (varD 8) (varD 6)) [8])) nilA)))
    (appS 3 (tupD (consA (varD 5) (consA (varD 7) nilA))))
    passS))))
    (retO 3))))))
def F_near_pairs : List D → R D := defF 9 B_near_pairs
def FL_near_pairs : List D → R (List D) := defL 9 B_near_pairs
def B_read_typed : Env → R Out :=
  (seqS (dropS (callF 1 F_need_scheme (consA (varD 0) nilA)))
    (seqS (dropS (callF 2 F_need_register (consA (varD 0) (consA (varD 1) nilA))))
    (seqS (dropS (callF 2 F_need_code (consA (varD 0) (consA (varD 2) nilA))))
    (seqS badS
    (retL (compD (iterF (varD 1)) (tName 4) (blT (bin gInA (varD 4) (varD 3))) (varD 4) [4]))))))
def F_read_typed : List D → R D := defF 5 B_read_typed
def FL_read_typed : List D → R (List D) := defL 5 B_read_typed
def B_safe_register : Env → R Out :=
  (seqS (dropS (callF 1 F_need_scheme (consA (varD 0) nilA)))
    (seqS (dropS (callF 2 F_need_number (consA (varD 1) (consA (cD (.int 8)) nilA))))
    (seqS (setS 2 (callF 1 F_open_gap (consA (varD 0) nilA)))
    (seqS (setS 3 (callF 2 F_ways_along (consA (varD 0) (consA (varD 2) nilA))))
    (seqS (setO 4 (dispL nilA))
    (seqS badS
    (seqS (forS (rngI (consA (bin gIx (bin gIx (varD 3) (cD (.int 0))) (bin gIx (varD 0) (cD (.int 3)))) nilA)) (tName 6)
    (seqS (ifS (blT (bin gEq (ownLen 4) (varD 1)))
    brkS
    passS)
    (seqS (setS 7 (callF 4 F_nth_along (consA (varD 0) (consA (varD 2) (consA (varD 3) (consA (varD 6) nilA))))))
    (ifS (blT (bin gNotInA (varD 7) (varD 5)))
    (seqS (appS 4 (varD 7))
    badS)
    passS))))
    (retS (ifD (blT (bin gEq (ownLen 4) (varD 1))) (ownTup 4) (cD .none))))))))))
def F_safe_register : List D → R D := defF 10 B_safe_register
def B_is_folder : Env → R Out :=
  (retS (callF 3 F_is_whole (consA (varD 1) (consA (cD (.int 0)) (consA (bin gSub (varD 0) (cD (.int 1))) nilA)))))
def F_is_folder : List D → R D := defF 2 B_is_folder
def B_is_path : Env → R Out :=
  (retS (callF 3 F_is_whole (consA (varD 0) (consA (cD (.int 0)) (consA (cD (.int 3)) nilA)))))
def F_is_path : List D → R D := defF 1 B_is_path
def B_is_contents : Env → R Out :=
  (retS (andD (isiD "tuple" (varD 1)) (andD (callD gAll (consA (lstD (compD (iterF (varD 1)) (tName 2) yesT (callF 2 F_is_folder (consA (varD 0) (consA (varD 2) nilA))) [2])) nilA)) (callF 1 F_is_rising (consA (varD 1) nilA)))))
def F_is_contents : List D → R D := defF 3 B_is_contents
def B_need_path : Env → R Out :=
  (ifS (notT (truT (callF 1 F_is_path (consA (varD 0) nilA))))
    (raiseS "BadPath" (jsD [(cD (.str "a path is an integer from 0 to ")), (fmtD (cD (.int 3)))] Str.empty))
    passS)
def F_need_path : List D → R D := defF 1 B_need_path
def B_need_contents : Env → R Out :=
  (ifS (notT (truT (callF 2 F_is_contents (consA (varD 0) (consA (varD 1) nilA)))))
    (raiseS "BadContents" (cD (.str "first contents are a tuple of folders, ascending, without duplicates")))
    passS)
def F_need_contents : List D → R D := defF 2 B_need_contents
def B_is_paper_deed : Env → R Out :=
  (seqS (ifS (notT (andT (truT (isiD "tuple" (varD 1))) (andT (blT (bin gEq (callD gLen (consA (varD 1) nilA)) (cD (.int 3)))) (truT (callF 2 F_is_folder (consA (varD 0) (consA (bin gIx (varD 1) (cD (.int 1))) nilA)))))))
    (retS (cD (.bool false)))
    passS)
    (seqS (ifS (truT (callF 2 F_is_word (consA (bin gIx (varD 1) (cD (.int 0))) (consA (cD (.tuple ((["over", "under"] : List Str).map PyData.str))) nilA))))
    (retS (andD (callF 2 F_is_folder (consA (varD 0) (consA (bin gIx (varD 1) (cD (.int 2))) nilA))) (bin gNe (bin gIx (varD 1) (cD (.int 1))) (bin gIx (varD 1) (cD (.int 2))))))
    passS)
    (retS (andD (callF 2 F_is_word (consA (bin gIx (varD 1) (cD (.int 0))) (consA (cD (.tuple ((["write", "throw"] : List Str).map PyData.str))) nilA))) (callF 1 F_is_path (consA (bin gIx (varD 1) (cD (.int 2))) nilA))))))
def F_is_paper_deed : List D → R D := defF 2 B_is_paper_deed
def B_first_lists : Env → R Out :=
  (retS (callD gTuple (consA (lstD (compD (rngI (consA (varD 0) nilA)) (tName 1) yesT (tupD (consA (tupD (consA (cD (.str "first")) (consA (varD 1) nilA))) nilA)) [1])) nilA)))
def F_first_lists : List D → R D := defF 2 B_first_lists
def B_put : Env → R Out :=
  (retS (bin gAdd (bin gAdd (slD gSl (varD 0) noPart (part (varD 1))) (tupD (consA (varD 2) nilA))) (slD gSl (varD 0) (part (bin gAdd (varD 1) (cD (.int 1)))) noPart)))
def F_put : List D → R D := defF 3 B_put
def B_laid_over : Env → R Out :=
  (seqS (ifS (andT (truT (varD 0)) (blT (bin gEq (bin gIx (bin gIx (varD 0) (un gNeg (cD (.int 1)))) (cD (.int 0))) (cD (.str "written")))))
    (retS (varD 0))
    passS)
    (retS (bin gAdd (varD 0) (callD gTuple (consA (lstD (compD (iterF (varD 1)) (tName 2) (blT (bin gNotInA (varD 2) (varD 0))) (varD 2) [2])) nilA)))))
def F_laid_over : List D → R D := defF 3 B_laid_over
def B_lists_behind : Env → R Out :=
  (seqS (asgS (varD 1) (tTup 3 (tCons (tName 4) (tCons (tName 5) (tCons (tName 6) tNil)))))
    (seqS (ifS (blT (bin gEq (varD 4) (cD (.str "over"))))
    (retS (callF 3 F_put (consA (varD 0) (consA (varD 6) (consA (callF 2 F_laid_over (consA (bin gIx (varD 0) (varD 5)) (consA (bin gIx (varD 0) (varD 6)) nilA))) nilA)))))
    passS)
    (seqS (ifS (blT (bin gEq (varD 4) (cD (.str "under"))))
    (retS (callF 3 F_put (consA (varD 0) (consA (varD 6) (consA (callF 2 F_laid_over (consA (bin gIx (varD 0) (varD 6)) (consA (bin gIx (varD 0) (varD 5)) nilA))) nilA)))))
    passS)
    (seqS (ifS (blT (bin gNe (varD 6) (varD 2)))
    (retS (varD 0))
    passS)
    (retS (callF 3 F_put (consA (varD 0) (consA (varD 5) (consA (ifD (blT (bin gEq (varD 4) (cD (.str "write")))) (tupD (consA (tupD (consA (cD (.str "written")) (consA (varD 3) nilA))) nilA)) (tupD nilA)) nilA)))))))))
def F_lists_behind : List D → R D := defF 7 B_lists_behind
def B_first_there : Env → R Out :=
  (seqS (forS (iterF (varD 0)) (tName 2)
    (ifS (orT (blT (bin gEq (bin gIx (varD 2) (cD (.int 0))) (cD (.str "written")))) (blT (bin gInA (bin gIx (varD 2) (cD (.int 1))) (varD 1))))
    (retS (varD 2))
    passS))
    (retS (cD .none)))
def F_first_there : List D → R D := defF 3 B_first_there
def B_papers_of : Env → R Out :=
  (retS (callD gTuple (consA (lstD (compD (iterF (varD 0)) (tName 2) yesT (callF 2 F_first_there (consA (varD 2) (consA (varD 1) nilA))) [2])) nilA)))
def F_papers_of : List D → R D := defF 3 B_papers_of
def B_comes_up : Env → R Out :=
  (seqS (forS (iterF (varD 0)) (tName 2)
    (ifS (blT (bin gNe (varD 1) (cD (.int 0))))
    (setS 1 (bin gIx (varD 0) (bin gSub (varD 1) (cD (.int 1)))))
    passS))
    (retS (bin gEq (varD 1) (cD (.int 0)))))
def F_comes_up : List D → R D := defF 3 B_comes_up
def B_is_parents : Env → R Out :=
  (seqS (ifS (notT (andT (truT (isiD "tuple" (varD 0))) (blT (bin gLt (callD gLen (consA (varD 0) nilA)) (cD (.int 6))))))
    (retS (cD (.bool false)))
    passS)
    (seqS (setS 1 (bin gAdd (callD gLen (consA (varD 0) nilA)) (cD (.int 1))))
    (retS (andD (callD gAll (consA (lstD (compD (iterF (varD 0)) (tName 2) yesT (callF 2 F_is_folder (consA (varD 1) (consA (varD 2) nilA))) [2])) nilA)) (callD gAll (consA (lstD (compD (rngI (consA (varD 1) nilA)) (tName 3) yesT (callF 2 F_comes_up (consA (varD 0) (consA (varD 3) nilA))) [3])) nilA))))))
def F_is_parents : List D → R D := defF 4 B_is_parents
def B_is_group : Env → R Out :=
  (retS (callF 3 F_is_whole (consA (varD 0) (consA (bin gIx (cD (.tuple (([(0), (1), (2)] : List Int).map PyData.int))) (cD (.int 0))) (consA (bin gIx (cD (.tuple (([(0), (1), (2)] : List Int).map PyData.int))) (un gNeg (cD (.int 1)))) nilA)))))
def F_is_group : List D → R D := defF 1 B_is_group
def B_is_who : Env → R Out :=
  (seqS (ifS (notT (truT (callF 1 F_is_pair (consA (varD 1) nilA))))
    (retS (cD (.bool false)))
    passS)
    (seqS (ifS (truT (callF 2 F_is_word (consA (bin gIx (varD 1) (cD (.int 0))) (consA (tupD (consA (cD (.str "p")) nilA)) nilA))))
    (retS (callF 3 F_is_whole (consA (bin gIx (varD 1) (cD (.int 1))) (consA (cD (.int 0)) (consA (bin gSub (varD 0) (cD (.int 1))) nilA)))))
    passS)
    (retS (andD (callF 2 F_is_word (consA (bin gIx (varD 1) (cD (.int 0))) (consA (tupD (consA (cD (.str "g")) nilA)) nilA))) (callF 1 F_is_group (consA (bin gIx (varD 1) (cD (.int 1))) nilA))))))
def F_is_who : List D → R D := defF 2 B_is_who
def B_is_entry : Env → R Out :=
  (retS (andD (isiD "tuple" (varD 2)) (andD (bin gEq (callD gLen (consA (varD 2) nilA)) (cD (.int 3))) (andD (callF 2 F_is_folder (consA (varD 1) (consA (bin gIx (varD 2) (cD (.int 0))) nilA))) (andD (callF 2 F_is_who (consA (varD 0) (consA (bin gIx (varD 2) (cD (.int 1))) nilA))) (callF 2 F_is_word (consA (bin gIx (varD 2) (cD (.int 2))) (consA (cD (.tuple ((["allow", "bar"] : List Str).map PyData.str))) nilA))))))))
def F_is_entry : List D → R D := defF 3 B_is_entry
def B_is_entries : Env → R Out :=
  (retS (andD (isiD "tuple" (varD 2)) (andD (bin gLe (callD gLen (consA (varD 2) nilA)) (cD (.int 12))) (andD (callD gAll (consA (lstD (compD (iterF (varD 2)) (tName 3) yesT (callF 3 F_is_entry (consA (varD 0) (consA (varD 1) (consA (varD 3) nilA)))) [3])) nilA)) (callF 1 F_is_rising (consA (lstD (compD (iterF (varD 2)) (tName 3) yesT (slD gSl (varD 3) noPart (part (cD (.int 2)))) [3])) nilA))))))
def F_is_entries : List D → R D := defF 4 B_is_entries
def B_has_one_of : Env → R Out :=
  (retS (callD gAny (consA (lstD (compD (iterF (varD 2)) (tName 3) yesT (bin gInA (tupD (consA (varD 1) (consA (tupD (consA (cD (.str "g")) (consA (varD 3) nilA))) nilA))) (varD 0)) [3])) nilA)))
def F_has_one_of : List D → R D := defF 4 B_has_one_of
def B_groups_of : Env → R Out :=
  (seqS (setS 3 (lstD (compD (iterF (cD (.tuple (([(0), (1), (2)] : List Int).map PyData.int)))) (tName 6) (blT (bin gInA (tupD (consA (varD 6) (consA (varD 1) nilA))) (varD 0))) (varD 6) [6])))
    (seqS (forS (iterF (ifD (truT (varD 2)) (slD gSl (cD (.tuple (([(0), (1), (2)] : List Int).map PyData.int))) (part (cD (.int 1))) noPart) (tupD nilA))) (tName 4)
    (seqS (setS 5 (varD 3))
    (setS 3 (lstD (compD (iterF (cD (.tuple (([(0), (1), (2)] : List Int).map PyData.int)))) (tName 6) (orT (blT (bin gInA (varD 6) (varD 5))) (truT (callF 3 F_has_one_of (consA (varD 0) (consA (varD 6) (consA (varD 5) nilA)))))) (varD 6) [6])))))
    (retS (callD gTuple (consA (varD 3) nilA)))))
def F_groups_of : List D → R D := defF 7 B_groups_of
def B_is_acyclic : Env → R Out :=
  (retS (notD (callD gAny (consA (lstD (compD (iterF (cD (.tuple (([(0), (1), (2)] : List Int).map PyData.int)))) (tName 1) yesT (bin gInA (varD 1) (callF 3 F_groups_of (consA (varD 0) (consA (tupD (consA (cD (.str "g")) (consA (varD 1) nilA))) (consA (cD (.bool true)) nilA))))) [1])) nilA))))
def F_is_acyclic : List D → R D := defF 2 B_is_acyclic
def B_is_members : Env → R Out :=
  (retS (andD (isiD "tuple" (varD 1)) (andD (callD gAll (consA (lstD (compD (iterF (varD 1)) (tName 2) yesT (andD (callF 1 F_is_pair (consA (varD 2) nilA)) (andD (callF 1 F_is_group (consA (bin gIx (varD 2) (cD (.int 0))) nilA)) (callF 2 F_is_who (consA (varD 0) (consA (bin gIx (varD 2) (cD (.int 1))) nilA))))) [2])) nilA)) (andD (callF 1 F_is_rising (consA (varD 1) nilA)) (callF 1 F_is_acyclic (consA (varD 1) nilA))))))
def F_is_members : List D → R D := defF 3 B_is_members
def B_is_furnished : Env → R Out :=
  (seqS (asgS (varD 2) (tTup 3 (tCons (tName 3) (tCons (tName 4) (tCons (tName 5) tNil)))))
    (retS (andD (isiD "tuple" (varD 3)) (andD (bin gEq (callD gLen (consA (varD 3) nilA)) (varD 1)) (andD (callD gAll (consA (lstD (compD (iterF (varD 3)) (tName 6) yesT (isiD "bool" (varD 6)) [6])) nilA)) (andD (callF 3 F_is_entries (consA (varD 0) (consA (varD 1) (consA (varD 4) nilA)))) (callF 2 F_is_members (consA (varD 0) (consA (varD 5) nilA)))))))))
def F_is_furnished : List D → R D := defF 7 B_is_furnished
def B_is_house : Env → R Out :=
  (retS (andD (isiD "tuple" (varD 0)) (andD (bin gEq (callD gLen (consA (varD 0) nilA)) (cD (.int 5))) (andD (callF 3 F_is_whole (consA (bin gIx (varD 0) (cD (.int 0))) (consA (cD (.int 1)) (consA (cD (.int 4)) nilA)))) (andD (callF 1 F_is_parents (consA (bin gIx (varD 0) (cD (.int 1))) nilA)) (callF 3 F_is_furnished (consA (bin gIx (varD 0) (cD (.int 0))) (consA (bin gAdd (callD gLen (consA (bin gIx (varD 0) (cD (.int 1))) nilA)) (cD (.int 1))) (consA (slD gSl (varD 0) (part (cD (.int 2))) noPart) nilA)))))))))
def F_is_house : List D → R D := defF 1 B_is_house
def B_is_mode : Env → R Out :=
  (retS (andD (isiD "tuple" (varD 0)) (andD (bin gEq (callD gLen (consA (varD 0) nilA)) (cD (.int 4))) (andD (callF 2 F_is_word (consA (bin gIx (varD 0) (cD (.int 0))) (consA (cD (.tuple ((["bar", "near"] : List Str).map PyData.str))) nilA))) (andD (callF 2 F_is_word (consA (bin gIx (varD 0) (cD (.int 1))) (consA (cD (.tuple ((["drops", "keeps"] : List Str).map PyData.str))) nilA))) (andD (callF 2 F_is_word (consA (bin gIx (varD 0) (cD (.int 2))) (consA (cD (.tuple ((["login", "now"] : List Str).map PyData.str))) nilA))) (isiD "bool" (bin gIx (varD 0) (cD (.int 3))))))))))
def F_is_mode : List D → R D := defF 1 B_is_mode
def B_size_of : Env → R Out :=
  (retS (bin gAdd (callD gLen (consA (bin gIx (varD 0) (cD (.int 1))) nilA)) (cD (.int 1))))
def F_size_of : List D → R D := defF 1 B_size_of
def B_is_person : Env → R Out :=
  (retS (callF 3 F_is_whole (consA (varD 1) (consA (cD (.int 0)) (consA (bin gSub (bin gIx (varD 0) (cD (.int 0))) (cD (.int 1))) nilA)))))
def F_is_person : List D → R D := defF 2 B_is_person
def B_start_state : Env → R Out :=
  (seqS (asgS (varD 0) (tTup 5 (tCons (tName 2) (tCons (tName 3) (tCons (tName 4) (tCons (tName 5) (tCons (tName 6) tNil)))))))
    (seqS (setS 7 (lstD (compD (rngI (consA (varD 2) nilA)) (tName 8) yesT (callF 3 F_groups_of (consA (varD 6) (consA (tupD (consA (cD (.str "p")) (consA (varD 8) nilA))) (consA (bin gIx (varD 1) (cD (.int 3))) nilA)))) [8])))
    (retS (tupD (consA (varD 3) (consA (varD 4) (consA (varD 5) (consA (varD 6) (consA (callD gTuple (consA (varD 7) nilA)) nilA)))))))))
def F_start_state : List D → R D := defF 9 B_start_state
def B_is_right_deed : Env → R Out :=
  (seqS (ifS (notT (andT (truT (isiD "tuple" (varD 1))) (blT (bin gInA (callD gLen (consA (varD 1) nilA)) (tupD (consA (cD (.int 2)) (consA (cD (.int 3)) nilA)))))))
    (retS (cD (.bool false)))
    passS)
    (seqS (asgS (slD gSl (varD 1) noPart (part (cD (.int 2)))) (tTup 2 (tCons (tName 2) (tCons (tName 3) tNil))))
    (seqS (setS 4 (callF 1 F_size_of (consA (varD 0) nilA)))
    (seqS (ifS (blT (bin gEq (callD gLen (consA (varD 1) nilA)) (cD (.int 2))))
    (retS (ifD (truT (callF 2 F_is_word (consA (varD 2) (consA (tupD (consA (cD (.str "login")) nilA)) nilA)))) (callF 2 F_is_person (consA (varD 0) (consA (varD 3) nilA))) (andD (callF 2 F_is_word (consA (varD 2) (consA (cD (.tuple ((["open", "shut"] : List Str).map PyData.str))) nilA))) (callF 2 F_is_folder (consA (varD 4) (consA (varD 3) nilA))))))
    passS)
    (seqS (ifS (truT (callF 2 F_is_word (consA (varD 2) (consA (tupD (consA (cD (.str "move")) nilA)) nilA))))
    (retS (andD (callF 2 F_is_folder (consA (varD 4) (consA (varD 3) nilA))) (callF 2 F_is_folder (consA (varD 4) (consA (bin gIx (varD 1) (cD (.int 2))) nilA)))))
    passS)
    (seqS (ifS (truT (callF 2 F_is_word (consA (varD 2) (consA (cD (.tuple ((["join", "leave"] : List Str).map PyData.str))) nilA))))
    (retS (andD (callF 1 F_is_group (consA (varD 3) nilA)) (callF 2 F_is_who (consA (bin gIx (varD 0) (cD (.int 0))) (consA (bin gIx (varD 1) (cD (.int 2))) nilA)))))
    passS)
    (retS (andD (callF 2 F_is_word (consA (varD 2) (consA (cD (.tuple ((["allow", "bar", "clear"] : List Str).map PyData.str))) nilA))) (andD (callF 2 F_is_folder (consA (varD 4) (consA (varD 3) nilA))) (callF 2 F_is_who (consA (bin gIx (varD 0) (cD (.int 0))) (consA (bin gIx (varD 1) (cD (.int 2))) nilA))))))))))))
def F_is_right_deed : List D → R D := defF 5 B_is_right_deed
def B_do_right : Env → R Out :=
  (seqS badS
    badS)
def F_do_right : List D → R D := defF 4 B_do_right
def B_with_part : Env → R Out :=
  (retS (bin gAdd (bin gAdd (slD gSl (varD 0) noPart (part (varD 1))) (tupD (consA (callD gTuple (consA (varD 2) nilA)) nilA))) (slD gSl (varD 0) (part (bin gAdd (varD 1) (cD (.int 1)))) noPart)))
def F_with_part : List D → R D := defF 3 B_with_part
def B_put_entry : Env → R Out :=
  (seqS (asgS (varD 2) (tTup 3 (tCons (tName 3) (tCons (tName 4) (tCons (tName 5) tNil)))))
    (seqS (setS 6 (lstD (compD (iterF (bin gIx (varD 1) (cD (.int 2)))) (tName 7) (blT (bin gNe (slD gSl (varD 7) noPart (part (cD (.int 2)))) (tupD (consA (varD 4) (consA (varD 5) nilA))))) (varD 7) [7])))
    (seqS (ifS (blT (bin gEq (callD gLen (consA (varD 6) nilA)) (cD (.int 12))))
    (retS (varD 1))
    passS)
    (retS (callF 3 F_with_part (consA (varD 1) (consA (cD (.int 2)) (consA (lstD (sortG (bin gAdd (varD 6) (lstD (dispL (consA (tupD (consA (varD 4) (consA (varD 5) (consA (varD 3) nilA)))) nilA)))))) nilA))))))))
def F_put_entry : List D → R D := defF 8 B_put_entry
def B_clear_entry : Env → R Out :=
  (retS (callF 3 F_with_part (consA (varD 1) (consA (cD (.int 2)) (consA (lstD (compD (iterF (bin gIx (varD 1) (cD (.int 2)))) (tName 3) (blT (bin gNe (slD gSl (varD 3) noPart (part (cD (.int 2)))) (slD gSl (varD 2) (part (cD (.int 1))) noPart))) (varD 3) [3])) nilA)))))
def F_clear_entry : List D → R D := defF 4 B_clear_entry
def B_join : Env → R Out :=
  (seqS badS
    (retS (ifD (truT (callF 1 F_is_acyclic (consA (varD 3) nilA))) (callF 3 F_with_part (consA (varD 1) (consA (cD (.int 3)) (consA (varD 3) nilA)))) (varD 1))))
def F_join : List D → R D := defF 4 B_join
def B_leave : Env → R Out :=
  (retS (callF 3 F_with_part (consA (varD 1) (consA (cD (.int 3)) (consA (lstD (compD (iterF (bin gIx (varD 1) (cD (.int 3)))) (tName 3) (blT (bin gNe (varD 3) (slD gSl (varD 2) (part (cD (.int 1))) noPart))) (varD 3) [3])) nilA)))))
def F_leave : List D → R D := defF 4 B_leave
def B_line_up : Env → R Out :=
  (seqS (setO 2 (dispL (consA (varD 1) nilA)))
    (seqS (whileS (blT (bin gNe (ownIx 2 (un gNeg (cD (.int 1)))) (cD (.int 0))))
    (appS 2 (bin gIx (varD 0) (bin gSub (ownIx 2 (un gNeg (cD (.int 1)))) (cD (.int 1))))))
    (retO 2)))
def F_line_up : List D → R D := defF 3 B_line_up
def FL_line_up : List D → R (List D) := defL 3 B_line_up
def B_move_ : Env → R Out :=
  (seqS (asgS (varD 2) (tTup 3 (tCons (tName 3) (tCons (tName 4) (tCons (tName 5) tNil)))))
    (seqS (setS 6 (bin gIx (varD 1) (cD (.int 0))))
    (seqS (ifS (blT (bin gInA (varD 4) (callF 2 F_line_up (consA (varD 6) (consA (varD 5) nilA)))))
    (retS (varD 1))
    passS)
    (seqS (setS 1 (callF 3 F_with_part (consA (varD 1) (consA (cD (.int 0)) (consA (bin gAdd (bin gAdd (slD gSl (varD 6) noPart (part (bin gSub (varD 4) (cD (.int 1))))) (tupD (consA (varD 5) nilA))) (slD gSl (varD 6) (part (varD 4)) noPart)) nilA)))))
    (seqS (ifS (blT (bin gEq (bin gIx (varD 0) (cD (.int 1))) (cD (.str "keeps"))))
    (retS (varD 1))
    passS)
    (retS (callF 3 F_with_part (consA (varD 1) (consA (cD (.int 2)) (consA (lstD (compD (iterF (bin gIx (varD 1) (cD (.int 2)))) (tName 7) (blT (bin gNe (bin gIx (varD 7) (cD (.int 0))) (varD 4))) (varD 7) [7])) nilA))))))))))
def F_move_ : List D → R D := defF 8 B_move_
def B_set_shut : Env → R Out :=
  (seqS (asgS (varD 2) (tTup 2 (tCons (tName 3) (tCons (tName 4) tNil))))
    (seqS (setS 5 (bin gIx (varD 1) (cD (.int 1))))
    (retS (callF 3 F_with_part (consA (varD 1) (consA (cD (.int 1)) (consA (bin gAdd (bin gAdd (slD gSl (varD 5) noPart (part (varD 4))) (tupD (consA (bin gEq (varD 3) (cD (.str "shut"))) nilA))) (slD gSl (varD 5) (part (bin gAdd (varD 4) (cD (.int 1)))) noPart)) nilA)))))))
def F_set_shut : List D → R D := defF 6 B_set_shut
def B_login : Env → R Out :=
  (seqS (setS 3 (bin gIx (varD 2) (cD (.int 1))))
    (seqS (setS 4 (bin gIx (varD 1) (cD (.int 4))))
    (seqS (setS 5 (callF 3 F_groups_of (consA (bin gIx (varD 1) (cD (.int 3))) (consA (tupD (consA (cD (.str "p")) (consA (varD 3) nilA))) (consA (bin gIx (varD 0) (cD (.int 3))) nilA)))))
    (retS (callF 3 F_with_part (consA (varD 1) (consA (cD (.int 4)) (consA (bin gAdd (bin gAdd (slD gSl (varD 4) noPart (part (varD 3))) (tupD (consA (varD 5) nilA))) (slD gSl (varD 4) (part (bin gAdd (varD 3) (cD (.int 1)))) noPart)) nilA))))))))
def F_login : List D → R D := defF 6 B_login
def B_is_office : Env → R Out :=
  (retS (andD (isiD "tuple" (varD 0)) (andD (bin gEq (callD gLen (consA (varD 0) nilA)) (cD (.int 3))) (andD (callF 1 F_is_house (consA (bin gIx (varD 0) (cD (.int 0))) nilA)) (andD (callF 1 F_is_mode (consA (bin gIx (varD 0) (cD (.int 1))) nilA)) (callF 1 F_is_book (consA (bin gIx (varD 0) (cD (.int 2))) nilA)))))))
def F_is_office : List D → R D := defF 1 B_is_office
def B_need_office : Env → R Out :=
  (ifS (notT (truT (callF 1 F_is_office (consA (varD 0) nilA))))
    (raiseS "BadOffice" (cD (.str "an office is a tuple of a house, a mode and a book")))
    passS)
def F_need_office : List D → R D := defF 1 B_need_office
def B_is_look : Env → R Out :=
  (retS (andD (isiD "tuple" (varD 1)) (andD (bin gEq (callD gLen (consA (varD 1) nilA)) (cD (.int 4))) (andD (callF 2 F_is_word (consA (bin gIx (varD 1) (cD (.int 0))) (consA (tupD (consA (cD (.str "look")) nilA)) nilA))) (andD (callF 2 F_is_person (consA (varD 0) (consA (bin gIx (varD 1) (cD (.int 1))) nilA))) (andD (callF 2 F_is_folder (consA (callF 1 F_size_of (consA (varD 0) nilA)) (consA (bin gIx (varD 1) (cD (.int 2))) nilA))) (callF 1 F_is_path (consA (bin gIx (varD 1) (cD (.int 3))) nilA))))))))
def F_is_look : List D → R D := defF 2 B_is_look
def B_is_deed : Env → R Out :=
  (retS (orD (callF 2 F_is_right_deed (consA (varD 0) (consA (varD 1) nilA))) (orD (callF 2 F_is_paper_deed (consA (callF 1 F_size_of (consA (varD 0) nilA)) (consA (varD 1) nilA))) (callF 2 F_is_look (consA (varD 0) (consA (varD 1) nilA))))))
def F_is_deed : List D → R D := defF 2 B_is_deed
def B_is_route_of : Env → R Out :=
  (seqS (setS 2 (lstD (compD (iterF (varD 0)) (tTup 2 (tCons (tName 3) (tCons (tName 4) tNil))) yesT (varD 3) [3, 4])))
    (retS (andD (callF 1 F_is_route (consA (varD 1) nilA)) (callD gAll (consA (lstD (compD (iterF (varD 1)) (tName 5) yesT (orD (bin gEq (varD 5) (cD (.str "+"))) (bin gInA (varD 5) (varD 2))) [5])) nilA)))))
def F_is_route_of : List D → R D := defF 6 B_is_route_of
def B_is_step : Env → R Out :=
  (retS (andD (callF 1 F_is_pair (consA (varD 1) nilA)) (andD (callF 2 F_is_deed (consA (bin gIx (varD 0) (cD (.int 0))) (consA (bin gIx (varD 1) (cD (.int 0))) nilA))) (callF 2 F_is_route_of (consA (bin gIx (varD 0) (cD (.int 2))) (consA (bin gIx (varD 1) (cD (.int 1))) nilA))))))
def F_is_step : List D → R D := defF 2 B_is_step
def B_is_plan : Env → R Out :=
  (seqS (dropS (callF 1 F_need_office (consA (varD 0) nilA)))
    (retS (andD (isiD "tuple" (varD 1)) (andD (bin gLe (callD gLen (consA (varD 1) nilA)) (cD (.int 8))) (callD gAll (consA (lstD (compD (iterF (varD 1)) (tName 2) yesT (callF 2 F_is_step (consA (varD 0) (consA (varD 2) nilA))) [2])) nilA))))))
def F_is_plan : List D → R D := defF 3 B_is_plan
def B_history_for : Env → R Out :=
  (seqS (setS 3 (callD gDict (consA (bin gIx (varD 0) (cD (.int 2))) nilA)))
    (retL (sortG (lstD (compD (enumF (varD 1)) (tTup 2 (tCons (tName 4) (tCons (tName 5) tNil))) yesT (tupD (consA (callF 3 F_move (consA (varD 3) (consA (bin gIx (varD 5) (cD (.int 1))) (consA (varD 2) nilA)))) (consA (varD 4) nilA))) [4, 5])))))
def F_history_for : List D → R D := defF 6 B_history_for
def FL_history_for : List D → R (List D) := defL 6 B_history_for
def B_order_for : Env → R Out :=
  (retS (callD gTuple (consA (lstD (compD (iterF (callF 3 F_history_for (consA (varD 0) (consA (varD 1) (consA (varD 2) nilA))))) (tTup 2 (tCons (tName 3) (tCons (tName 4) tNil))) yesT (varD 4) [3, 4])) nilA)))
def F_order_for : List D → R D := defF 5 B_order_for
def B_writes_of : Env → R Out :=
  (retL (compD (enumF (varD 0)) (tTup 2 (tCons (tName 1) (tCons (tTup 2 (tCons (tName 2) (tCons (tName 3) tNil))) tNil))) (blT (bin gEq (bin gIx (varD 2) (cD (.int 0))) (cD (.str "write")))) (varD 1) [1, 2, 3]))
def F_writes_of : List D → R D := defF 4 B_writes_of
def FL_writes_of : List D → R (List D) := defL 4 B_writes_of
def B_need_plan : Env → R Out :=
  (ifS (notT (truT (callF 2 F_is_plan (consA (varD 0) (consA (varD 1) nilA)))))
    (raiseS "BadPlan" (jsD [(cD (.str "a plan is a tuple of at most ")), (fmtD (cD (.int 8))), (cD (.str " steps, tuples of a deed and a route of the office"))] Str.empty))
    passS)
def F_need_plan : List D → R D := defF 2 B_need_plan
def B_need_moment : Env → R Out :=
  (seqS (dropS (callF 2 F_need_plan (consA (varD 0) (consA (varD 1) nilA))))
    (seqS (dropS (callF 1 F_need_day (consA (varD 2) nilA)))
    (ifS (notT (truT (callF 3 F_is_whole (consA (varD 3) (consA (cD (.int 0)) (consA (callD gLen (consA (varD 1) nilA)) nilA))))))
    (raiseS "BadMoment" (jsD [(cD (.str "a moment is an integer from 0 to ")), (fmtD (callD gLen (consA (varD 1) nilA)))] Str.empty))
    passS)))
def F_need_moment : List D → R D := defF 4 B_need_moment
def B_first_world : Env → R Out :=
  (seqS (asgS (varD 0) (tTup 3 (tCons (tName 1) (tCons (tName 2) (tCons (tName 3) tNil)))))
    (retS (tupD (consA (callF 2 F_start_state (consA (varD 1) (consA (varD 2) nilA))) (consA (bin gMulA (tupD (consA (callF 1 F_first_lists (consA (callF 1 F_size_of (consA (varD 1) nilA)) nilA)) nilA)) (callD gLen (consA (cD (.tuple (([(0), (1), (2), (3)] : List Int).map PyData.int))) nilA))) nilA)))))
def F_first_world : List D → R D := defF 4 B_first_world
def B_is_with_papers : Env → R Out :=
  (retS (orD (bin gInA (bin gIx (varD 0) (cD (.int 0))) (cD (.tuple ((["over", "under"] : List Str).map PyData.str)))) (bin gInA (bin gIx (varD 0) (cD (.int 0))) (cD (.tuple ((["write", "throw"] : List Str).map PyData.str))))))
def F_is_with_papers : List D → R D := defF 1 B_is_with_papers
def B_world_behind : Env → R Out :=
  (seqS (asgS (varD 1) (tTup 2 (tCons (tName 4) (tCons (tName 5) tNil))))
    (seqS (ifS (blT (bin gEq (bin gIx (varD 2) (cD (.int 0))) (cD (.str "look"))))
    (retS (varD 1))
    passS)
    (seqS (ifS (truT (callF 1 F_is_with_papers (consA (varD 2) nilA)))
    (retS (tupD (consA (varD 4) (consA (callD gTuple (consA (lstD (compD (iterF (cD (.tuple (([(0), (1), (2), (3)] : List Int).map PyData.int)))) (tName 6) yesT (callF 4 F_lists_behind (consA (bin gIx (varD 5) (varD 6)) (consA (varD 2) (consA (varD 6) (consA (varD 3) nilA))))) [6])) nilA)) nilA))))
    passS)
    (retS (tupD (consA (callF 3 F_do_right (consA (bin gIx (varD 0) (cD (.int 1))) (consA (varD 4) (consA (varD 2) nilA)))) (consA (varD 5) nilA)))))))
def F_world_behind : List D → R D := defF 7 B_world_behind
def B_worlds_along : Env → R Out :=
  (seqS (setO 3 (dispL (consA (callF 1 F_first_world (consA (varD 0) nilA)) nilA)))
    (seqS (forS (iterF (varD 2)) (tName 4)
    (appS 3 (callF 4 F_world_behind (consA (varD 0) (consA (ownIx 3 (un gNeg (cD (.int 1)))) (consA (bin gIx (bin gIx (varD 1) (varD 4)) (cD (.int 0))) (consA (varD 4) nilA)))))))
    (retO 3)))
def F_worlds_along : List D → R D := defF 5 B_worlds_along
def FL_worlds_along : List D → R (List D) := defL 5 B_worlds_along
def B_lists_at : Env → R Out :=
  (seqS (dropS (callF 4 F_need_moment (consA (varD 0) (consA (varD 1) (consA (varD 2) (consA (varD 3) nilA))))))
    (seqS (dropS (callF 1 F_need_path (consA (varD 4) nilA)))
    (seqS (asgS (bin gIx (callF 3 F_worlds_along (consA (varD 0) (consA (varD 1) (consA (callF 3 F_order_for (consA (varD 0) (consA (varD 1) (consA (varD 2) nilA)))) nilA)))) (varD 3)) (tTup 2 (tCons (tName 5) (tCons (tName 6) tNil))))
    (retS (bin gIx (varD 6) (varD 4))))))
def F_lists_at : List D → R D := defF 7 B_lists_at
def B_label_writes : Env → R Out :=
  (seqS (ifS (blT (bin gGt (callD gLen (consA (varD 1) nilA)) (cD (.int 8))))
    (raiseS "TooMany" (jsD [(cD (.str "no more than ")), (fmtD (cD (.int 8))), (cD (.str " papers are labelled"))] Str.empty))
    passS)
    (seqS (setS 2 (callF 2 F_safe_register (consA (varD 0) (consA (callD gLen (consA (varD 1) nilA)) nilA))))
    (seqS (ifS (blT (bin gIs (varD 2) (cD .none)))
    (raiseS "TooMany" (cD (.str "the scheme has not so many codes that are safe together")))
    passS)
    badS)))
def F_label_writes : List D → R D := defF 3 B_label_writes
def B_labels : Env → R Out :=
  (seqS (dropS (callF 1 F_need_scheme (consA (varD 0) nilA)))
    (seqS (dropS (callF 2 F_need_plan (consA (varD 1) (consA (varD 2) nilA))))
    (retS (callF 2 F_label_writes (consA (varD 0) (consA (callF 1 F_writes_of (consA (varD 2) nilA)) nilA))))))
def F_labels : List D → R D := defF 3 B_labels
def B_typed_writes : Env → R Out :=
  (seqS (setS 3 (callF 2 F_label_writes (consA (varD 0) (consA (varD 1) nilA))))
    (seqS (setS 4 (callF 3 F_read_typed (consA (varD 0) (consA (callD gTuple (consA (lstD (compD (iterF (varD 3)) (tTup 2 (tCons (tName 5) (tCons (tName 6) tNil))) yesT (varD 6) [5, 6])) nilA)) (consA (varD 2) nilA)))))
    (retL (compD (iterF (varD 3)) (tTup 2 (tCons (tName 7) (tCons (tName 6) tNil))) (blT (bin gInA (varD 6) (varD 4))) (varD 7) [7, 6]))))
def F_typed_writes : List D → R D := defF 8 B_typed_writes
def FL_typed_writes : List D → R (List D) := defL 8 B_typed_writes
def B_found_typed : Env → R Out :=
  (seqS (dropS (callF 1 F_need_scheme (consA (varD 0) nilA)))
    (seqS (dropS (callF 4 F_need_moment (consA (varD 1) (consA (varD 2) (consA (varD 3) (consA (varD 4) nilA))))))
    (seqS (dropS (callF 2 F_need_contents (consA (callF 1 F_size_of (consA (bin gIx (varD 1) (cD (.int 0))) nilA)) (consA (varD 5) nilA))))
    (seqS (dropS (callF 2 F_need_code (consA (varD 0) (consA (varD 6) nilA))))
    (seqS (setS 7 (callF 3 F_typed_writes (consA (varD 0) (consA (callF 1 F_writes_of (consA (varD 2) nilA)) (consA (varD 6) nilA)))))
    (seqS (asgS (bin gIx (callF 3 F_worlds_along (consA (varD 1) (consA (varD 2) (consA (slD gSl (callF 3 F_order_for (consA (varD 1) (consA (varD 2) (consA (varD 3) nilA)))) noPart (part (varD 4))) nilA)))) (un gNeg (cD (.int 1)))) (tTup 2 (tCons (tName 8) (tCons (tName 9) tNil))))
    (seqS (setS 10 (lstD (compD (iterF (varD 9)) (tName 11) yesT (callF 2 F_papers_of (consA (varD 11) (consA (varD 5) nilA))) [11])))
    badS)))))))
def F_found_typed : List D → R D := defF 15 B_found_typed
def FL_found_typed : List D → R (List D) := defL 15 B_found_typed
def B_need_size : Env → R Out :=
  (ifS (notT (truT (callF 3 F_is_whole (consA (varD 0) (consA (cD (.int 1)) (consA (cD (.int 6)) nilA))))))
    (raiseS "BadSize" (jsD [(cD (.str "a size is an integer from 1 to ")), (fmtD (cD (.int 6)))] Str.empty))
    passS)
def F_need_size : List D → R D := defF 1 B_need_size
def B_is_script : Env → R Out :=
  (seqS (dropS (callF 1 F_need_size (consA (varD 0) nilA)))
    (retS (andD (isiD "tuple" (varD 1)) (andD (bin gLe (callD gLen (consA (varD 1) nilA)) (cD (.int 30))) (callD gAll (consA (lstD (compD (iterF (varD 1)) (tName 2) yesT (callF 2 F_is_paper_deed (consA (varD 0) (consA (varD 2) nilA))) [2])) nilA))))))
def F_is_script : List D → R D := defF 3 B_is_script
def B_need_work : Env → R Out :=
  (seqS (ifS (notT (truT (callF 2 F_is_script (consA (varD 0) (consA (varD 1) nilA)))))
    (raiseS "BadScript" (jsD [(cD (.str "a script is a tuple of at most ")), (fmtD (cD (.int 30))), (cD (.str " paper deeds"))] Str.empty))
    passS)
    (dropS (callF 1 F_need_path (consA (varD 2) nilA))))
def F_need_work : List D → R D := defF 3 B_need_work
def B_lists_through : Env → R Out :=
  (seqS (setO 3 (dispL (consA (callF 1 F_first_lists (consA (varD 0) nilA)) nilA)))
    (seqS (forS (enumF (varD 1)) (tTup 2 (tCons (tName 4) (tCons (tName 5) tNil)))
    (appS 3 (callF 4 F_lists_behind (consA (ownIx 3 (un gNeg (cD (.int 1)))) (consA (varD 5) (consA (varD 2) (consA (varD 4) nilA)))))))
    (retO 3)))
def F_lists_through : List D → R D := defF 6 B_lists_through
def FL_lists_through : List D → R (List D) := defL 6 B_lists_through
def B_papers_at : Env → R Out :=
  (seqS (dropS (callF 3 F_need_work (consA (varD 0) (consA (varD 1) (consA (varD 2) nilA)))))
    (seqS (dropS (callF 2 F_need_contents (consA (varD 0) (consA (varD 3) nilA))))
    (retS (callF 2 F_papers_of (consA (bin gIx (callF 3 F_lists_through (consA (varD 0) (consA (varD 1) (consA (varD 2) nilA)))) (un gNeg (cD (.int 1)))) (consA (varD 3) nilA))))))
def F_papers_at : List D → R D := defF 4 B_papers_at
def B_order_at : Env → R Out :=
  (seqS (dropS (callF 2 F_need_plan (consA (varD 0) (consA (varD 1) nilA))))
    (seqS (dropS (callF 1 F_need_day (consA (varD 2) nilA)))
    (retS (callF 3 F_order_for (consA (varD 0) (consA (varD 1) (consA (varD 2) nilA)))))))
def F_order_at : List D → R D := defF 3 B_order_at
def B_need_step : Env → R Out :=
  (ifS (notT (truT (callF 3 F_is_whole (consA (varD 1) (consA (cD (.int 0)) (consA (bin gSub (callD gLen (consA (varD 0) nilA)) (cD (.int 1))) nilA))))))
    (raiseS "BadStep" (cD (.str "a step is told by its number, an integer from 0 on")))
    passS)
def F_need_step : List D → R D := defF 2 B_need_step
def B_need_write : Env → R Out :=
  (seqS (dropS (callF 2 F_need_step (consA (varD 0) (consA (varD 1) nilA))))
    (ifS (blT (bin gNe (bin gIx (bin gIx (bin gIx (varD 0) (varD 1)) (cD (.int 0))) (cD (.int 0))) (cD (.str "write"))))
    (raiseS "BadStep" (cD (.str "the step has to be a writing")))
    passS))
def F_need_write : List D → R D := defF 2 B_need_write
def B_script_of : Env → R Out :=
  (seqS (setS 2 (callD gTuple (consA (lstD (compD (iterF (varD 1)) (tName 3) (truT (callF 1 F_is_with_papers (consA (bin gIx (bin gIx (varD 0) (varD 3)) (cD (.int 0))) nilA))) (varD 3) [3])) nilA)))
    (retS (tupD (consA (callD gTuple (consA (lstD (compD (iterF (varD 2)) (tName 3) yesT (bin gIx (bin gIx (varD 0) (varD 3)) (cD (.int 0))) [3])) nilA)) (consA (varD 2) nilA)))))
def F_script_of : List D → R D := defF 4 B_script_of
def B_script_at : Env → R Out :=
  (seqS (dropS (callF 4 F_need_moment (consA (varD 0) (consA (varD 1) (consA (varD 2) (consA (varD 3) nilA))))))
    (retS (callF 2 F_script_of (consA (varD 1) (consA (slD gSl (callF 3 F_order_for (consA (varD 0) (consA (varD 1) (consA (varD 2) nilA)))) noPart (part (varD 3))) nilA)))))
def F_script_at : List D → R D := defF 4 B_script_at
def B_folders_with : Env → R Out :=
  (seqS (setS 2 (lstD (compD (enumF (varD 1)) (tTup 2 (tCons (tName 4) (tCons (tName 5) tNil))) (blT (bin gEq (slD gSl (varD 5) noPart (part (cD (.int 1)))) (tupD (consA (varD 0) nilA)))) (varD 4) [4, 5])))
    (seqS (setS 3 (lstD (compD (enumF (varD 1)) (tTup 2 (tCons (tName 4) (tCons (tName 5) tNil))) (blT (bin gInA (varD 0) (varD 5))) (varD 4) [4, 5])))
    (retS (tupD (consA (callD gTuple (consA (varD 2) nilA)) (consA (callD gTuple (consA (varD 3) nilA)) nilA))))))
def F_folders_with : List D → R D := defF 6 B_folders_with
def B_whereabouts : Env → R Out :=
  (seqS (dropS (callF 2 F_need_plan (consA (varD 0) (consA (varD 1) nilA))))
    (seqS (dropS (callF 1 F_need_day (consA (varD 2) nilA)))
    (seqS (dropS (callF 2 F_need_write (consA (varD 1) (consA (varD 3) nilA))))
    (seqS (setS 4 (callF 3 F_order_for (consA (varD 0) (consA (varD 1) (consA (varD 2) nilA)))))
    (seqS badS
    (seqS (setS 6 (bin gIx (bin gIx (bin gIx (varD 1) (varD 3)) (cD (.int 0))) (cD (.int 2))))
    (retL (compD (iterF (varD 5)) (tTup 2 (tCons (tName 7) (tCons (tName 8) tNil))) yesT (callF 2 F_folders_with (consA (tupD (consA (cD (.str "written")) (consA (varD 3) nilA))) (consA (bin gIx (varD 8) (varD 6)) nilA))) [7, 8]))))))))
def F_whereabouts : List D → R D := defF 9 B_whereabouts
def FL_whereabouts : List D → R (List D) := defL 9 B_whereabouts
def B_lists_of : Env → R Out :=
  (seqS (dropS (callF 3 F_need_work (consA (varD 0) (consA (varD 1) (consA (varD 2) nilA)))))
    (retS (bin gIx (callF 3 F_lists_through (consA (varD 0) (consA (varD 1) (consA (varD 2) nilA)))) (un gNeg (cD (.int 1))))))
def F_lists_of : List D → R D := defF 3 B_lists_of
def B_lists_along : Env → R Out :=
  (seqS (dropS (callF 3 F_need_work (consA (varD 0) (consA (varD 1) (consA (varD 2) nilA)))))
    (retL (callL 3 FL_lists_through (consA (varD 0) (consA (varD 1) (consA (varD 2) nilA))))))
def F_lists_along : List D → R D := defF 3 B_lists_along
def FL_lists_along : List D → R (List D) := defL 3 B_lists_along
def B_need_folder : Env → R Out :=
  (ifS (notT (truT (callF 2 F_is_folder (consA (varD 0) (consA (varD 1) nilA)))))
    (raiseS "BadFolder" (jsD [(cD (.str "a folder is an integer from 0 to ")), (fmtD (bin gSub (varD 0) (cD (.int 1))))] Str.empty))
    passS)
def F_need_folder : List D → R D := defF 2 B_need_folder
def B_is_source : Env → R Out :=
  (seqS (ifS (notT (truT (callF 1 F_is_pair (consA (varD 3) nilA))))
    (retS (cD (.bool false)))
    passS)
    (seqS (asgS (varD 3) (tTup 2 (tCons (tName 4) (tCons (tName 5) tNil))))
    (seqS (ifS (truT (callF 2 F_is_word (consA (varD 4) (consA (tupD (consA (cD (.str "first")) nilA)) nilA))))
    (retS (callF 2 F_is_folder (consA (varD 0) (consA (varD 5) nilA))))
    passS)
    (retS (andD (callF 2 F_is_word (consA (varD 4) (consA (tupD (consA (cD (.str "written")) nilA)) nilA))) (andD (callF 3 F_is_whole (consA (varD 5) (consA (cD (.int 0)) (consA (bin gSub (callD gLen (consA (varD 1) nilA)) (cD (.int 1))) nilA)))) (andD (bin gEq (bin gIx (bin gIx (varD 1) (varD 5)) (cD (.int 0))) (cD (.str "write"))) (bin gEq (bin gIx (bin gIx (varD 1) (varD 5)) (cD (.int 2))) (varD 2)))))))))
def F_is_source : List D → R D := defF 6 B_is_source
def B_need_source : Env → R Out :=
  (ifS (notT (truT (callF 4 F_is_source (consA (varD 0) (consA (varD 1) (consA (varD 2) (consA (varD 3) nilA)))))))
    (raiseS "BadSource" (cD (.str "a source is the first paper of a folder, or one written at the path by the script")))
    passS)
def F_need_source : List D → R D := defF 4 B_need_source
def B_contents_of : Env → R Out :=
  (retS (ifD (blT (bin gEq (bin gIx (varD 0) (cD (.int 0))) (cD (.str "first")))) (tupD (consA (bin gIx (varD 0) (cD (.int 1))) nilA)) (tupD nilA)))
def F_contents_of : List D → R D := defF 1 B_contents_of
def B_contents_for : Env → R Out :=
  (seqS (dropS (callF 3 F_need_work (consA (varD 0) (consA (varD 1) (consA (varD 2) nilA)))))
    (seqS (dropS (callF 2 F_need_folder (consA (varD 0) (consA (varD 3) nilA))))
    (seqS (dropS (callF 4 F_need_source (consA (varD 0) (consA (varD 1) (consA (varD 2) (consA (varD 4) nilA))))))
    (retS (ifD (blT (bin gInA (varD 4) (bin gIx (bin gIx (callF 3 F_lists_through (consA (varD 0) (consA (varD 1) (consA (varD 2) nilA)))) (un gNeg (cD (.int 1)))) (varD 3)))) (callF 1 F_contents_of (consA (varD 4) nilA)) (cD .none))))))
def F_contents_for : List D → R D := defF 5 B_contents_for
def B_start_of : Env → R Out :=
  (seqS (asgS (varD 1) (tTup 2 (tCons (tName 2) (tCons (tName 3) tNil))))
    (retS (ifD (blT (bin gEq (varD 2) (cD (.str "first")))) (tupD (consA (varD 3) (consA (cD (.int 0)) nilA))) (tupD (consA (bin gIx (bin gIx (varD 0) (varD 3)) (cD (.int 1))) (consA (bin gAdd (varD 3) (cD (.int 1))) nilA))))))
def F_start_of : List D → R D := defF 4 B_start_of
def B_copies : Env → R Out :=
  (seqS (asgS (varD 0) (tTup 3 (tCons (tName 2) (tCons (tName 3) (tCons (tName 4) tNil)))))
    (retS (orD (bin gEq (varD 2) (cD (.str "over"))) (andD (bin gEq (varD 2) (cD (.str "under"))) (bin gIs (bin gIx (varD 1) (varD 4)) (cD .none))))))
def F_copies : List D → R D := defF 5 B_copies
def B_least_trail : Env → R Out :=
  (seqS (asgS (callF 2 F_start_of (consA (varD 0) (consA (varD 3) nilA))) (tTup 2 (tCons (tName 4) (tCons (tName 5) tNil))))
    (seqS badS
    (seqS (forS (rngI (consA (varD 5) (consA (callD gLen (consA (varD 0) nilA)) nilA))) (tName 7)
    (seqS (asgS (bin gIx (varD 0) (varD 7)) (tTup 3 (tCons (tName 8) (tCons (tName 9) (tCons (tName 10) tNil)))))
    (seqS badS
    (seqS (ifS (andT (blT (bin (gInK false) (varD 9) (varD 6))) (truT (callF 2 F_copies (consA (bin gIx (varD 0) (varD 7)) (consA (bin gIx (varD 1) (varD 7)) nilA)))))
    (seqS (setS 12 (bin gAdd (bin gGetK (varD 6) (varD 9)) (tupD (consA (varD 7) nilA))))
    (ifS (orT (blT (bin (gInK true) (varD 10) (varD 11))) (blT (bin gLt (callD gLen (consA (varD 12) nilA)) (callD gLen (consA (bin gGetK (varD 11) (varD 10)) nilA)))))
    badS
    passS))
    passS)
    (setS 6 (varD 11))))))
    (retS (bin gGetK (varD 6) (varD 2))))))
def F_least_trail : List D → R D := defF 14 B_least_trail
def B_trail : Env → R Out :=
  (seqS (dropS (callF 3 F_need_work (consA (varD 0) (consA (varD 1) (consA (varD 2) nilA)))))
    (seqS (dropS (callF 2 F_need_folder (consA (varD 0) (consA (varD 3) nilA))))
    (seqS (dropS (callF 4 F_need_source (consA (varD 0) (consA (varD 1) (consA (varD 2) (consA (varD 4) nilA))))))
    (seqS (setS 5 (callF 3 F_lists_through (consA (varD 0) (consA (varD 1) (consA (varD 2) nilA)))))
    (seqS (ifS (blT (bin gNotInA (varD 4) (bin gIx (bin gIx (varD 5) (un gNeg (cD (.int 1)))) (varD 3))))
    (retS (cD .none))
    passS)
    (seqS (setS 6 (callF 1 F_contents_of (consA (varD 4) nilA)))
    (seqS (setS 7 (lstD (compD (iterF (varD 5)) (tName 8) yesT (callF 2 F_papers_of (consA (varD 8) (consA (varD 6) nilA))) [8])))
    (retS (tupD (consA (varD 6) (consA (callF 4 F_least_trail (consA (varD 1) (consA (varD 7) (consA (varD 3) (consA (varD 4) nilA))))) nilA)))))))))))
def F_trail : List D → R D := defF 9 B_trail
def B_stands_on : Env → R Out :=
  (retS (callD gAll (consA (lstD (compD (iterF (varD 0)) (tName 3) yesT (bin gEq (bin gIx (varD 3) (varD 1)) (varD 2)) [3])) nilA)))
def F_stands_on : List D → R D := defF 4 B_stands_on
def B_is_trail : Env → R Out :=
  (seqS (asgS (callF 2 F_start_of (consA (varD 0) (consA (varD 3) nilA))) (tTup 2 (tCons (tName 5) (tCons (tName 6) tNil))))
    (seqS (forS (iterF (varD 4)) (tName 7)
    (seqS (asgS (bin gIx (varD 0) (varD 7)) (tTup 3 (tCons (tName 8) (tCons (tName 9) (tCons (tName 10) tNil)))))
    (seqS (ifS (orT (blT (bin gLt (varD 7) (varD 6))) (orT (blT (bin gNe (varD 9) (varD 5))) (notT (truT (callF 2 F_copies (consA (bin gIx (varD 0) (varD 7)) (consA (bin gIx (varD 1) (varD 7)) nilA)))))))
    (retS (cD (.bool false)))
    passS)
    (seqS (ifS (notT (truT (callF 3 F_stands_on (consA (slD gSl (varD 1) (part (varD 6)) (part (bin gAdd (varD 7) (cD (.int 1))))) (consA (varD 5) (consA (varD 3) nilA))))))
    (retS (cD (.bool false)))
    passS)
    (parS 5 6 (consA (varD 10) (consA (bin gAdd (varD 7) (cD (.int 1))) nilA)))))))
    (retS (andD (bin gEq (varD 5) (varD 2)) (callF 3 F_stands_on (consA (slD gSl (varD 1) (part (varD 6)) noPart) (consA (varD 5) (consA (varD 3) nilA))))))))
def F_is_trail : List D → R D := defF 11 B_is_trail
def B_trail_holds : Env → R Out :=
  (seqS (dropS (callF 3 F_need_work (consA (varD 0) (consA (varD 1) (consA (varD 2) nilA)))))
    (seqS (dropS (callF 2 F_need_folder (consA (varD 0) (consA (varD 3) nilA))))
    (seqS (dropS (callF 4 F_need_source (consA (varD 0) (consA (varD 1) (consA (varD 2) (consA (varD 4) nilA))))))
    (seqS (dropS (callF 2 F_need_contents (consA (varD 0) (consA (varD 5) nilA))))
    (seqS (ifS (notT (andT (truT (isiD "tuple" (varD 6))) (truT (callD gAll (consA (lstD (compD (iterF (varD 6)) (tName 8) yesT (callF 3 F_is_whole (consA (varD 8) (consA (cD (.int 0)) (consA (bin gSub (callD gLen (consA (varD 1) nilA)) (cD (.int 1))) nilA)))) [8])) nilA)))))
    (retS (cD (.bool false)))
    passS)
    (seqS (setS 7 (lstD (compD (iterF (callF 3 F_lists_through (consA (varD 0) (consA (varD 1) (consA (varD 2) nilA))))) (tName 9) yesT (callF 2 F_papers_of (consA (varD 9) (consA (varD 5) nilA))) [9])))
    (retS (callF 5 F_is_trail (consA (varD 1) (consA (varD 7) (consA (varD 3) (consA (varD 4) (consA (varD 6) nilA)))))))))))))
def F_trail_holds : List D → R D := defF 10 B_trail_holds
def B_need_script : Env → R Out :=
  (ifS (notT (truT (callF 2 F_is_script (consA (varD 0) (consA (varD 1) nilA)))))
    (raiseS "BadScript" (cD (.str "a script is a tuple of at most thirty paper deeds")))
    passS)
def F_need_script : List D → R D := defF 2 B_need_script
def B_need_no_writes : Env → R Out :=
  (seqS (dropS (callF 2 F_need_script (consA (varD 0) (consA (varD 1) nilA))))
    (ifS (truT (callD gAny (consA (lstD (compD (iterF (varD 1)) (tName 2) yesT (bin gEq (bin gIx (varD 2) (cD (.int 0))) (cD (.str "write"))) [2])) nilA)))
    (raiseS "BadScript" (cD (.str "the script has to be one without a write")))
    passS))
def F_need_no_writes : List D → R D := defF 3 B_need_no_writes
def B_rows_of : Env → R Out :=
  (seqS (setS 3 (bin gIx (callF 3 F_lists_through (consA (varD 0) (consA (varD 1) (consA (varD 2) nilA)))) (un gNeg (cD (.int 1)))))
    (retS (callD gTuple (consA (lstD (compD (iterF (varD 3)) (tName 6) yesT (callD gTuple (consA (lstD (compD (iterF (varD 6)) (tTup 2 (tCons (tName 4) (tCons (tName 5) tNil))) yesT (varD 5) [4, 5])) nilA)) [6])) nilA))))
def F_rows_of : List D → R D := defF 7 B_rows_of
def B_telling_contents : Env → R Out :=
  (seqS (setS 2 (cD (.int 0)))
    (seqS (whileS (blT (bin gEq (slD gSl (varD 0) (part (varD 2)) (part (bin gAdd (varD 2) (cD (.int 1))))) (slD gSl (varD 1) (part (varD 2)) (part (bin gAdd (varD 2) (cD (.int 1)))))))
    (augS 2 gAddI (cD (.int 1))))
    (retS (callD gTuple (consA (lstD (sortG (bin gAdd (slD gSl (varD 0) (part (varD 2)) (part (bin gAdd (varD 2) (cD (.int 1))))) (slD gSl (varD 1) (part (varD 2)) (part (bin gAdd (varD 2) (cD (.int 1)))))))) nilA)))))
def F_telling_contents : List D → R D := defF 3 B_telling_contents
def B_same_script : Env → R Out :=
  (seqS (dropS (callF 2 F_need_no_writes (consA (varD 0) (consA (varD 1) nilA))))
    (seqS (dropS (callF 2 F_need_no_writes (consA (varD 0) (consA (varD 2) nilA))))
    (seqS (forS (iterF (cD (.tuple (([(0), (1), (2), (3)] : List Int).map PyData.int)))) (tName 3)
    (forS (zipG (consA (callF 3 F_rows_of (consA (varD 0) (consA (varD 1) (consA (varD 3) nilA)))) (consA (callF 3 F_rows_of (consA (varD 0) (consA (varD 2) (consA (varD 3) nilA)))) nilA))) (tTup 2 (tCons (tName 4) (tCons (tName 5) tNil)))
    (ifS (blT (bin gNe (varD 4) (varD 5)))
    (retS (tupD (consA (varD 3) (consA (callF 2 F_telling_contents (consA (varD 4) (consA (varD 5) nilA))) nilA))))
    passS)))
    (retS (cD .none)))))
def F_same_script : List D → R D := defF 6 B_same_script
def B_lists_without : Env → R Out :=
  (seqS (forS (rngI (consA (bin gAdd (varD 3) (cD (.int 1))) (consA (callD gLen (consA (varD 1) nilA)) nilA))) (tName 4)
    (setS 0 (callF 4 F_lists_behind (consA (varD 0) (consA (bin gIx (varD 1) (varD 4)) (consA (varD 2) (consA (varD 4) nilA)))))))
    (retS (varD 0)))
def F_lists_without : List D → R D := defF 5 B_lists_without
def B_is_idle : Env → R Out :=
  (retS (callD gAll (consA (lstD (compD (iterF (cD (.tuple (([(0), (1), (2), (3)] : List Int).map PyData.int)))) (tName 3) yesT (bin gEq (callF 4 F_lists_without (consA (bin gIx (bin gIx (varD 0) (varD 3)) (varD 2)) (consA (varD 1) (consA (varD 3) (consA (varD 2) nilA))))) (bin gIx (bin gIx (varD 0) (varD 3)) (un gNeg (cD (.int 1))))) [3])) nilA)))
def F_is_idle : List D → R D := defF 4 B_is_idle
def B_idle_deeds : Env → R Out :=
  (seqS (dropS (callF 2 F_need_script (consA (varD 0) (consA (varD 1) nilA))))
    (seqS (setS 2 (lstD (compD (iterF (cD (.tuple (([(0), (1), (2), (3)] : List Int).map PyData.int)))) (tName 3) yesT (callF 3 F_lists_through (consA (varD 0) (consA (varD 1) (consA (varD 3) nilA)))) [3])))
    (retL (compD (rngI (consA (callD gLen (consA (varD 1) nilA)) nilA)) (tName 4) (truT (callF 3 F_is_idle (consA (varD 2) (consA (varD 1) (consA (varD 4) nilA))))) (varD 4) [4]))))
def F_idle_deeds : List D → R D := defF 5 B_idle_deeds
def FL_idle_deeds : List D → R (List D) := defL 5 B_idle_deeds
def B_last_idle : Env → R Out :=
  (seqS (setS 2 (lstD (compD (iterF (cD (.tuple (([(0), (1), (2), (3)] : List Int).map PyData.int)))) (tName 4) yesT (callF 3 F_lists_through (consA (varD 0) (consA (varD 1) (consA (varD 4) nilA)))) [4])))
    (seqS (forS (revRI (callD gLen (consA (varD 1) nilA))) (tName 3)
    (ifS (truT (callF 3 F_is_idle (consA (varD 2) (consA (varD 1) (consA (varD 3) nilA)))))
    (retS (varD 3))
    passS))
    (retS (cD .none))))
def F_last_idle : List D → R D := defF 5 B_last_idle
def B_least_script : Env → R Out :=
  (seqS (dropS (callF 2 F_need_script (consA (varD 0) (consA (varD 1) nilA))))
    (seqS (setS 2 (callF 2 F_last_idle (consA (varD 0) (consA (varD 1) nilA))))
    (seqS (whileS (blT (bin gIsNot (varD 2) (cD .none)))
    (seqS (setS 1 (bin gAdd (slD gSl (varD 1) noPart (part (varD 2))) (slD gSl (varD 1) (part (bin gAdd (varD 2) (cD (.int 1)))) noPart)))
    (setS 2 (callF 2 F_last_idle (consA (varD 0) (consA (varD 1) nilA))))))
    (retS (varD 1)))))
def F_least_script : List D → R D := defF 3 B_least_script
def B_own_rows : Env → R Out :=
  (retS (callD gTuple (consA (lstD (compD (rngI (consA (varD 0) nilA)) (tName 1) yesT (tupD (consA (varD 1) nilA)) [1])) nilA)))
def F_own_rows : List D → R D := defF 2 B_own_rows
def B_each_once : Env → R Out :=
  (retS (callD gTuple (consA (lstD (compD (enumF (varD 0)) (tTup 2 (tCons (tName 1) (tCons (tName 2) tNil))) (blT (bin gNotInA (varD 2) (slD gSl (varD 0) noPart (part (varD 1))))) (varD 2) [1, 2])) nilA)))
def F_each_once : List D → R D := defF 3 B_each_once
def B_rows_behind : Env → R Out :=
  badS
def F_rows_behind : List D → R D := defF 5 B_rows_behind
def B_repeated_rows : Env → R Out :=
  (seqS (setS 2 (callF 1 F_own_rows (consA (callD gLen (consA (varD 0) nilA)) nilA)))
    (seqS (whileS (blT (bin gGt (varD 1) (cD (.int 0))))
    (seqS (ifS (blT (bin gEq (bin gMod (varD 1) (cD (.int 2))) (cD (.int 1))))
    (setS 2 (callF 2 F_rows_behind (consA (varD 2) (consA (varD 0) nilA))))
    passS)
    (seqS (setS 0 (callF 2 F_rows_behind (consA (varD 0) (consA (varD 0) nilA))))
    (setS 1 (bin gDiv (varD 1) (cD (.int 2)))))))
    (retS (varD 2))))
def F_repeated_rows : List D → R D := defF 3 B_repeated_rows
def B_lists_after : Env → R Out :=
  (seqS (dropS (callF 2 F_need_no_writes (consA (varD 0) (consA (varD 1) nilA))))
    (seqS (dropS (callF 1 F_need_path (consA (varD 2) nilA)))
    (seqS (dropS (callF 2 F_need_number (consA (varD 3) (consA (cD (.int 1000000000000000)) nilA))))
    (seqS (setS 4 (callF 2 F_repeated_rows (consA (callF 3 F_rows_of (consA (varD 0) (consA (varD 1) (consA (varD 2) nilA)))) (consA (varD 3) nilA))))
    (retS (callD gTuple (consA (lstD (compD (iterF (varD 4)) (tName 6) yesT (callD gTuple (consA (lstD (compD (iterF (varD 6)) (tName 5) yesT (tupD (consA (cD (.str "first")) (consA (varD 5) nilA))) [5])) nilA)) [6])) nilA)))))))
def F_lists_after : List D → R D := defF 7 B_lists_after
def B_settling : Env → R Out :=
  (seqS (dropS (callF 2 F_need_no_writes (consA (varD 0) (consA (varD 1) nilA))))
    (seqS (setS 2 (lstD (compD (iterF (cD (.tuple (([(0), (1), (2), (3)] : List Int).map PyData.int)))) (tName 5) yesT (callF 3 F_rows_of (consA (varD 0) (consA (varD 1) (consA (varD 5) nilA)))) [5])))
    (seqS (setS 3 (callD gTuple (consA (lstD (compD (iterF (cD (.tuple (([(0), (1), (2), (3)] : List Int).map PyData.int)))) (tName 6) yesT (callF 1 F_own_rows (consA (varD 0) nilA)) [6])) nilA)))
    (seqS (setS 4 (cD (.dict [])))
    (seqS (whileS (blT (bin (gInK true) (varD 3) (varD 4)))
    (seqS badS
    (setS 3 (callD gTuple (consA (lstD (compD (zipG (consA (varD 3) (consA (varD 2) nilA))) (tTup 2 (tCons (tName 7) (tCons (tName 8) tNil))) yesT (callF 2 F_rows_behind (consA (varD 7) (consA (varD 8) nilA))) [7, 8])) nilA)))))
    (retS (tupD (consA (bin gGetK (varD 4) (varD 3)) (consA (bin gSub (callD gLen (consA (varD 4) nilA)) (bin gGetK (varD 4) (varD 3))) nilA)))))))))
def F_settling : List D → R D := defF 9 B_settling
def B_need_row : Env → R Out :=
  badS
def F_need_row : List D → R D := defF 4 B_need_row
def B_script_for : Env → R Out :=
  (seqS (dropS (callF 1 F_need_size (consA (varD 0) nilA)))
    (seqS (dropS (callF 2 F_need_folder (consA (varD 0) (consA (varD 1) nilA))))
    (seqS (dropS (callF 3 F_need_row (consA (varD 0) (consA (varD 1) (consA (varD 2) nilA)))))
    (seqS badS
    (seqS (setS 4 (lstD (compD (iterF (un gRevT (slD gSl (varD 2) noPart (part (varD 3))))) (tName 5) yesT (tupD (consA (cD (.str "over")) (consA (varD 5) (consA (varD 1) nilA)))) [5])))
    (retS (callD gTuple (consA (bin gAdd (varD 4) (lstD (compD (iterF (slD gSl (varD 2) (part (bin gAdd (varD 3) (cD (.int 1)))) noPart)) (tName 5) yesT (tupD (consA (cD (.str "under")) (consA (varD 5) (consA (varD 1) nilA)))) [5]))) nilA))))))))
def F_script_for : List D → R D := defF 6 B_script_for
def B_is_report : Env → R Out :=
  (seqS (ifS (notT (andT (truT (callF 1 F_is_pair (consA (varD 1) nilA))) (andT (truT (callF 2 F_is_contents (consA (varD 0) (consA (bin gIx (varD 1) (cD (.int 0))) nilA)))) (truT (bin gIx (varD 1) (cD (.int 0)))))))
    (retS (cD (.bool false)))
    passS)
    (seqS (asgS (varD 1) (tTup 2 (tCons (tName 2) (tCons (tName 3) tNil))))
    (retS (orD (bin gIs (varD 3) (cD .none)) (andD (callF 2 F_is_folder (consA (varD 0) (consA (varD 3) nilA))) (bin gInA (varD 3) (varD 2)))))))
def F_is_report : List D → R D := defF 4 B_is_report
def B_need_told : Env → R Out :=
  (seqS (dropS (callF 1 F_need_size (consA (varD 0) nilA)))
    (seqS (dropS (callF 2 F_need_folder (consA (varD 0) (consA (varD 1) nilA))))
    (ifS (notT (andT (truT (isiD "tuple" (varD 2))) (andT (blT (bin gLe (callD gLen (consA (varD 2) nilA)) (cD (.int 12)))) (truT (callD gAll (consA (lstD (compD (iterF (varD 2)) (tName 3) yesT (callF 2 F_is_report (consA (varD 0) (consA (varD 3) nilA))) [3])) nilA))))))
    (raiseS "BadReports" (jsD [(cD (.str "reports are a tuple of at most ")), (fmtD (cD (.int 12))), (cD (.str " tuples of first contents and what is told"))] Str.empty))
    passS)))
def F_need_told : List D → R D := defF 4 B_need_told
def B_listed : Env → R Out :=
  (retL (sortSetF (bin gAdd (lstD (dispL (consA (varD 0) nilA))) (lstD (compD (iterF (varD 1)) (tTup 2 (tCons (tName 2) (tCons (tName 3) tNil))) (blT (bin gIsNot (varD 3) (cD .none))) (varD 3) [2, 3])))))
def F_listed : List D → R D := defF 4 B_listed
def FL_listed : List D → R (List D) := defL 4 B_listed
def B_those_ahead : Env → R Out :=
  (retL (compD (enumF (varD 0)) (tTup 2 (tCons (tName 3) (tCons (tTup 2 (tCons (tName 4) (tCons (tName 5) tNil))) tNil))) (andT (blT (bin gNe (varD 5) (varD 2))) (andT (blT (bin gInA (varD 5) (varD 1))) (blT (bin gInA (varD 2) (varD 4))))) (varD 3) [3, 4, 5]))
def F_those_ahead : List D → R D := defF 6 B_those_ahead
def FL_those_ahead : List D → R (List D) := defL 6 B_those_ahead
def B_lined_up : Env → R Out :=
  (seqS (setO 2 (dispL nilA))
    (seqS (setS 3 (callF 2 F_listed (consA (varD 0) (consA (varD 1) nilA))))
    (seqS (setS 4 (varD 3))
    (seqS (whileS (truT (varD 4))
    (seqS (setS 4 (lstD (compD (iterF (varD 3)) (tName 5) (notT (truT (callF 3 F_those_ahead (consA (varD 1) (consA (varD 3) (consA (varD 5) nilA)))))) (varD 5) [5])))
    (seqS badS
    (setS 3 (lstD (compD (iterF (varD 3)) (tName 5) (blT (ownIn true 2 (varD 5))) (varD 5) [5]))))))
    (frzS 2 (retS (tupD (consA (varD 2) (consA (varD 3) nilA)))))))))
def F_lined_up : List D → R D := defF 6 B_lined_up
def B_lost : Env → R Out :=
  (seqS (forS (enumF (varD 1)) (tTup 2 (tCons (tName 2) (tCons (tTup 2 (tCons (tName 3) (tCons (tName 4) tNil))) tNil)))
    (seqS (setS 5 (lstD (compD (iterF (callF 2 F_listed (consA (varD 0) (consA (varD 1) nilA)))) (tName 6) (blT (bin gInA (varD 6) (varD 3))) (varD 6) [6])))
    (ifS (andT (blT (bin gIs (varD 4) (cD .none))) (truT (varD 5)))
    (retS (tupD (consA (cD (.str "lost")) (consA (varD 2) (consA (bin gIx (varD 5) (cD (.int 0))) nilA)))))
    passS)))
    (retS (cD .none)))
def F_lost : List D → R D := defF 7 B_lost
def B_explained : Env → R Out :=
  (seqS (dropS (callF 3 F_need_told (consA (varD 0) (consA (varD 1) (consA (varD 2) nilA)))))
    (seqS (asgS (callF 2 F_lined_up (consA (varD 1) (consA (varD 2) nilA))) (tTup 2 (tCons (tName 3) (tCons (tName 4) tNil))))
    (retS (ifD (orT (truT (varD 4)) (blT (bin gIsNot (callF 2 F_lost (consA (varD 1) (consA (varD 2) nilA))) (cD .none)))) (cD .none) (callD gTuple (consA (varD 3) nilA))))))
def F_explained : List D → R D := defF 5 B_explained
def B_ring : Env → R Out :=
  (seqS (setS 2 (bin gIx (varD 1) (cD (.int 0))))
    (seqS (setO 3 (dispL nilA))
    (seqS (setO 4 (dispL nilA))
    (seqS (whileS (blT (ownIn true 3 (varD 2)))
    (seqS (appS 3 (varD 2))
    (seqS (appS 4 (bin gIx (callF 3 F_those_ahead (consA (varD 0) (consA (varD 1) (consA (varD 2) nilA)))) (cD (.int 0))))
    (setS 2 (bin gIx (bin gIx (varD 0) (ownIx 4 (un gNeg (cD (.int 1))))) (cD (.int 1)))))))
    badS))))
def F_ring : List D → R D := defF 5 B_ring
def B_against : Env → R Out :=
  (seqS (dropS (callF 3 F_need_told (consA (varD 0) (consA (varD 1) (consA (varD 2) nilA)))))
    (seqS (setS 3 (callF 2 F_lost (consA (varD 1) (consA (varD 2) nilA))))
    (seqS (ifS (blT (bin gIsNot (varD 3) (cD .none)))
    (retS (varD 3))
    passS)
    (seqS (asgS (callF 2 F_lined_up (consA (varD 1) (consA (varD 2) nilA))) (tTup 2 (tCons (tName 4) (tCons (tName 5) tNil))))
    (retS (ifD (truT (varD 5)) (tupD (consA (cD (.str "ring")) (consA (callF 2 F_ring (consA (varD 2) (consA (varD 5) nilA))) nilA))) (cD .none)))))))
def F_against : List D → R D := defF 6 B_against
def B_is_lost : Env → R Out :=
  (retS (andD (callF 3 F_is_whole (consA (varD 3) (consA (cD (.int 0)) (consA (bin gSub (callD gLen (consA (varD 2) nilA)) (cD (.int 1))) nilA)))) (andD (callF 2 F_is_folder (consA (varD 0) (consA (varD 4) nilA))) (andD (bin gInA (varD 4) (callF 2 F_listed (consA (varD 1) (consA (varD 2) nilA)))) (andD (bin gIs (bin gIx (bin gIx (varD 2) (varD 3)) (cD (.int 1))) (cD .none)) (bin gInA (varD 4) (bin gIx (bin gIx (varD 2) (varD 3)) (cD (.int 0)))))))))
def F_is_lost : List D → R D := defF 5 B_is_lost
def B_is_ring : Env → R Out :=
  (seqS (ifS (notT (andT (truT (isiD "tuple" (varD 1))) (blT (bin gGe (callD gLen (consA (varD 1) nilA)) (cD (.int 2))))))
    (retS (cD (.bool false)))
    passS)
    (seqS (ifS (notT (truT (callD gAll (consA (lstD (compD (iterF (varD 1)) (tName 3) yesT (callF 3 F_is_whole (consA (varD 3) (consA (cD (.int 0)) (consA (bin gSub (callD gLen (consA (varD 0) nilA)) (cD (.int 1))) nilA)))) [3])) nilA))))
    (retS (cD (.bool false)))
    passS)
    (seqS (setS 2 (lstD (compD (iterF (varD 1)) (tName 3) yesT (bin gIx (bin gIx (varD 0) (varD 3)) (cD (.int 1))) [3])))
    badS)))
def F_is_ring : List D → R D := defF 5 B_is_ring
def B_against_holds : Env → R Out :=
  (seqS (dropS (callF 3 F_need_told (consA (varD 0) (consA (varD 1) (consA (varD 2) nilA)))))
    (seqS (ifS (notT (truT (isiD "tuple" (varD 3))))
    (retS (cD (.bool false)))
    passS)
    (seqS (ifS (andT (blT (bin gEq (callD gLen (consA (varD 3) nilA)) (cD (.int 3)))) (truT (callF 2 F_is_word (consA (bin gIx (varD 3) (cD (.int 0))) (consA (tupD (consA (cD (.str "lost")) nilA)) nilA)))))
    (retS (callF 5 F_is_lost (consA (varD 0) (consA (varD 1) (consA (varD 2) (consA (bin gIx (varD 3) (cD (.int 1))) (consA (bin gIx (varD 3) (cD (.int 2))) nilA)))))))
    passS)
    (retS (andD (bin gEq (callD gLen (consA (varD 3) nilA)) (cD (.int 2))) (andD (callF 2 F_is_word (consA (bin gIx (varD 3) (cD (.int 0))) (consA (tupD (consA (cD (.str "ring")) nilA)) nilA))) (callF 2 F_is_ring (consA (varD 2) (consA (bin gIx (varD 3) (cD (.int 1))) nilA)))))))))
def F_against_holds : List D → R D := defF 4 B_against_holds
def B_need_house : Env → R Out :=
  (ifS (notT (truT (callF 1 F_is_house (consA (varD 0) nilA))))
    (raiseS "BadHouse" (cD (.str "a house is a tuple of people, parents, shut, entries and members")))
    passS)
def F_need_house : List D → R D := defF 1 B_need_house
def B_need_mode : Env → R Out :=
  (ifS (notT (truT (callF 1 F_is_mode (consA (varD 0) nilA))))
    (raiseS "BadMode" (cD (.str "a mode is a tuple of which entry comes first, what moving does, what is known, and deep")))
    passS)
def F_need_mode : List D → R D := defF 1 B_need_mode
def B_first_state : Env → R Out :=
  (seqS (dropS (callF 1 F_need_house (consA (varD 0) nilA)))
    (seqS (dropS (callF 1 F_need_mode (consA (varD 1) nilA)))
    (retS (callF 2 F_start_state (consA (varD 0) (consA (varD 1) nilA))))))
def F_first_state : List D → R D := defF 2 B_first_state
def B_is_groups : Env → R Out :=
  (retS (andD (isiD "tuple" (varD 0)) (andD (callD gAll (consA (lstD (compD (iterF (varD 0)) (tName 1) yesT (callF 1 F_is_group (consA (varD 1) nilA)) [1])) nilA)) (callF 1 F_is_rising (consA (varD 0) nilA)))))
def F_is_groups : List D → R D := defF 2 B_is_groups
def B_is_logins : Env → R Out :=
  (retS (andD (isiD "tuple" (varD 1)) (andD (bin gEq (callD gLen (consA (varD 1) nilA)) (varD 0)) (callD gAll (consA (lstD (compD (iterF (varD 1)) (tName 2) yesT (callF 1 F_is_groups (consA (varD 2) nilA)) [2])) nilA)))))
def F_is_logins : List D → R D := defF 3 B_is_logins
def B_is_state : Env → R Out :=
  (retS (andD (isiD "tuple" (varD 1)) (andD (bin gEq (callD gLen (consA (varD 1) nilA)) (cD (.int 5))) (andD (callF 1 F_is_parents (consA (bin gIx (varD 1) (cD (.int 0))) nilA)) (andD (bin gEq (callD gLen (consA (bin gIx (varD 1) (cD (.int 0))) nilA)) (callD gLen (consA (bin gIx (varD 0) (cD (.int 1))) nilA))) (andD (callF 3 F_is_furnished (consA (bin gIx (varD 0) (cD (.int 0))) (consA (callF 1 F_size_of (consA (varD 0) nilA)) (consA (slD gSl (varD 1) (part (cD (.int 1))) (part (cD (.int 4)))) nilA)))) (callF 2 F_is_logins (consA (bin gIx (varD 0) (cD (.int 0))) (consA (bin gIx (varD 1) (cD (.int 4))) nilA)))))))))
def F_is_state : List D → R D := defF 2 B_is_state
def B_need_state : Env → R Out :=
  (ifS (notT (truT (callF 2 F_is_state (consA (varD 0) (consA (varD 1) nilA)))))
    (raiseS "BadState" (cD (.str "a state is a tuple of parents, shut, entries, members and logins as of its house")))
    passS)
def F_need_state : List D → R D := defF 2 B_need_state
def B_need_held : Env → R Out :=
  (seqS (dropS (callF 1 F_need_house (consA (varD 0) nilA)))
    (seqS (dropS (callF 1 F_need_mode (consA (varD 1) nilA)))
    (dropS (callF 2 F_need_state (consA (varD 0) (consA (varD 2) nilA))))))
def F_need_held : List D → R D := defF 3 B_need_held
def B_need_person : Env → R Out :=
  (ifS (notT (truT (callF 2 F_is_person (consA (varD 0) (consA (varD 1) nilA)))))
    (raiseS "BadPerson" (jsD [(cD (.str "a person is an integer from 0 to ")), (fmtD (bin gSub (bin gIx (varD 0) (cD (.int 0))) (cD (.int 1))))] Str.empty))
    passS)
def F_need_person : List D → R D := defF 2 B_need_person
def B_need_sight : Env → R Out :=
  (seqS (dropS (callF 3 F_need_held (consA (varD 0) (consA (varD 1) (consA (varD 2) nilA)))))
    (seqS (dropS (callF 2 F_need_person (consA (varD 0) (consA (varD 3) nilA))))
    (dropS (callF 2 F_need_folder (consA (callF 1 F_size_of (consA (varD 0) nilA)) (consA (varD 4) nilA))))))
def F_need_sight : List D → R D := defF 5 B_need_sight
def B_way_of : Env → R Out :=
  (seqS (setO 2 (dispL (consA (varD 1) nilA)))
    (seqS (whileS (andT (blT (bin gNe (ownIx 2 (un gNeg (cD (.int 1)))) (cD (.int 0)))) (notT (truT (bin gIx (bin gIx (varD 0) (cD (.int 1))) (ownIx 2 (un gNeg (cD (.int 1))))))))
    (appS 2 (bin gIx (bin gIx (varD 0) (cD (.int 0))) (bin gSub (ownIx 2 (un gNeg (cD (.int 1)))) (cD (.int 1))))))
    (retS (ownTup 2))))
def F_way_of : List D → R D := defF 3 B_way_of
def B_known_groups : Env → R Out :=
  (seqS (ifS (blT (bin gEq (bin gIx (varD 0) (cD (.int 2))) (cD (.str "login"))))
    (retS (bin gIx (bin gIx (varD 1) (cD (.int 4))) (varD 2)))
    passS)
    (retS (callF 3 F_groups_of (consA (bin gIx (varD 1) (cD (.int 3))) (consA (tupD (consA (cD (.str "p")) (consA (varD 2) nilA))) (consA (bin gIx (varD 0) (cD (.int 3))) nilA))))))
def F_known_groups : List D → R D := defF 3 B_known_groups
def B_deciding_entries : Env → R Out :=
  (seqS (setS 4 (bin gAdd (lstD (dispL (consA (tupD (consA (cD (.str "p")) (consA (varD 2) nilA))) nilA))) (lstD (compD (iterF (callF 3 F_known_groups (consA (varD 0) (consA (varD 1) (consA (varD 2) nilA))))) (tName 8) yesT (tupD (consA (cD (.str "g")) (consA (varD 8) nilA))) [8]))))
    (seqS (setS 5 (callF 2 F_way_of (consA (varD 1) (consA (varD 3) nilA))))
    (seqS (setS 6 (lstD (compD (iterF (bin gIx (varD 1) (cD (.int 2)))) (tName 9) (andT (blT (bin gInA (bin gIx (varD 9) (cD (.int 0))) (varD 5))) (blT (bin gInA (bin gIx (varD 9) (cD (.int 1))) (varD 4)))) (varD 9) [9])))
    (seqS (ifS (blT (bin gEq (bin gIx (varD 0) (cD (.int 0))) (cD (.str "bar"))))
    (retS (varD 6))
    passS)
    (seqS (setS 7 (slD gSl (lstD (compD (iterF (varD 5)) (tName 10) (blT (bin gInA (varD 10) (lstD (compD (iterF (varD 6)) (tName 9) yesT (bin gIx (varD 9) (cD (.int 0))) [9])))) (varD 10) [10])) noPart (part (cD (.int 1)))))
    (retL (compD (iterF (varD 6)) (tName 9) (blT (bin gInA (bin gIx (varD 9) (cD (.int 0))) (varD 7))) (varD 9) [9])))))))
def F_deciding_entries : List D → R D := defF 11 B_deciding_entries
def B_sees_in : Env → R Out :=
  (seqS (setS 4 (lstD (compD (iterF (callF 4 F_deciding_entries (consA (varD 0) (consA (varD 1) (consA (varD 2) (consA (varD 3) nilA)))))) (tTup 3 (tCons (tName 5) (tCons (tName 5) (tCons (tName 6) tNil)))) yesT (varD 6) [5, 5, 6])))
    (retS (andD (bin gInA (cD (.str "allow")) (varD 4)) (bin gNotInA (cD (.str "bar")) (varD 4)))))
def F_sees_in : List D → R D := defF 7 B_sees_in
def B_sees : Env → R Out :=
  (seqS (dropS (callF 5 F_need_sight (consA (varD 0) (consA (varD 1) (consA (varD 2) (consA (varD 3) (consA (varD 4) nilA)))))))
    (retS (callF 4 F_sees_in (consA (varD 1) (consA (varD 2) (consA (varD 3) (consA (varD 4) nilA)))))))
def F_sees : List D → R D := defF 5 B_sees
def B_sights_in : Env → R Out :=
  (seqS badS
    (retL (compD (iterF (varD 3)) (tTup 2 (tCons (tName 4) (tCons (tName 5) tNil))) (truT (callF 4 F_sees_in (consA (varD 1) (consA (varD 2) (consA (varD 4) (consA (varD 5) nilA)))))) (tupD (consA (varD 4) (consA (varD 5) nilA))) [4, 5])))
def F_sights_in : List D → R D := defF 6 B_sights_in
def FL_sights_in : List D → R (List D) := defL 6 B_sights_in
def B_all_sights : Env → R Out :=
  (seqS (dropS (callF 3 F_need_held (consA (varD 0) (consA (varD 1) (consA (varD 2) nilA)))))
    (retL (callL 3 FL_sights_in (consA (varD 0) (consA (varD 1) (consA (varD 2) nilA))))))
def F_all_sights : List D → R D := defF 3 B_all_sights
def FL_all_sights : List D → R (List D) := defL 3 B_all_sights
def B_need_right_deed : Env → R Out :=
  (ifS (notT (truT (callF 2 F_is_right_deed (consA (varD 0) (consA (varD 1) nilA)))))
    (raiseS "BadDeed" (cD (.str "a right deed is a tuple of its word and folders, groups, persons and who of the house")))
    passS)
def F_need_right_deed : List D → R D := defF 2 B_need_right_deed
def B_after_right : Env → R Out :=
  (seqS (dropS (callF 3 F_need_held (consA (varD 0) (consA (varD 1) (consA (varD 2) nilA)))))
    (seqS (dropS (callF 2 F_need_right_deed (consA (varD 0) (consA (varD 3) nilA))))
    (retS (callF 3 F_do_right (consA (varD 1) (consA (varD 2) (consA (varD 3) nilA)))))))
def F_after_right : List D → R D := defF 4 B_after_right
def B_all_whos : Env → R Out :=
  (retS (bin gAdd (lstD (compD (rngI (consA (bin gIx (varD 0) (cD (.int 0))) nilA)) (tName 1) yesT (tupD (consA (cD (.str "p")) (consA (varD 1) nilA))) [1])) (lstD (compD (iterF (cD (.tuple (([(0), (1), (2)] : List Int).map PyData.int)))) (tName 2) yesT (tupD (consA (cD (.str "g")) (consA (varD 2) nilA))) [2]))))
def F_all_whos : List D → R D := defF 3 B_all_whos
def B_chains : Env → R Out :=
  (seqS (asgS (varD 3) (tTup 2 (tCons (tName 4) (tCons (tName 5) tNil))))
    (seqS (ifS (blT (bin gEq (varD 4) (cD (.str "p"))))
    (retS (ifD (blT (bin gEq (varD 5) (varD 2))) (lstD (dispL (consA (tupD nilA) nilA))) (lstD (dispL nilA))))
    passS)
    (seqS (ifS (blT (bin gEq (bin gIx (varD 0) (cD (.int 2))) (cD (.str "login"))))
    (retS (ifD (blT (bin gInA (varD 5) (bin gIx (bin gIx (varD 1) (cD (.int 4))) (varD 2)))) (lstD (dispL (consA (tupD (consA (varD 5) nilA)) nilA))) (lstD (dispL nilA))))
    passS)
    (seqS (setS 6 (bin gIx (varD 1) (cD (.int 3))))
    (seqS (setS 7 (lstD (compD (iterF (cD (.tuple (([(0), (1), (2)] : List Int).map PyData.int)))) (tName 11) (blT (bin gInA (tupD (consA (varD 11) (consA (tupD (consA (cD (.str "p")) (consA (varD 2) nilA))) nilA))) (varD 6))) (tupD (consA (varD 11) nilA)) [11])))
    (seqS (setS 8 (varD 7))
    (seqS (forS (iterF (ifD (truT (bin gIx (varD 0) (cD (.int 3)))) (slD gSl (cD (.tuple (([(0), (1), (2)] : List Int).map PyData.int))) (part (cD (.int 1))) noPart) (tupD nilA))) (tName 9)
    (seqS badS
    (seqS (setS 8 (lstD (compD (iterF (varD 10)) (tTup 2 (tCons (tName 12) (tCons (tName 11) tNil))) (blT (bin gInA (tupD (consA (varD 11) (consA (tupD (consA (cD (.str "g")) (consA (bin gIx (varD 12) (un gNeg (cD (.int 1)))) nilA))) nilA))) (varD 6))) (bin gAdd (varD 12) (tupD (consA (varD 11) nilA))) [12, 11])))
    (setS 7 (bin gAdd (varD 7) (varD 8))))))
    (retL (compD (iterF (varD 7)) (tName 12) (blT (bin gEq (bin gIx (varD 12) (un gNeg (cD (.int 1)))) (varD 5))) (varD 12) [12])))))))))
def F_chains : List D → R D := defF 13 B_chains
def B_find_reason : Env → R Out :=
  (seqS (setS 4 (callF 4 F_deciding_entries (consA (varD 0) (consA (varD 1) (consA (varD 2) (consA (varD 3) nilA))))))
    (seqS (ifS (notT (truT (varD 4)))
    (retS (tupD (consA (cD (.str "nothing")) (consA (callF 2 F_way_of (consA (varD 1) (consA (varD 3) nilA))) (consA (callF 3 F_known_groups (consA (varD 0) (consA (varD 1) (consA (varD 2) nilA)))) nilA)))))
    passS)
    (seqS (setS 5 (lstD (compD (iterF (varD 4)) (tName 9) (blT (bin gEq (bin gIx (varD 9) (cD (.int 2))) (cD (.str "bar")))) (varD 9) [9])))
    (seqS (asgS (bin gIx (bin gAdd (varD 5) (varD 4)) (cD (.int 0))) (tTup 3 (tCons (tName 6) (tCons (tName 7) (tCons (tName 8) tNil)))))
    (retS (tupD (consA (ifD (truT (varD 5)) (cD (.str "barred")) (cD (.str "sees"))) (consA (varD 6) (consA (varD 7) (consA (bin gIx (callF 4 F_chains (consA (varD 0) (consA (varD 1) (consA (varD 2) (consA (varD 7) nilA))))) (cD (.int 0))) nilA))))))))))
def F_find_reason : List D → R D := defF 10 B_find_reason
def B_reason_for : Env → R Out :=
  (seqS (dropS (callF 5 F_need_sight (consA (varD 0) (consA (varD 1) (consA (varD 2) (consA (varD 3) (consA (varD 4) nilA)))))))
    (retS (callF 4 F_find_reason (consA (varD 1) (consA (varD 2) (consA (varD 3) (consA (varD 4) nilA)))))))
def F_reason_for : List D → R D := defF 5 B_reason_for
def B_is_reason : Env → R Out :=
  (seqS (ifS (notT (andT (truT (isiD "tuple" (varD 5))) (blT (bin gInA (callD gLen (consA (varD 5) nilA)) (tupD (consA (cD (.int 3)) (consA (cD (.int 4)) nilA)))))))
    (retS (cD (.bool false)))
    passS)
    (seqS (setS 6 (callF 4 F_deciding_entries (consA (varD 1) (consA (varD 2) (consA (varD 3) (consA (varD 4) nilA))))))
    (seqS (setS 7 (callF 1 F_size_of (consA (varD 0) nilA)))
    (seqS (ifS (blT (bin gEq (callD gLen (consA (varD 5) nilA)) (cD (.int 3))))
    (seqS (setS 8 (tupD (consA (callF 2 F_way_of (consA (varD 2) (consA (varD 4) nilA))) (consA (callF 3 F_known_groups (consA (varD 1) (consA (varD 2) (consA (varD 3) nilA)))) nilA))))
    (seqS (setS 9 (andD (callF 2 F_is_row (consA (bin gSub (varD 7) (cD (.int 1))) (consA (bin gIx (varD 5) (cD (.int 1))) nilA))) (callF 2 F_is_row (consA (bin gIx (cD (.tuple (([(0), (1), (2)] : List Int).map PyData.int))) (un gNeg (cD (.int 1)))) (consA (bin gIx (varD 5) (cD (.int 2))) nilA)))))
    (retS (andD (callF 2 F_is_word (consA (bin gIx (varD 5) (cD (.int 0))) (consA (tupD (consA (cD (.str "nothing")) nilA)) nilA))) (andD (notD (varD 6)) (andD (varD 9) (bin gEq (slD gSl (varD 5) (part (cD (.int 1))) noPart) (varD 8))))))))
    passS)
    (seqS (asgS (varD 5) (tTup 4 (tCons (tName 10) (tCons (tName 11) (tCons (tName 12) (tCons (tName 13) tNil))))))
    (seqS (ifS (notT (andT (truT (callF 2 F_is_folder (consA (varD 7) (consA (varD 11) nilA)))) (andT (truT (callF 2 F_is_who (consA (bin gIx (varD 0) (cD (.int 0))) (consA (varD 12) nilA)))) (truT (callF 2 F_is_row (consA (bin gIx (cD (.tuple (([(0), (1), (2)] : List Int).map PyData.int))) (un gNeg (cD (.int 1)))) (consA (varD 13) nilA)))))))
    (retS (cD (.bool false)))
    passS)
    (seqS (ifS (blT (bin gNotInA (varD 13) (callF 4 F_chains (consA (varD 1) (consA (varD 2) (consA (varD 3) (consA (varD 12) nilA)))))))
    (retS (cD (.bool false)))
    passS)
    (seqS (ifS (truT (callF 2 F_is_word (consA (varD 10) (consA (tupD (consA (cD (.str "barred")) nilA)) nilA))))
    (retS (bin gInA (tupD (consA (varD 11) (consA (varD 12) (consA (cD (.str "bar")) nilA)))) (varD 6)))
    passS)
    (retS (andD (callF 2 F_is_word (consA (varD 10) (consA (tupD (consA (cD (.str "sees")) nilA)) nilA))) (andD (bin gInA (tupD (consA (varD 11) (consA (varD 12) (consA (cD (.str "allow")) nilA)))) (varD 6)) (bin gNotInA (cD (.str "bar")) (lstD (compD (iterF (varD 6)) (tName 14) yesT (bin gIx (varD 14) (cD (.int 2))) [14]))))))))))))))
def F_is_reason : List D → R D := defF 15 B_is_reason
def B_reason_holds : Env → R Out :=
  (seqS (dropS (callF 5 F_need_sight (consA (varD 0) (consA (varD 1) (consA (varD 2) (consA (varD 3) (consA (varD 4) nilA)))))))
    (retS (callF 6 F_is_reason (consA (varD 0) (consA (varD 1) (consA (varD 2) (consA (varD 3) (consA (varD 4) (consA (varD 5) nilA)))))))))
def F_reason_holds : List D → R D := defF 6 B_reason_holds
def B_all_trees : Env → R Out :=
  (seqS (setS 1 (lstD (dispL (consA (tupD nilA) nilA))))
    (seqS (forS (rngI (consA (cD (.int 1)) (consA (varD 0) nilA))) (tName 2)
    badS)
    (retL (compD (iterF (varD 1)) (tName 3) (truT (callF 1 F_is_parents (consA (varD 3) nilA))) (varD 3) [3]))))
def F_all_trees : List D → R D := defF 5 B_all_trees
def FL_all_trees : List D → R (List D) := defL 5 B_all_trees
def B_all_members : Env → R Out :=
  (seqS (setS 1 (lstD (dispL (consA (tupD nilA) nilA))))
    (seqS badS
    (seqS (setS 3 (bin gAdd (lstD (dispL (consA (tupD nilA) nilA))) (lstD (compD (iterF (cD (.tuple (([(0), (1), (2)] : List Int).map PyData.int)))) (tName 4) yesT (tupD (consA (tupD (consA (varD 4) (consA (tupD (consA (cD (.str "p")) (consA (varD 0) nilA))) nilA))) nilA)) [4]))))
    badS)))
def F_all_members : List D → R D := defF 7 B_all_members
def FL_all_members : List D → R (List D) := defL 7 B_all_members
def B_telling_states : Env → R Out :=
  (seqS badS
    (seqS (setS 5 (tupD (consA (bin gIx (varD 1) (cD (.int 0))) (consA (bin gIx (varD 2) (cD (.int 0))) nilA))))
    (seqS (setS 6 (ifD (blT (bin gEq (varD 5) (tupD (consA (cD (.str "move")) (consA (cD (.str "move")) nilA))))) (callF 1 F_all_trees (consA (varD 4) nilA)) (lstD (dispL (consA (bin gMulA (tupD (consA (cD (.int 0)) nilA)) (bin gSub (varD 4) (cD (.int 1)))) nilA)))))
    (seqS (setS 7 (lstD (dispL (consA (tupD nilA) nilA))))
    (seqS (ifS (orT (blT (bin gInA (bin gIx (varD 5) (cD (.int 0))) (cD (.tuple ((["join", "leave"] : List Str).map PyData.str))))) (blT (bin gInA (bin gIx (varD 5) (cD (.int 1))) (cD (.tuple ((["join", "leave"] : List Str).map PyData.str))))))
    (seqS (setS 8 (lstD (compD (iterF (tupD (consA (slD gSl (varD 1) noPart (part (cD (.int 2)))) (consA (slD gSl (varD 2) noPart (part (cD (.int 2)))) nilA)))) (tTup 2 (tCons (tName 11) (tCons (tName 12) tNil))) (blT (bin gEq (varD 11) (cD (.str "login")))) (varD 12) [11, 12])))
    (setS 7 (callF 1 F_all_members (consA (bin gIx (bin gAdd (varD 8) (lstD (dispL (consA (cD (.int 0)) nilA)))) (cD (.int 0))) nilA))))
    passS)
    (seqS (setS 9 (bin gMulA (tupD (consA (cD (.bool false)) nilA)) (varD 4)))
    (seqS (setS 10 (callD gTuple (consA (lstD (compD (rngI (consA (varD 4) nilA)) (tName 13) yesT (tupD (consA (varD 13) (consA (tupD (consA (cD (.str "p")) (consA (cD (.int 0)) nilA))) (consA (cD (.str "allow")) nilA)))) [13])) nilA)))
    badS)))))))
def F_telling_states : List D → R D := defF 16 B_telling_states
def FL_telling_states : List D → R (List D) := defL 16 B_telling_states
def B_do_all : Env → R Out :=
  (seqS (forS (iterF (varD 2)) (tName 3)
    (setS 1 (callF 3 F_do_right (consA (varD 0) (consA (varD 1) (consA (varD 3) nilA))))))
    (retS (varD 1)))
def F_do_all : List D → R D := defF 4 B_do_all
def B_commute : Env → R Out :=
  (seqS (dropS (callF 1 F_need_house (consA (varD 0) nilA)))
    (seqS (dropS (callF 1 F_need_mode (consA (varD 1) nilA)))
    (seqS (dropS (callF 2 F_need_right_deed (consA (varD 0) (consA (varD 2) nilA))))
    (seqS (dropS (callF 2 F_need_right_deed (consA (varD 0) (consA (varD 3) nilA))))
    (seqS (forS (iterF (callF 3 F_telling_states (consA (varD 0) (consA (varD 2) (consA (varD 3) nilA))))) (tName 4)
    (ifS (blT (bin gNe (callF 3 F_do_all (consA (varD 1) (consA (varD 4) (consA (tupD (consA (varD 2) (consA (varD 3) nilA))) nilA)))) (callF 3 F_do_all (consA (varD 1) (consA (varD 4) (consA (tupD (consA (varD 3) (consA (varD 2) nilA))) nilA))))))
    (retS (varD 4))
    passS))
    (retS (cD .none)))))))
def F_commute : List D → R D := defF 5 B_commute
def B_all_right_deeds : Env → R Out :=
  (seqS badS
    (seqS badS
    (seqS (setS 3 (callF 1 F_all_whos (consA (varD 0) nilA)))
    (seqS badS
    (seqS badS
    (seqS badS
    (seqS badS
    (seqS badS
    (frzS 4 (retL (sortG (varD 4))))))))))))
def F_all_right_deeds : List D → R D := defF 11 B_all_right_deeds
def FL_all_right_deeds : List D → R (List D) := defL 11 B_all_right_deeds
def B_turning_deeds : Env → R Out :=
  (seqS (dropS (callF 5 F_need_sight (consA (varD 0) (consA (varD 1) (consA (varD 2) (consA (varD 3) (consA (varD 4) nilA)))))))
    (seqS (setS 5 (callF 4 F_sees_in (consA (varD 1) (consA (varD 2) (consA (varD 3) (consA (varD 4) nilA))))))
    (seqS (setS 6 (callF 1 F_all_right_deeds (consA (varD 0) nilA)))
    (retL (compD (iterF (varD 6)) (tName 7) (blT (bin gNe (callF 4 F_sees_in (consA (varD 1) (consA (callF 3 F_do_right (consA (varD 1) (consA (varD 2) (consA (varD 7) nilA)))) (consA (varD 3) (consA (varD 4) nilA))))) (varD 5))) (varD 7) [7])))))
def F_turning_deeds : List D → R D := defF 8 B_turning_deeds
def FL_turning_deeds : List D → R (List D) := defL 8 B_turning_deeds
def B_without_entry : Env → R Out :=
  (retS (callF 3 F_with_part (consA (varD 0) (consA (cD (.int 2)) (consA (lstD (compD (iterF (bin gIx (varD 0) (cD (.int 2)))) (tName 2) (blT (bin gNe (varD 2) (varD 1))) (varD 2) [2])) nilA)))))
def F_without_entry : List D → R D := defF 3 B_without_entry
def B_idle_entries : Env → R Out :=
  (seqS (dropS (callF 3 F_need_held (consA (varD 0) (consA (varD 1) (consA (varD 2) nilA)))))
    (seqS (setS 3 (callF 3 F_sights_in (consA (varD 0) (consA (varD 1) (consA (varD 2) nilA)))))
    (retL (compD (iterF (bin gIx (varD 2) (cD (.int 2)))) (tName 4) (blT (bin gEq (callF 3 F_sights_in (consA (varD 0) (consA (varD 1) (consA (callF 2 F_without_entry (consA (varD 2) (consA (varD 4) nilA))) nilA)))) (varD 3))) (varD 4) [4]))))
def F_idle_entries : List D → R D := defF 5 B_idle_entries
def FL_idle_entries : List D → R (List D) := defL 5 B_idle_entries
def B_seen_modes : Env → R Out :=
  (seqS (dropS (callF 1 F_need_house (consA (varD 0) nilA)))
    (seqS (dropS (callF 2 F_need_state (consA (varD 0) (consA (varD 1) nilA))))
    (seqS (dropS (callF 2 F_need_person (consA (varD 0) (consA (varD 2) nilA))))
    (seqS (dropS (callF 2 F_need_folder (consA (callF 1 F_size_of (consA (varD 0) nilA)) (consA (varD 3) nilA))))
    (seqS badS
    (retL (compD (iterF (varD 4)) (tName 9) (truT (callF 4 F_sees_in (consA (varD 9) (consA (varD 1) (consA (varD 2) (consA (varD 3) nilA)))))) (varD 9) [9])))))))
def F_seen_modes : List D → R D := defF 10 B_seen_modes
def FL_seen_modes : List D → R (List D) := defL 10 B_seen_modes
def B_telling_days : Env → R Out :=
  badS
def F_telling_days : List D → R D := defF 2 B_telling_days
def B_later_days : Env → R Out :=
  (retS (bin gAdd (lstD (rng2 (varD 0) (bin gAdd (varD 0) (cD (.int 12))))) (lstD (rng2 (callD gMax (consA (bin gAdd (varD 0) (cD (.int 12))) (consA (un gNeg (cD (.int 100))) nilA))) (bin gAdd (cD (.int 112)) (cD (.int 1)))))))
def F_later_days : List D → R D := defF 1 B_later_days
def B_count_told : Env → R Out :=
  (seqS (ifS (blT (chainD gLe gLe (un gNeg (cD (.int 100))) (varD 0) (cD (.int 100))))
    (retS (callD gInt (consA (chainD gLe gLe (varD 1) (varD 0) (varD 2)) nilA)))
    passS)
    (seqS (ifS (blT (bin gGt (varD 0) (cD (.int 0))))
    (setS 1 (callD gMax (consA (varD 1) (consA (bin gAdd (cD (.int 100)) (cD (.int 1))) nilA))))
    (setS 2 (callD gMin (consA (varD 2) (consA (bin gSub (un gNeg (cD (.int 100))) (cD (.int 1))) nilA)))))
    (retS (callD gMax (consA (cD (.int 0)) (consA (bin gSub (bin gDiv (bin gSub (varD 2) (varD 0)) (cD (.int 12))) (bin gDiv (bin gSub (bin gSub (varD 1) (cD (.int 1))) (varD 0)) (cD (.int 12)))) nilA))))))
def F_count_told : List D → R D := defF 3 B_count_told
def B_day_of : Env → R Out :=
  (seqS (dropS (callF 2 F_need_plan (consA (varD 0) (consA (varD 1) nilA))))
    (seqS (dropS (callF 2 F_need_step (consA (varD 1) (consA (varD 2) nilA))))
    (seqS (dropS (callF 1 F_need_day (consA (varD 3) nilA)))
    (retS (callF 3 F_move (consA (callD gDict (consA (bin gIx (varD 0) (cD (.int 2))) nilA)) (consA (bin gIx (bin gIx (varD 1) (varD 2)) (cD (.int 1))) (consA (varD 3) nilA))))))))
def F_day_of : List D → R D := defF 4 B_day_of
def B_history : Env → R Out :=
  (seqS (dropS (callF 2 F_need_plan (consA (varD 0) (consA (varD 1) nilA))))
    (seqS (dropS (callF 1 F_need_day (consA (varD 2) nilA)))
    (retL (callL 3 FL_history_for (consA (varD 0) (consA (varD 1) (consA (varD 2) nilA)))))))
def F_history : List D → R D := defF 3 B_history
def FL_history : List D → R (List D) := defL 3 B_history
def B_latest_done : Env → R Out :=
  (seqS (dropS (callF 2 F_need_plan (consA (varD 0) (consA (varD 1) nilA))))
    (seqS (dropS (callF 1 F_need_day (consA (varD 2) nilA)))
    (seqS (setS 3 (callD gDict (consA (bin gIx (varD 0) (cD (.int 2))) nilA)))
    badS)))
def F_latest_done : List D → R D := defF 6 B_latest_done
def B_need_stretch : Env → R Out :=
  (seqS (dropS (callF 1 F_need_day (consA (varD 0) nilA)))
    (seqS (dropS (callF 1 F_need_day (consA (varD 1) nilA)))
    (ifS (blT (bin gLt (varD 1) (varD 0)))
    (raiseS "BadStretch" (cD (.str "the second day of a stretch is not earlier than the first one")))
    passS)))
def F_need_stretch : List D → R D := defF 2 B_need_stretch
def B_stretches : Env → R Out :=
  (seqS (dropS (callF 2 F_need_plan (consA (varD 0) (consA (varD 1) nilA))))
    (seqS (dropS (callF 2 F_need_stretch (consA (varD 2) (consA (varD 3) nilA))))
    (seqS (ifS (blT (bin gGt (varD 3) (bin gAdd (varD 2) (cD (.int 400)))))
    (raiseS "BadStretch" (jsD [(cD (.str "the second day of a stretch is at most ")), (fmtD (cD (.int 400))), (cD (.str " days later"))] Str.empty))
    passS)
    (seqS (setO 4 (dispL nilA))
    (seqS (forS (rngI (consA (varD 2) (consA (bin gAdd (varD 3) (cD (.int 1))) nilA))) (tName 5)
    (seqS (setS 6 (callF 3 F_order_for (consA (varD 0) (consA (varD 1) (consA (varD 5) nilA)))))
    (frzS 4 (ifS (andT (truT (varD 4)) (blT (bin gEq (bin gIx (ownIx 4 (un gNeg (cD (.int 1)))) (cD (.int 2))) (varD 6))))
    (putS 4 (tupD (consA (bin gIx (ownIx 4 (un gNeg (cD (.int 1)))) (cD (.int 0))) (consA (varD 5) (consA (varD 6) nilA)))) (un gNeg (cD (.int 1))))
    (appS 4 (tupD (consA (varD 5) (consA (varD 5) (consA (varD 6) nilA)))))))))
    (retO 4))))))
def F_stretches : List D → R D := defF 7 B_stretches
def FL_stretches : List D → R (List D) := defL 7 B_stretches
def B_next_change : Env → R Out :=
  (seqS (dropS (callF 2 F_need_plan (consA (varD 0) (consA (varD 1) nilA))))
    (seqS (dropS (callF 1 F_need_day (consA (varD 2) nilA)))
    (seqS (setS 3 (callF 3 F_order_for (consA (varD 0) (consA (varD 1) (consA (varD 2) nilA)))))
    (seqS (forS (iterF (callF 1 F_later_days (consA (varD 2) nilA))) (tName 4)
    (ifS (blT (bin gNe (callF 3 F_order_for (consA (varD 0) (consA (varD 1) (consA (varD 4) nilA)))) (varD 3)))
    (retS (varD 4))
    passS))
    (retS (cD .none))))))
def F_next_change : List D → R D := defF 5 B_next_change
def B_nearest_orders : Env → R Out :=
  (seqS (setS 2 (cD (.dict [])))
    (seqS (forS (iterF (callF 0 F_telling_days nilA)) (tName 3)
    (seqS (setS 4 (callF 3 F_order_for (consA (varD 0) (consA (varD 1) (consA (varD 3) nilA)))))
    (ifS (blT (bin (gInK true) (varD 4) (varD 2)))
    badS
    passS)))
    (retS (varD 2))))
def F_nearest_orders : List D → R D := defF 5 B_nearest_orders
def FL_nearest_orders : List D → R (List D) := defL 5 B_nearest_orders
def B_orders_ever : Env → R Out :=
  (seqS (dropS (callF 2 F_need_plan (consA (varD 0) (consA (varD 1) nilA))))
    (seqS (setS 2 (callF 2 F_nearest_orders (consA (varD 0) (consA (varD 1) nilA))))
    (retL (sortG (lstD (compD (iterF (varD 2)) (tName 3) yesT (tupD (consA (varD 3) (consA (bin gGetK (varD 2) (varD 3)) nilA))) [3]))))))
def F_orders_ever : List D → R D := defF 4 B_orders_ever
def FL_orders_ever : List D → R (List D) := defL 4 B_orders_ever
def B_need_order : Env → R Out :=
  (ifS (notT (andT (truT (isiD "tuple" (varD 1))) (andT (truT (callD gAll (consA (lstD (compD (iterF (varD 1)) (tName 2) yesT (callF 3 F_is_whole (consA (varD 2) (consA (cD (.int 0)) (consA (bin gSub (callD gLen (consA (varD 0) nilA)) (cD (.int 1))) nilA)))) [2])) nilA))) (blT (bin gEq (lstD (sortG (varD 1))) (lstD (rng1 (callD gLen (consA (varD 0) nilA)))))))))
    (raiseS "BadOrder" (cD (.str "an order is a tuple of the numbers of all steps, each once")))
    passS)
def F_need_order : List D → R D := defF 3 B_need_order
def B_days_with : Env → R Out :=
  (seqS (dropS (callF 2 F_need_plan (consA (varD 0) (consA (varD 1) nilA))))
    (seqS (dropS (callF 2 F_need_order (consA (varD 1) (consA (varD 2) nilA))))
    (seqS (dropS (callF 2 F_need_stretch (consA (varD 3) (consA (varD 4) nilA))))
    (seqS (setS 5 (lstD (compD (iterF (callF 0 F_telling_days nilA)) (tName 6) yesT (tupD (consA (varD 6) (consA (callF 3 F_count_told (consA (varD 6) (consA (varD 3) (consA (varD 4) nilA)))) nilA))) [6])))
    (retS (callD gSum (consA (lstD (compD (iterF (varD 5)) (tTup 2 (tCons (tName 6) (tCons (tName 7) tNil))) (andT (blT (bin gGt (varD 7) (cD (.int 0)))) (blT (bin gEq (callF 3 F_order_for (consA (varD 0) (consA (varD 1) (consA (varD 6) nilA)))) (varD 2)))) (varD 7) [6, 7])) nilA)))))))
def F_days_with : List D → R D := defF 8 B_days_with
def B_next_with : Env → R Out :=
  (seqS (dropS (callF 2 F_need_plan (consA (varD 0) (consA (varD 1) nilA))))
    (seqS (dropS (callF 2 F_need_order (consA (varD 1) (consA (varD 2) nilA))))
    (seqS (dropS (callF 1 F_need_day (consA (varD 3) nilA)))
    (seqS (forS (iterF (callF 1 F_later_days (consA (varD 3) nilA))) (tName 4)
    (ifS (blT (bin gEq (callF 3 F_order_for (consA (varD 0) (consA (varD 1) (consA (varD 4) nilA)))) (varD 2)))
    (retS (varD 4))
    passS))
    (retS (cD .none))))))
def F_next_with : List D → R D := defF 5 B_next_with
def B_need_two_steps : Env → R Out :=
  (seqS (dropS (callF 2 F_need_step (consA (varD 0) (consA (varD 1) nilA))))
    (seqS (dropS (callF 2 F_need_step (consA (varD 0) (consA (varD 2) nilA))))
    (ifS (blT (bin gEq (varD 1) (varD 2)))
    (raiseS "BadStep" (cD (.str "the two steps are to be unlike")))
    passS)))
def F_need_two_steps : List D → R D := defF 3 B_need_two_steps
def B_ahead_word : Env → R Out :=
  (seqS (dropS (callF 2 F_need_plan (consA (varD 0) (consA (varD 1) nilA))))
    (seqS (dropS (callF 3 F_need_two_steps (consA (varD 1) (consA (varD 2) (consA (varD 3) nilA)))))
    (seqS (setS 4 (callD gDict (consA (bin gIx (varD 0) (cD (.int 2))) nilA)))
    (seqS (setO 5 (dispL nilA))
    (seqS (forS (iterF (callF 0 F_telling_days nilA)) (tName 6)
    (seqS (setS 7 (bin gLt (tupD (consA (callF 3 F_move (consA (varD 4) (consA (bin gIx (bin gIx (varD 1) (varD 2)) (cD (.int 1))) (consA (varD 6) nilA)))) (consA (varD 2) nilA))) (tupD (consA (callF 3 F_move (consA (varD 4) (consA (bin gIx (bin gIx (varD 1) (varD 3)) (cD (.int 1))) (consA (varD 6) nilA)))) (consA (varD 3) nilA)))))
    (ifS (blT (ownIn true 5 (varD 7)))
    (appS 5 (varD 7))
    passS)))
    (seqS (ifS (blT (bin gEq (ownLen 5) (cD (.int 2))))
    (retS (cD (.str "sometimes")))
    passS)
    (retS (ifD (truT (ownIx 5 (cD (.int 0)))) (cD (.str "always")) (cD (.str "never"))))))))))
def F_ahead_word : List D → R D := defF 8 B_ahead_word
def B_ahead_anyhow : Env → R Out :=
  (seqS (dropS (callF 2 F_need_plan (consA (varD 0) (consA (varD 1) nilA))))
    (seqS (dropS (callF 3 F_need_two_steps (consA (varD 1) (consA (varD 2) (consA (varD 3) nilA)))))
    (seqS (setS 4 (bin gAdd (bin gIx (bin gIx (varD 1) (varD 2)) (cD (.int 1))) (ifD (blT (bin gLt (varD 2) (varD 3))) (tupD nilA) (tupD (consA (cD (.str "+")) nilA)))))
    (retS (bin gIsNot (callF 2 F_spell (consA (callF 1 F_reduce_letters (consA (varD 4) nilA)) (consA (bin gIx (bin gIx (varD 1) (varD 3)) (cD (.int 1))) nilA))) (cD .none))))))
def F_ahead_anyhow : List D → R D := defF 5 B_ahead_anyhow
def B_state_at : Env → R Out :=
  (seqS (dropS (callF 4 F_need_moment (consA (varD 0) (consA (varD 1) (consA (varD 2) (consA (varD 3) nilA))))))
    (seqS (asgS (bin gIx (callF 3 F_worlds_along (consA (varD 0) (consA (varD 1) (consA (callF 3 F_order_for (consA (varD 0) (consA (varD 1) (consA (varD 2) nilA)))) nilA)))) (varD 3)) (tTup 2 (tCons (tName 4) (tCons (tName 5) tNil))))
    (retS (varD 4))))
def F_state_at : List D → R D := defF 6 B_state_at
def B_day_at : Env → R Out :=
  (seqS (dropS (callF 4 F_need_moment (consA (varD 0) (consA (varD 1) (consA (varD 2) (consA (varD 3) nilA))))))
    (retS (ifD (blT (bin gGt (varD 3) (cD (.int 0)))) (bin gIx (bin gIx (callF 3 F_history_for (consA (varD 0) (consA (varD 1) (consA (varD 2) nilA)))) (bin gSub (varD 3) (cD (.int 1)))) (cD (.int 0))) (cD .none))))
def F_day_at : List D → R D := defF 4 B_day_at
def B_sources_seen : Env → R Out :=
  (seqS (asgS (varD 2) (tTup 4 (tCons (tName 3) (tCons (tName 4) (tCons (tName 5) (tCons (tName 6) tNil))))))
    (seqS (asgS (varD 1) (tTup 2 (tCons (tName 7) (tCons (tName 8) tNil))))
    (retS (ifD (truT (callF 4 F_sees_in (consA (bin gIx (varD 0) (cD (.int 1))) (consA (varD 7) (consA (varD 4) (consA (varD 5) nilA)))))) (bin gIx (bin gIx (varD 8) (varD 6)) (varD 5)) (cD .none)))))
def F_sources_seen : List D → R D := defF 9 B_sources_seen
def B_outcome : Env → R Out :=
  (seqS (setS 4 (cD (.dict [])))
    (seqS (forS (iterF (varD 3)) (tName 5)
    (seqS (setS 6 (bin gIx (bin gIx (varD 1) (varD 5)) (cD (.int 0))))
    (seqS (ifS (blT (bin gEq (bin gIx (varD 6) (cD (.int 0))) (cD (.str "look"))))
    badS
    passS)
    (setS 2 (callF 4 F_world_behind (consA (varD 0) (consA (varD 2) (consA (varD 6) (consA (varD 5) nilA)))))))))
    (retS (tupD (consA (varD 2) (consA (varD 4) nilA))))))
def F_outcome : List D → R D := defF 7 B_outcome
def B_swap_steps : Env → R Out :=
  (seqS (dropS (callF 2 F_need_plan (consA (varD 0) (consA (varD 1) nilA))))
    (seqS (dropS (callF 1 F_need_day (consA (varD 2) nilA)))
    (seqS (setS 3 (callF 3 F_order_for (consA (varD 0) (consA (varD 1) (consA (varD 2) nilA)))))
    (seqS (setS 4 (callF 3 F_worlds_along (consA (varD 0) (consA (varD 1) (consA (varD 3) nilA)))))
    (seqS (setO 5 (dispL nilA))
    (seqS (forS (rngI (consA (bin gSub (callD gLen (consA (varD 3) nilA)) (cD (.int 1))) nilA)) (tName 6)
    (seqS (setS 7 (slD gSl (varD 3) (part (varD 6)) (part (bin gAdd (varD 6) (cD (.int 2))))))
    (ifS (blT (bin gEq (callF 4 F_outcome (consA (varD 0) (consA (varD 1) (consA (bin gIx (varD 4) (varD 6)) (consA (varD 7) nilA))))) (callF 4 F_outcome (consA (varD 0) (consA (varD 1) (consA (bin gIx (varD 4) (varD 6)) (consA (un gRevT (varD 7)) nilA)))))))
    (appS 5 (varD 7))
    passS)))
    (frzS 5 (retL (sortG (varD 5))))))))))
def F_swap_steps : List D → R D := defF 8 B_swap_steps
def FL_swap_steps : List D → R (List D) := defL 8 B_swap_steps
def B_alike_days : Env → R Out :=
  (seqS (dropS (callF 2 F_need_plan (consA (varD 0) (consA (varD 1) nilA))))
    (seqS (dropS (callF 1 F_need_day (consA (varD 2) nilA)))
    (seqS (dropS (callF 1 F_need_day (consA (varD 3) nilA)))
    (seqS (setS 4 (lstD (compD (iterF (tupD (consA (varD 2) (consA (varD 3) nilA)))) (tName 5) yesT (bin gIx (callF 3 F_worlds_along (consA (varD 0) (consA (varD 1) (consA (callF 3 F_order_for (consA (varD 0) (consA (varD 1) (consA (varD 5) nilA)))) nilA)))) (un gNeg (cD (.int 1)))) [5])))
    (retS (bin gEq (bin gIx (varD 4) (cD (.int 0))) (bin gIx (varD 4) (cD (.int 1)))))))))
def F_alike_days : List D → R D := defF 6 B_alike_days
def B_need_watch : Env → R Out :=
  (seqS (dropS (callF 2 F_need_plan (consA (varD 0) (consA (varD 1) nilA))))
    (seqS (dropS (callF 1 F_need_day (consA (varD 2) nilA)))
    (seqS (dropS (callF 2 F_need_person (consA (bin gIx (varD 0) (cD (.int 0))) (consA (varD 3) nilA))))
    (dropS (callF 1 F_need_path (consA (varD 4) nilA))))))
def F_need_watch : List D → R D := defF 5 B_need_watch
def B_views_along : Env → R Out :=
  badS
def F_views_along : List D → R D := defF 8 B_views_along
def FL_views_along : List D → R (List D) := defL 8 B_views_along
def B_sights_along : Env → R Out :=
  (seqS (setS 4 (callF 4 F_views_along (consA (varD 0) (consA (varD 1) (consA (varD 2) (consA (varD 3) nilA))))))
    badS)
def F_sights_along : List D → R D := defF 9 B_sights_along
def FL_sights_along : List D → R (List D) := defL 9 B_sights_along
def B_sights : Env → R Out :=
  (seqS (dropS (callF 5 F_need_watch (consA (varD 0) (consA (varD 1) (consA (varD 2) (consA (varD 3) (consA (varD 4) nilA)))))))
    (seqS (setS 5 (callF 3 F_worlds_along (consA (varD 0) (consA (varD 1) (consA (callF 3 F_order_for (consA (varD 0) (consA (varD 1) (consA (varD 2) nilA)))) nilA)))))
    (retL (callL 4 FL_sights_along (consA (varD 0) (consA (varD 5) (consA (varD 3) (consA (varD 4) nilA))))))))
def F_sights : List D → R D := defF 6 B_sights
def FL_sights : List D → R (List D) := defL 6 B_sights
def B_sure_sights : Env → R Out :=
  (seqS (dropS (callF 5 F_need_watch (consA (varD 0) (consA (varD 1) (consA (varD 2) (consA (varD 3) (consA (varD 4) nilA)))))))
    (seqS (setS 5 (callF 3 F_worlds_along (consA (varD 0) (consA (varD 1) (consA (callF 3 F_order_for (consA (varD 0) (consA (varD 1) (consA (varD 2) nilA)))) nilA)))))
    (seqS (setS 6 (callF 4 F_views_along (consA (varD 0) (consA (varD 5) (consA (varD 3) (consA (varD 4) nilA))))))
    (retL (sortG (lstD (compD (iterF (varD 6)) (tTup 3 (tCons (tName 7) (tCons (tName 8) (tCons (tName 9) tNil)))) (truT (varD 9)) (tupD (consA (bin gIx (varD 9) (cD (.int 0))) (consA (varD 7) (consA (varD 8) nilA)))) [7, 8, 9])))))))
def F_sure_sights : List D → R D := defF 10 B_sure_sights
def FL_sure_sights : List D → R (List D) := defL 10 B_sure_sights
def B_need_sourceS : Env → R Out :=
  (ifS (notT (truT (callF 4 F_is_source (consA (callF 1 F_size_of (consA (bin gIx (varD 0) (cD (.int 0))) nilA)) (consA (lstD (compD (iterF (varD 1)) (tTup 2 (tCons (tName 4) (tCons (tName 5) tNil))) yesT (varD 4) [4, 5])) (consA (varD 2) (consA (varD 3) nilA)))))))
    (raiseS "BadSource" (cD (.str "a source is the first paper of a folder, or one written at the path by a step of the plan")))
    passS)
def F_need_sourceS : List D → R D := defF 6 B_need_sourceS
def B_sees_source : Env → R Out :=
  (seqS (setS 6 (callF 4 F_views_along (consA (varD 0) (consA (callF 3 F_worlds_along (consA (varD 0) (consA (varD 1) (consA (varD 2) nilA)))) (consA (varD 3) (consA (varD 4) nilA))))))
    (retS (callD gAny (consA (lstD (compD (iterF (varD 6)) (tTup 3 (tCons (tName 7) (tCons (tName 7) (tCons (tName 8) tNil)))) yesT (bin gInA (varD 5) (varD 8)) [7, 7, 8])) nilA))))
def F_sees_source : List D → R D := defF 9 B_sees_source
def B_can_see : Env → R Out :=
  (seqS (dropS (callF 5 F_need_watch (consA (varD 0) (consA (varD 1) (consA (varD 2) (consA (varD 3) (consA (varD 4) nilA)))))))
    (seqS (dropS (callF 4 F_need_sourceS (consA (varD 0) (consA (varD 1) (consA (varD 4) (consA (varD 5) nilA))))))
    (retS (callF 6 F_sees_source (consA (varD 0) (consA (varD 1) (consA (callF 3 F_order_for (consA (varD 0) (consA (varD 1) (consA (varD 2) nilA)))) (consA (varD 3) (consA (varD 4) (consA (varD 5) nilA))))))))))
def F_can_see : List D → R D := defF 6 B_can_see
def B_need_look : Env → R Out :=
  (seqS (dropS (callF 2 F_need_step (consA (varD 0) (consA (varD 1) nilA))))
    (ifS (blT (bin gNe (bin gIx (bin gIx (bin gIx (varD 0) (varD 1)) (cD (.int 0))) (cD (.int 0))) (cD (.str "look"))))
    (raiseS "BadStep" (cD (.str "the step has to be a look")))
    passS))
def F_need_look : List D → R D := defF 2 B_need_look
def B_looks_along : Env → R Out :=
  (seqS (setS 3 (callF 3 F_worlds_along (consA (varD 0) (consA (varD 1) (consA (varD 2) nilA)))))
    badS)
def F_looks_along : List D → R D := defF 6 B_looks_along
def B_all_contents : Env → R Out :=
  (seqS (setS 1 (lstD (dispL (consA (tupD nilA) nilA))))
    (seqS (forS (rngI (consA (varD 0) nilA)) (tName 2)
    (setS 1 (bin gAdd (varD 1) (lstD (compD (iterF (varD 1)) (tName 3) yesT (bin gAdd (varD 3) (tupD (consA (varD 2) nilA))) [3])))))
    (retL (sortG (varD 1)))))
def F_all_contents : List D → R D := defF 4 B_all_contents
def FL_all_contents : List D → R (List D) := defL 4 B_all_contents
def B_alike_contents : Env → R Out :=
  (seqS (dropS (callF 5 F_need_watch (consA (varD 0) (consA (varD 1) (consA (varD 2) (consA (varD 3) (consA (varD 4) nilA)))))))
    (seqS (setS 6 (callF 1 F_size_of (consA (bin gIx (varD 0) (cD (.int 0))) nilA)))
    (seqS (dropS (callF 2 F_need_contents (consA (varD 6) (consA (varD 5) nilA))))
    (seqS (setS 7 (callF 3 F_worlds_along (consA (varD 0) (consA (varD 1) (consA (callF 3 F_order_for (consA (varD 0) (consA (varD 1) (consA (varD 2) nilA)))) nilA)))))
    (seqS (setS 8 (lstD (compD (iterF (callF 4 F_views_along (consA (varD 0) (consA (varD 7) (consA (varD 3) (consA (varD 4) nilA)))))) (tTup 3 (tCons (tName 10) (tCons (tName 10) (tCons (tName 11) tNil)))) yesT (varD 11) [10, 10, 11])))
    (seqS (setS 9 (callF 2 F_papers_of (consA (varD 8) (consA (varD 5) nilA))))
    (retL (compD (iterF (callF 1 F_all_contents (consA (varD 6) nilA))) (tName 12) (blT (bin gEq (callF 2 F_papers_of (consA (varD 8) (consA (varD 12) nilA))) (varD 9))) (varD 12) [12]))))))))
def F_alike_contents : List D → R D := defF 13 B_alike_contents
def FL_alike_contents : List D → R (List D) := defL 13 B_alike_contents
def B_need_looking : Env → R Out :=
  (seqS (dropS (callF 2 F_need_plan (consA (varD 0) (consA (varD 1) nilA))))
    (seqS (dropS (callF 1 F_need_day (consA (varD 2) nilA)))
    (dropS (callF 2 F_need_look (consA (varD 1) (consA (varD 3) nilA))))))
def F_need_looking : List D → R D := defF 4 B_need_looking
def B_look_sources : Env → R Out :=
  (seqS (dropS (callF 4 F_need_looking (consA (varD 0) (consA (varD 1) (consA (varD 2) (consA (varD 3) nilA))))))
    (retS (bin gIx (callF 3 F_looks_along (consA (varD 0) (consA (varD 1) (consA (callF 3 F_order_for (consA (varD 0) (consA (varD 1) (consA (varD 2) nilA)))) nilA)))) (varD 3))))
def F_look_sources : List D → R D := defF 4 B_look_sources
def B_look_shows : Env → R Out :=
  (seqS (dropS (callF 4 F_need_looking (consA (varD 0) (consA (varD 1) (consA (varD 2) (consA (varD 3) nilA))))))
    (seqS (dropS (callF 2 F_need_contents (consA (callF 1 F_size_of (consA (bin gIx (varD 0) (cD (.int 0))) nilA)) (consA (varD 4) nilA))))
    (seqS (setS 5 (bin gIx (callF 3 F_looks_along (consA (varD 0) (consA (varD 1) (consA (callF 3 F_order_for (consA (varD 0) (consA (varD 1) (consA (varD 2) nilA)))) nilA)))) (varD 3)))
    (retS (ifD (blT (bin gIs (varD 5) (cD .none))) (cD .none) (callF 2 F_first_there (consA (varD 5) (consA (varD 4) nilA))))))))
def F_look_shows : List D → R D := defF 6 B_look_shows
def B_standing_after : Env → R Out :=
  (seqS (asgS (callF 2 F_script_of (consA (varD 1) (consA (varD 2) nilA))) (tTup 2 (tCons (tName 5) (tCons (tName 6) tNil))))
    (seqS (setS 7 (callF 3 F_lists_through (consA (callF 1 F_size_of (consA (bin gIx (varD 0) (cD (.int 0))) nilA)) (consA (varD 5) (consA (varD 3) nilA)))))
    (retS (tupD (consA (varD 5) (consA (varD 6) (consA (lstD (compD (iterF (varD 7)) (tName 8) yesT (callF 2 F_papers_of (consA (varD 8) (consA (varD 4) nilA))) [8])) nilA)))))))
def F_standing_after : List D → R D := defF 9 B_standing_after
def B_at_place : Env → R Out :=
  (seqS (asgS (varD 0) (tTup 2 (tCons (tName 2) (tCons (tName 3) tNil))))
    badS)
def F_at_place : List D → R D := defF 4 B_at_place
def B_trail_of : Env → R Out :=
  (seqS (asgS (callF 5 F_standing_after (consA (varD 0) (consA (varD 1) (consA (varD 2) (consA (varD 3) (consA (varD 6) nilA)))))) (tTup 3 (tCons (tName 7) (tCons (tName 8) (tCons (tName 9) tNil)))))
    (seqS (setS 10 (callF 4 F_least_trail (consA (varD 7) (consA (varD 9) (consA (varD 4) (consA (callF 2 F_at_place (consA (varD 5) (consA (varD 8) nilA))) nilA))))))
    (retS (callD gTuple (consA (lstD (compD (iterF (varD 10)) (tName 11) yesT (bin gIx (varD 8) (varD 11)) [11])) nilA)))))
def F_trail_of : List D → R D := defF 12 B_trail_of
def B_sight_paper : Env → R Out :=
  (seqS (dropS (callF 5 F_need_watch (consA (varD 0) (consA (varD 1) (consA (varD 2) (consA (varD 3) (consA (varD 4) nilA)))))))
    (seqS (dropS (callF 4 F_need_sourceS (consA (varD 0) (consA (varD 1) (consA (varD 4) (consA (varD 5) nilA))))))
    (seqS (setS 6 (callF 3 F_order_for (consA (varD 0) (consA (varD 1) (consA (varD 2) nilA)))))
    (seqS (setS 7 (callF 3 F_worlds_along (consA (varD 0) (consA (varD 1) (consA (varD 6) nilA)))))
    (seqS (forS (iterF (callF 4 F_views_along (consA (varD 0) (consA (varD 7) (consA (varD 3) (consA (varD 4) nilA)))))) (tTup 3 (tCons (tName 8) (tCons (tName 9) (tCons (tName 10) tNil))))
    (ifS (blT (bin gInA (varD 5) (varD 10)))
    (seqS (setS 11 (callF 1 F_contents_of (consA (varD 5) nilA)))
    (seqS (setS 12 (callF 7 F_trail_of (consA (varD 0) (consA (varD 1) (consA (slD gSl (varD 6) noPart (part (varD 8))) (consA (varD 4) (consA (varD 9) (consA (varD 5) (consA (varD 11) nilA)))))))))
    (seqS (asgS (bin gIx (varD 7) (varD 8)) (tTup 2 (tCons (tName 13) (tCons (tName 14) tNil))))
    (retS (tupD (consA (varD 8) (consA (varD 9) (consA (varD 11) (consA (varD 12) (consA (callF 4 F_find_reason (consA (bin gIx (varD 0) (cD (.int 1))) (consA (varD 13) (consA (varD 3) (consA (varD 9) nilA))))) nilA))))))))))
    passS))
    (retS (cD .none)))))))
def F_sight_paper : List D → R D := defF 15 B_sight_paper
def B_is_trail_of : Env → R Out :=
  (seqS (asgS (callF 5 F_standing_after (consA (varD 0) (consA (varD 1) (consA (varD 2) (consA (varD 3) (consA (varD 6) nilA)))))) (tTup 3 (tCons (tName 8) (tCons (tName 9) (tCons (tName 10) tNil)))))
    (seqS (ifS (notT (andT (truT (isiD "tuple" (varD 7))) (truT (callD gAll (consA (lstD (compD (iterF (varD 7)) (tName 12) yesT (andD (callF 3 F_is_whole (consA (varD 12) (consA (cD (.int 0)) (consA (bin gSub (callD gLen (consA (varD 1) nilA)) (cD (.int 1))) nilA)))) (bin gInA (varD 12) (varD 9))) [12])) nilA)))))
    (retS (cD (.bool false)))
    passS)
    (seqS (ifS (andT (blT (bin gEq (bin gIx (varD 5) (cD (.int 0))) (cD (.str "written")))) (blT (bin gNotInA (bin gIx (varD 5) (cD (.int 1))) (varD 9))))
    (retS (cD (.bool false)))
    passS)
    (seqS badS
    (retS (callF 5 F_is_trail (consA (varD 8) (consA (varD 10) (consA (varD 4) (consA (callF 2 F_at_place (consA (varD 5) (consA (varD 9) nilA))) (consA (varD 11) nilA)))))))))))
def F_is_trail_of : List D → R D := defF 13 B_is_trail_of
def B_sight_holds : Env → R Out :=
  (seqS (dropS (callF 5 F_need_watch (consA (varD 0) (consA (varD 1) (consA (varD 2) (consA (varD 3) (consA (varD 4) nilA)))))))
    (seqS (dropS (callF 4 F_need_sourceS (consA (varD 0) (consA (varD 1) (consA (varD 4) (consA (varD 5) nilA))))))
    (seqS (ifS (notT (andT (truT (isiD "tuple" (varD 6))) (blT (bin gEq (callD gLen (consA (varD 6) nilA)) (cD (.int 5))))))
    (retS (cD (.bool false)))
    passS)
    (seqS (asgS (varD 6) (tTup 5 (tCons (tName 7) (tCons (tName 8) (tCons (tName 9) (tCons (tName 10) (tCons (tName 11) tNil)))))))
    (seqS (setS 12 (callF 1 F_size_of (consA (bin gIx (varD 0) (cD (.int 0))) nilA)))
    (seqS (ifS (notT (andT (truT (callF 3 F_is_whole (consA (varD 7) (consA (cD (.int 0)) (consA (callD gLen (consA (varD 1) nilA)) nilA))))) (andT (truT (callF 2 F_is_folder (consA (varD 12) (consA (varD 8) nilA)))) (truT (callF 2 F_is_contents (consA (varD 12) (consA (varD 9) nilA)))))))
    (retS (cD (.bool false)))
    passS)
    (seqS (setS 13 (slD gSl (callF 3 F_order_for (consA (varD 0) (consA (varD 1) (consA (varD 2) nilA)))) noPart (part (varD 7))))
    (seqS (asgS (bin gIx (callF 3 F_worlds_along (consA (varD 0) (consA (varD 1) (consA (varD 13) nilA)))) (un gNeg (cD (.int 1)))) (tTup 2 (tCons (tName 14) (tCons (tName 15) tNil))))
    (retS (andD (callF 8 F_is_trail_of (consA (varD 0) (consA (varD 1) (consA (varD 13) (consA (varD 4) (consA (varD 8) (consA (varD 5) (consA (varD 9) (consA (varD 10) nilA))))))))) (andD (callF 6 F_is_reason (consA (bin gIx (varD 0) (cD (.int 0))) (consA (bin gIx (varD 0) (cD (.int 1))) (consA (varD 14) (consA (varD 3) (consA (varD 8) (consA (varD 11) nilA))))))) (bin gEq (bin gIx (varD 11) (cD (.int 0))) (cD (.str "sees"))))))))))))))
def F_sight_holds : List D → R D := defF 16 B_sight_holds
def B_need_watched : Env → R Out :=
  (seqS (dropS (callF 2 F_need_person (consA (bin gIx (varD 0) (cD (.int 0))) (consA (varD 2) nilA))))
    (seqS (dropS (callF 1 F_need_path (consA (varD 3) nilA)))
    (dropS (callF 4 F_need_sourceS (consA (varD 0) (consA (varD 1) (consA (varD 3) (consA (varD 4) nilA))))))))
def F_need_watched : List D → R D := defF 5 B_need_watched
def B_ever_sees : Env → R Out :=
  (seqS (dropS (callF 2 F_need_plan (consA (varD 0) (consA (varD 1) nilA))))
    (seqS (dropS (callF 5 F_need_watched (consA (varD 0) (consA (varD 1) (consA (varD 2) (consA (varD 3) (consA (varD 4) nilA)))))))
    (seqS (setS 5 (cD (.dict [])))
    (seqS badS
    (seqS (ifS (blT (bin gEq (callD gLen (consA (varD 5) nilA)) (cD (.int 2))))
    (retS (tupD (consA (cD (.str "sometimes")) (consA (bin gGetK (varD 5) (cD (.bool true))) (consA (bin gGetK (varD 5) (cD (.bool false))) nilA)))))
    passS)
    badS)))))
def F_ever_sees : List D → R D := defF 9 B_ever_sees
def B_ever_look : Env → R Out :=
  (seqS (dropS (callF 2 F_need_plan (consA (varD 0) (consA (varD 1) nilA))))
    (seqS (dropS (callF 2 F_need_look (consA (varD 1) (consA (varD 2) nilA))))
    (seqS (setS 3 (cD (.dict [])))
    (seqS badS
    (seqS (setS 7 (ifD (blT (bin (gInK false) (cD .none) (varD 3))) (lstD (dispL (consA (tupD (consA (cD .none) (consA (bin gGetK (varD 3) (cD .none)) nilA))) nilA))) (lstD (dispL nilA))))
    (retS (bin gAdd (varD 7) (lstD (sortG (lstD (compD (iterF (varD 3)) (tName 6) (blT (bin gIsNot (varD 6) (cD .none))) (tupD (consA (varD 6) (consA (bin gGetK (varD 3) (varD 6)) nilA))) [6])))))))))))
def F_ever_look : List D → R D := defF 8 B_ever_look
def B_cuts_of : Env → R Out :=
  (seqS (setS 2 (lstD (compD (rngI (consA (callD gLen (consA (varD 0) nilA)) nilA)) (tName 4) (blT (bin gNe (varD 4) (varD 1))) (varD 4) [4])))
    (seqS badS
    (retL (dispL (consA (lstD (dispL (consA (tupD nilA) nilA))) (consA (lstD (compD (iterF (varD 2)) (tName 4) yesT (tupD (consA (varD 4) nilA)) [4])) (consA (varD 3) nilA)))))))
def F_cuts_of : List D → R D := defF 6 B_cuts_of
def FL_cuts_of : List D → R (List D) := defL 6 B_cuts_of
def B_without : Env → R Out :=
  (retS (callD gTuple (consA (lstD (compD (iterF (varD 0)) (tName 2) (blT (bin gNotInA (varD 2) (varD 1))) (varD 2) [2])) nilA)))
def F_without : List D → R D := defF 3 B_without
def B_least_cuts : Env → R Out :=
  (seqS (dropS (callF 2 F_need_plan (consA (varD 0) (consA (varD 1) nilA))))
    (seqS (dropS (callF 1 F_need_day (consA (varD 2) nilA)))
    (seqS (dropS (callF 5 F_need_watched (consA (varD 0) (consA (varD 1) (consA (varD 3) (consA (varD 4) (consA (varD 5) nilA)))))))
    (seqS (setS 6 (callF 3 F_order_for (consA (varD 0) (consA (varD 1) (consA (varD 2) nilA)))))
    (seqS (setS 7 (ifD (blT (bin gEq (bin gIx (varD 5) (cD (.int 0))) (cD (.str "written")))) (bin gIx (varD 5) (cD (.int 1))) (cD .none)))
    (seqS (forS (iterF (callF 2 F_cuts_of (consA (varD 1) (consA (varD 7) nilA)))) (tName 8)
    (seqS (setS 9 (lstD (compD (iterF (varD 8)) (tName 10) (notT (truT (callF 6 F_sees_source (consA (varD 0) (consA (varD 1) (consA (callF 2 F_without (consA (varD 6) (consA (varD 10) nilA))) (consA (varD 3) (consA (varD 4) (consA (varD 5) nilA))))))))) (varD 10) [10])))
    (ifS (truT (varD 9))
    (retS (varD 9))
    passS)))
    (retL (dispL nilA))))))))
def F_least_cuts : List D → R D := defF 11 B_least_cuts
def B_idle_in : Env → R Out :=
  (seqS (setS 3 (callF 3 F_looks_along (consA (varD 0) (consA (varD 1) (consA (varD 2) nilA)))))
    (seqS (setS 4 (lstD (compD (rngI (consA (callD gLen (consA (varD 1) nilA)) nilA)) (tName 5) (blT (bin (gInK true) (varD 5) (varD 3))) (varD 5) [5])))
    (retL (compD (iterF (varD 4)) (tName 5) (blT (bin gEq (callF 3 F_looks_along (consA (varD 0) (consA (varD 1) (consA (callF 2 F_without (consA (varD 2) (consA (tupD (consA (varD 5) nilA)) nilA))) nilA)))) (varD 3))) (varD 5) [5]))))
def F_idle_in : List D → R D := defF 6 B_idle_in
def FL_idle_in : List D → R (List D) := defL 6 B_idle_in
def B_idle_steps : Env → R Out :=
  (seqS (dropS (callF 2 F_need_plan (consA (varD 0) (consA (varD 1) nilA))))
    (seqS (dropS (callF 1 F_need_day (consA (varD 2) nilA)))
    (retL (callL 3 FL_idle_in (consA (varD 0) (consA (varD 1) (consA (callF 3 F_order_for (consA (varD 0) (consA (varD 1) (consA (varD 2) nilA)))) nilA)))))))
def F_idle_steps : List D → R D := defF 3 B_idle_steps
def FL_idle_steps : List D → R (List D) := defL 3 B_idle_steps
def B_ever_idle : Env → R Out :=
  (seqS (dropS (callF 2 F_need_plan (consA (varD 0) (consA (varD 1) nilA))))
    (seqS (setS 2 (lstD (compD (iterF (callF 2 F_nearest_orders (consA (varD 0) (consA (varD 1) nilA)))) (tName 3) yesT (callF 3 F_idle_in (consA (varD 0) (consA (varD 1) (consA (varD 3) nilA)))) [3])))
    (retL (compD (rngI (consA (callD gLen (consA (varD 1) nilA)) nilA)) (tName 4) (truT (callD gAll (consA (lstD (compD (iterF (varD 2)) (tName 5) yesT (bin gInA (varD 4) (varD 5)) [5])) nilA))) (varD 4) [4]))))
def F_ever_idle : List D → R D := defF 6 B_ever_idle
def FL_ever_idle : List D → R (List D) := defL 6 B_ever_idle
def B_is_kept_paper : Env → R Out :=
  (retS (andD (callF 1 F_is_pair (consA (varD 2) nilA)) (andD (callF 3 F_is_whole (consA (bin gIx (varD 2) (cD (.int 0))) (consA (cD (.int 0)) (consA (bin gSub (callD gLen (consA (varD 1) nilA)) (cD (.int 1))) nilA)))) (andD (bin gInA (bin gIx (varD 2) (cD (.int 0))) (callF 1 F_writes_of (consA (varD 1) nilA))) (callF 2 F_is_route_of (consA (bin gIx (varD 0) (cD (.int 2))) (consA (bin gIx (varD 2) (cD (.int 1))) nilA)))))))
def F_is_kept_paper : List D → R D := defF 3 B_is_kept_paper
def B_need_keep : Env → R Out :=
  (seqS (dropS (callF 2 F_need_plan (consA (varD 0) (consA (varD 1) nilA))))
    (ifS (notT (andT (truT (isiD "tuple" (varD 2))) (andT (truT (callD gAll (consA (lstD (compD (iterF (varD 2)) (tName 3) yesT (callF 3 F_is_kept_paper (consA (varD 0) (consA (varD 1) (consA (varD 3) nilA)))) [3])) nilA))) (truT (callF 1 F_is_rising (consA (lstD (compD (iterF (varD 2)) (tName 3) yesT (bin gIx (varD 3) (cD (.int 0))) [3])) nilA))))))
    (raiseS "BadKeep" (cD (.str "a keep is a tuple, ascending, of tuples of the number of a writing and a route")))
    passS))
def F_need_keep : List D → R D := defF 4 B_need_keep
def B_need_kept : Env → R Out :=
  (seqS (dropS (callF 3 F_need_keep (consA (varD 0) (consA (varD 1) (consA (varD 2) nilA)))))
    (seqS (ifS (notT (andT (truT (callF 3 F_is_whole (consA (varD 3) (consA (cD (.int 0)) (consA (bin gSub (callD gLen (consA (varD 1) nilA)) (cD (.int 1))) nilA))))) (blT (bin gInA (varD 3) (callD gDict (consA (varD 2) nilA))))))
    (raiseS "BadStep" (cD (.str "the step has to be one in the keep")))
    passS)
    (dropS (callF 1 F_need_day (consA (varD 4) nilA)))))
def F_need_kept : List D → R D := defF 5 B_need_kept
def B_due_for : Env → R Out :=
  (retS (callF 3 F_move (consA (callD gDict (consA (bin gIx (varD 0) (cD (.int 2))) nilA)) (consA (bin gAdd (bin gIx (bin gIx (varD 1) (varD 3)) (cD (.int 1))) (bin gIx (callD gDict (consA (varD 2) nilA)) (varD 3))) (consA (varD 4) nilA)))))
def F_due_for : List D → R D := defF 5 B_due_for
def B_due_day : Env → R Out :=
  (seqS (dropS (callF 5 F_need_kept (consA (varD 0) (consA (varD 1) (consA (varD 2) (consA (varD 3) (consA (varD 4) nilA)))))))
    (retS (callF 5 F_due_for (consA (varD 0) (consA (varD 1) (consA (varD 2) (consA (varD 3) (consA (varD 4) nilA))))))))
def F_due_day : List D → R D := defF 5 B_due_day
def B_latest_for : Env → R Out :=
  (seqS (dropS (callF 5 F_need_kept (consA (varD 0) (consA (varD 1) (consA (varD 2) (consA (varD 3) (consA (varD 4) nilA)))))))
    (retS (callF 3 F_move_back (consA (callD gDict (consA (bin gIx (varD 0) (cD (.int 2))) nilA)) (consA (bin gAdd (bin gIx (bin gIx (varD 1) (varD 3)) (cD (.int 1))) (bin gIx (callD gDict (consA (varD 2) nilA)) (varD 3))) (consA (varD 4) nilA))))))
def F_latest_for : List D → R D := defF 5 B_latest_for
def B_done_for : Env → R Out :=
  (retL (compD (iterF (callF 3 F_history_for (consA (varD 0) (consA (varD 1) (consA (varD 2) nilA))))) (tTup 2 (tCons (tName 3) (tCons (tName 4) tNil))) yesT (tupD (consA (varD 3) (consA (varD 4) (consA (bin gIx (bin gIx (varD 1) (varD 4)) (cD (.int 0))) nilA)))) [3, 4]))
def F_done_for : List D → R D := defF 5 B_done_for
def FL_done_for : List D → R (List D) := defL 5 B_done_for
def B_loss_in : Env → R Out :=
  (seqS (setS 4 (tupD (consA (cD (.str "written")) (consA (varD 2) nilA))))
    (seqS (setS 5 (bin gIx (lstD (compD (iterF (varD 1)) (tTup 3 (tCons (tName 12) (tCons (tName 10) (tCons (tName 11) tNil)))) (blT (bin gEq (varD 10) (varD 2))) (bin gIx (varD 11) (cD (.int 2))) [12, 10, 11])) (cD (.int 0))))
    (seqS (setS 6 (callF 1 F_first_lists (consA (callF 1 F_size_of (consA (bin gIx (varD 0) (cD (.int 0))) nilA)) nilA)))
    (seqS (setS 7 (cD (.bool false)))
    (seqS (forS (enumF (varD 1)) (tTup 2 (tCons (tName 8) (tCons (tTup 3 (tCons (tName 9) (tCons (tName 10) (tCons (tName 11) tNil)))) tNil)))
    (seqS (ifS (truT (callF 1 F_is_with_papers (consA (varD 11) nilA)))
    (setS 6 (callF 4 F_lists_behind (consA (varD 6) (consA (varD 11) (consA (varD 5) (consA (varD 10) nilA))))))
    passS)
    (seqS (setS 7 (orD (varD 7) (bin gEq (varD 10) (varD 2))))
    (ifS (andT (truT (varD 7)) (andT (blT (bin gLe (varD 9) (varD 3))) (notT (truT (callD gAny (consA (lstD (compD (iterF (varD 6)) (tName 13) yesT (bin gEq (slD gSl (varD 13) noPart (part (cD (.int 1)))) (tupD (consA (varD 4) nilA))) [13])) nilA))))))
    (retS (bin gAdd (varD 8) (cD (.int 1))))
    passS))))
    (retS (cD .none)))))))
def F_loss_in : List D → R D := defF 14 B_loss_in
def B_losses : Env → R Out :=
  (seqS (setS 4 (callF 3 F_done_for (consA (varD 0) (consA (varD 1) (consA (varD 3) nilA)))))
    (seqS (setO 5 (dispL nilA))
    (seqS (forS (iterF (varD 2)) (tTup 2 (tCons (tName 6) (tCons (tName 7) tNil)))
    (seqS (setS 8 (callF 4 F_loss_in (consA (varD 0) (consA (varD 4) (consA (varD 6) (consA (callF 5 F_due_for (consA (varD 0) (consA (varD 1) (consA (varD 2) (consA (varD 6) (consA (varD 3) nilA)))))) nilA))))))
    (ifS (blT (bin gIsNot (varD 8) (cD .none)))
    (appS 5 (tupD (consA (varD 6) (consA (bin gIx (bin gIx (varD 4) (bin gSub (varD 8) (cD (.int 1)))) (cD (.int 1))) nilA))))
    passS)))
    (retO 5))))
def F_losses : List D → R D := defF 9 B_losses
def FL_losses : List D → R (List D) := defL 9 B_losses
def B_lost_papers : Env → R Out :=
  (seqS (dropS (callF 3 F_need_keep (consA (varD 0) (consA (varD 1) (consA (varD 2) nilA)))))
    (seqS (dropS (callF 1 F_need_day (consA (varD 3) nilA)))
    (retL (callL 4 FL_losses (consA (varD 0) (consA (varD 1) (consA (varD 2) (consA (varD 3) nilA))))))))
def F_lost_papers : List D → R D := defF 4 B_lost_papers
def FL_lost_papers : List D → R (List D) := defL 4 B_lost_papers
def B_word_of : Env → R Out :=
  (seqS (setS 3 (cD (.dict [])))
    (seqS (forS (iterF (callF 0 F_telling_days nilA)) (tName 4)
    (seqS (setS 5 (bin gGt (callD gLen (consA (callF 4 F_losses (consA (varD 0) (consA (varD 1) (consA (varD 2) (consA (varD 4) nilA))))) nilA)) (cD (.int 0))))
    (ifS (blT (bin (gInK true) (varD 5) (varD 3)))
    badS
    passS)))
    (seqS (ifS (blT (bin (gInK true) (cD (.bool true)) (varD 3)))
    (retS (tupD (consA (cD (.str "always")) (consA (cD .none) nilA))))
    passS)
    (retS (tupD (consA (ifD (blT (bin (gInK false) (cD (.bool false)) (varD 3))) (cD (.str "sometimes")) (cD (.str "never"))) (consA (bin gGetK (varD 3) (cD (.bool true))) nilA)))))))
def F_word_of : List D → R D := defF 6 B_word_of
def B_keep_word : Env → R Out :=
  (seqS (dropS (callF 3 F_need_keep (consA (varD 0) (consA (varD 1) (consA (varD 2) nilA)))))
    (retS (callF 3 F_word_of (consA (varD 0) (consA (varD 1) (consA (varD 2) nilA))))))
def F_keep_word : List D → R D := defF 3 B_keep_word
def B_ever_kept : Env → R Out :=
  (seqS (dropS (callF 3 F_need_keep (consA (varD 0) (consA (varD 1) (consA (varD 2) nilA)))))
    (retL (compD (iterF (varD 2)) (tName 3) yesT (tupD (consA (bin gIx (varD 3) (cD (.int 0))) (consA (bin gIx (callF 3 F_word_of (consA (varD 0) (consA (varD 1) (consA (tupD (consA (varD 3) nilA)) nilA)))) (cD (.int 0))) nilA))) [3])))
def F_ever_kept : List D → R D := defF 4 B_ever_kept
def FL_ever_kept : List D → R (List D) := defL 4 B_ever_kept
def B_spared_by : Env → R Out :=
  (seqS (dropS (callF 5 F_need_kept (consA (varD 0) (consA (varD 1) (consA (varD 2) (consA (varD 3) (consA (varD 4) nilA)))))))
    (seqS (setS 5 (callF 5 F_due_for (consA (varD 0) (consA (varD 1) (consA (varD 2) (consA (varD 3) (consA (varD 4) nilA)))))))
    (seqS (setS 6 (callF 3 F_done_for (consA (varD 0) (consA (varD 1) (consA (varD 4) nilA)))))
    (seqS (forS (iterF (callF 2 F_cuts_of (consA (varD 1) (consA (varD 3) nilA)))) (tName 7)
    (seqS (setS 8 (lstD (compD (iterF (varD 7)) (tName 9) (blT (bin gIs (callF 4 F_loss_in (consA (varD 0) (consA (callF 2 F_without (consA (varD 6) (consA (varD 9) nilA))) (consA (varD 3) (consA (varD 5) nilA))))) (cD .none))) (varD 9) [9])))
    (ifS (truT (varD 8))
    (retS (varD 8))
    passS)))
    (retL (dispL nilA))))))
def F_spared_by : List D → R D := defF 10 B_spared_by
def B_with_over : Env → R Out :=
  (seqS (asgS (varD 1) (tTup 3 (tCons (tName 2) (tCons (tName 3) (tCons (tName 4) tNil)))))
    (retS (bin gAdd (bin gAdd (slD gSl (varD 0) noPart (part (varD 2))) (lstD (dispL (consA (tupD (consA (bin gIx (bin gIx (varD 0) (bin gSub (varD 2) (cD (.int 1)))) (cD (.int 0))) (consA (cD .none) (consA (tupD (consA (cD (.str "over")) (consA (varD 3) (consA (varD 4) nilA)))) nilA)))) nilA)))) (slD gSl (varD 0) (part (varD 2)) noPart))))
def F_with_over : List D → R D := defF 5 B_with_over
def B_saved_by : Env → R Out :=
  (seqS (dropS (callF 5 F_need_kept (consA (varD 0) (consA (varD 1) (consA (varD 2) (consA (varD 3) (consA (varD 4) nilA)))))))
    (seqS (setS 5 (callF 5 F_due_for (consA (varD 0) (consA (varD 1) (consA (varD 2) (consA (varD 3) (consA (varD 4) nilA)))))))
    (seqS (setS 6 (callF 3 F_done_for (consA (varD 0) (consA (varD 1) (consA (varD 4) nilA)))))
    (seqS (ifS (blT (bin gIs (callF 4 F_loss_in (consA (varD 0) (consA (varD 6) (consA (varD 3) (consA (varD 5) nilA))))) (cD .none)))
    (retL (dispL nilA))
    passS)
    (seqS badS
    (seqS badS
    (seqS badS
    (retL (compD (iterF (varD 9)) (tName 15) (blT (bin gIs (callF 4 F_loss_in (consA (varD 0) (consA (callF 2 F_with_over (consA (varD 6) (consA (varD 15) nilA))) (consA (varD 3) (consA (varD 5) nilA))))) (cD .none))) (varD 15) [15])))))))))
def F_saved_by : List D → R D := defF 16 B_saved_by
def FL_saved_by : List D → R (List D) := defL 16 B_saved_by
def B_wall : Env → R Out :=
  (whileS (truT (cD (.bool true)))
    passS)
def F_wall : List D → R D := defF 1 B_wall
def B_deed_of : Env → R Out :=
  (retS (ifD (blT (bin gEq (bin gIx (varD 0) (cD (.int 0))) (cD (.str "do")))) (bin gIx (varD 0) (cD (.int 1))) (slD gSl (varD 0) noPart (part (cD (.int 4))))))
def F_deed_of : List D → R D := defF 1 B_deed_of
def B_live_from : Env → R Out :=
  (seqS badS
    (seqS badS
    (retS (varD 2))))
def F_live_from : List D → R D := defF 3 B_live_from
def B_show_calendar : Env → R Out :=
  (seqS (asgS (varD 0) (tTup 3 (tCons (tName 1) (tCons (tName 2) (tCons (tName 3) tNil)))))
    (seqS (setO 4 (dispL (consA (varD 1) nilA)))
    (seqS (forS (iterF (tupD (consA (tupD (consA (cD (.str "closed")) (consA (varD 2) nilA))) (consA (tupD (consA (cD (.str "opened")) (consA (varD 3) nilA))) nilA)))) (tTup 2 (tCons (tName 5) (tCons (tName 6) tNil)))
    (forS (iterF (varD 6)) (tTup 2 (tCons (tName 7) (tCons (tName 8) tNil)))
    badS))
    (frzS 4 (retS (strM gJoin (cD (.str " ")) (varD 4)))))))
def F_show_calendar : List D → R D := defF 9 B_show_calendar
def B_show_route : Env → R Out :=
  (retS (ifD (truT (varD 0)) (strM gJoin (cD (.str " ")) (varD 0)) (cD (.str "."))))
def F_show_route : List D → R D := defF 1 B_show_route
def B_show_code : Env → R Out :=
  badS
def F_show_code : List D → R D := defF 2 B_show_code
def B_words_of : Env → R Out :=
  (seqS (ifS (notT (truT (isiD "str" (varD 0))))
    badS
    passS)
    badS)
def F_words_of : List D → R D := defF 1 B_words_of
def B_pick : Env → R Out :=
  (seqS (ifS (orT (blT (bin gGe (varD 1) (callD gLen (consA (varD 0) nilA)))) (blT (bin gNotInA (bin gIx (varD 0) (varD 1)) (varD 2))))
    badS
    passS)
    (retS (bin gIx (varD 2) (bin gIx (varD 0) (varD 1)))))
def F_pick : List D → R D := defF 3 B_pick
def B_read_spans : Env → R Out :=
  (seqS (setO 3 (dispL nilA))
    (seqS (whileS (andT (blT (bin gLt (ownLen 3) (cD (.int 2)))) (blT (bin gEq (slD gSl (varD 0) (part (varD 1)) (part (bin gAdd (varD 1) (cD (.int 1))))) (lstD (dispL (consA (varD 2) nilA))))))
    (seqS badS
    (seqS (frzS 3 (setS 5 (lstD (compD (rngI (consA (varD 4) (consA (bin gAdd (cD (.int 30)) (cD (.int 1))) nilA))) (tName 6) (orT (notT (truT (varD 3))) (blT (bin gLt (ownIx 3 (un gNeg (cD (.int 1)))) (tupD (consA (varD 4) (consA (varD 6) nilA)))))) (varD 6) [6]))))
    (seqS badS
    (augS 1 gAddI (cD (.int 3)))))))
    (retS (tupD (consA (ownTup 3) (consA (varD 1) nilA))))))
def F_read_spans : List D → R D := defF 7 B_read_spans
def B_need_end : Env → R Out :=
  (ifS (blT (bin gLt (varD 1) (callD gLen (consA (varD 0) nilA))))
    badS
    passS)
def F_need_end : List D → R D := defF 2 B_need_end
def B_read_calendar : Env → R Out :=
  (seqS (setS 1 (callF 1 F_words_of (consA (varD 0) nilA)))
    (seqS (ifS (notT (truT (callF 1 F_is_pattern (consA (bin gIx (varD 1) (cD (.int 0))) nilA))))
    badS
    passS)
    (seqS (asgS (callF 3 F_read_spans (consA (varD 1) (consA (cD (.int 1)) (consA (cD (.str "closed")) nilA)))) (tTup 2 (tCons (tName 2) (tCons (tName 3) tNil))))
    (seqS (asgS (callF 3 F_read_spans (consA (varD 1) (consA (varD 3) (consA (cD (.str "opened")) nilA)))) (tTup 2 (tCons (tName 4) (tCons (tName 3) tNil))))
    (seqS (dropS (callF 2 F_need_end (consA (varD 1) (consA (varD 3) nilA))))
    (retS (tupD (consA (bin gIx (varD 1) (cD (.int 0))) (consA (varD 2) (consA (varD 4) nilA))))))))))
def F_read_calendar : List D → R D := defF 5 B_read_calendar
def B_read_letters : Env → R Out :=
  (seqS (ifS (blT (bin gEq (slD gSl (varD 0) (part (varD 1)) (part (bin gAdd (varD 1) (cD (.int 1))))) (lstD (dispL (consA (cD (.str ".")) nilA)))))
    (retS (tupD (consA (tupD nilA) (consA (bin gAdd (varD 1) (cD (.int 1))) nilA))))
    passS)
    (seqS badS
    (seqS (augS 1 gAddI (cD (.int 1)))
    (seqS (whileS (andT (blT (bin gLt (varD 1) (callD gLen (consA (varD 0) nilA)))) (andT (blT (bin gLt (ownLen 3) (cD (.int 8)))) (blT (bin gInA (bin gIx (varD 0) (varD 1)) (varD 2)))))
    (seqS (appS 3 (bin gIx (varD 0) (varD 1)))
    (augS 1 gAddI (cD (.int 1)))))
    (retS (tupD (consA (ownTup 3) (consA (varD 1) nilA))))))))
def F_read_letters : List D → R D := defF 5 B_read_letters
def B_read_route : Env → R Out :=
  (seqS (setS 1 (callF 1 F_words_of (consA (varD 0) nilA)))
    (seqS (asgS (callF 3 F_read_letters (consA (varD 1) (consA (cD (.int 0)) (consA (lstD (listF (cD (.str "abcdefghijklmnopqrstuvwxyz+")))) nilA)))) (tTup 2 (tCons (tName 2) (tCons (tName 3) tNil))))
    (seqS (dropS (callF 2 F_need_end (consA (varD 1) (consA (varD 3) nilA))))
    (retS (varD 2)))))
def F_read_route : List D → R D := defF 4 B_read_route
def B_read_code : Env → R Out :=
  (seqS (dropS (callF 1 F_need_scheme (consA (varD 0) nilA)))
    (seqS (ifS (notT (truT (isiD "str" (varD 1))))
    badS
    passS)
    (seqS (asgS (varD 0) (tTup 4 (tCons (tName 2) (tCons (tName 3) (tCons (tName 4) (tCons (tName 3) tNil))))))
    (seqS (setS 5 (lstD (listF (varD 1))))
    (seqS badS
    (seqS (setS 7 (callD gTuple (consA (lstD (compD (rngI (consA (callD gLen (consA (varD 4) nilA)) nilA)) (tName 9) yesT (callF 3 F_pick (consA (varD 5) (consA (varD 9) (consA (varD 6) nilA)))) [9])) nilA)))
    (seqS (dropS (callF 2 F_need_end (consA (varD 5) (consA (callD gLen (consA (varD 7) nilA)) nilA))))
    (retS (varD 7)))))))))
def F_read_code : List D → R D := defF 10 B_read_code
def B_show_part : Env → R Out :=
  badS
def F_show_part : List D → R D := defF 1 B_show_part
def B_show_deed : Env → R Out :=
  (retS (strM gJoin (cD (.str " ")) (bin gAdd (lstD (dispL (consA (bin gIx (varD 0) (cD (.int 0))) nilA))) (lstD (compD (iterF (slD gSl (varD 0) (part (cD (.int 1))) noPart)) (tName 1) yesT (callF 1 F_show_part (consA (varD 1) nilA)) [1])))))
def F_show_deed : List D → R D := defF 2 B_show_deed
def B_choices : Env → R Out :=
  (seqS (ifS (blT (bin gEq (varD 1) (cD (.str "who"))))
    badS
    passS)
    (seqS badS
    (seqS badS
    badS)))
def F_choices : List D → R D := defF 7 B_choices
def B_read_parts : Env → R Out :=
  (seqS badS
    (seqS badS
    (seqS badS
    (retS (tupD (consA (ownTup 4) (consA (bin gAdd (varD 2) (cD (.int 1))) nilA)))))))
def F_read_parts : List D → R D := defF 7 B_read_parts
def B_read_deed : Env → R Out :=
  (seqS (dropS (callF 1 F_need_office (consA (varD 0) nilA)))
    (seqS (setS 2 (callF 1 F_words_of (consA (varD 1) nilA)))
    (seqS (asgS (callF 3 F_read_parts (consA (bin gIx (varD 0) (cD (.int 0))) (consA (varD 2) (consA (cD (.int 0)) nilA)))) (tTup 2 (tCons (tName 3) (tCons (tName 4) tNil))))
    (seqS (dropS (callF 2 F_need_end (consA (varD 2) (consA (varD 4) nilA))))
    (retS (varD 3))))))
def F_read_deed : List D → R D := defF 5 B_read_deed
def B_show_plan : Env → R Out :=
  (retS (ifD (truT (varD 0)) (strM gJoin (cD (.str " ; ")) (lstD (compD (iterF (varD 0)) (tTup 2 (tCons (tName 1) (tCons (tName 2) tNil))) yesT (jsD [(fmtD (callF 1 F_show_deed (consA (varD 1) nilA))), (cD (.str " : ")), (fmtD (callF 1 F_show_route (consA (varD 2) nilA)))] Str.empty) [1, 2]))) (cD (.str "none"))))
def F_show_plan : List D → R D := defF 3 B_show_plan
def B_read_step : Env → R Out :=
  (seqS (asgS (callF 3 F_read_parts (consA (bin gIx (varD 0) (cD (.int 0))) (consA (varD 1) (consA (varD 2) nilA)))) (tTup 2 (tCons (tName 3) (tCons (tName 2) tNil))))
    (seqS (dropS (callF 3 F_pick (consA (varD 1) (consA (varD 2) (consA (cD (.dict [(kD (.inr ":"), .str ":")])) nilA)))))
    (seqS (setS 4 (lstD (compD (iterF (bin gIx (varD 0) (cD (.int 2)))) (tTup 2 (tCons (tName 6) (tCons (tName 7) tNil))) yesT (varD 6) [6, 7])))
    (seqS (asgS (callF 3 F_read_letters (consA (varD 1) (consA (bin gAdd (varD 2) (cD (.int 1))) (consA (bin gAdd (varD 4) (lstD (dispL (consA (cD (.str "+")) nilA)))) nilA)))) (tTup 2 (tCons (tName 5) (tCons (tName 2) tNil))))
    (retS (tupD (consA (tupD (consA (varD 3) (consA (varD 5) nilA))) (consA (varD 2) nilA))))))))
def F_read_step : List D → R D := defF 8 B_read_step
def B_read_plan : Env → R Out :=
  (seqS (dropS (callF 1 F_need_office (consA (varD 0) nilA)))
    (seqS (setS 2 (callF 1 F_words_of (consA (varD 1) nilA)))
    (seqS (ifS (blT (bin gEq (bin gIx (varD 2) (cD (.int 0))) (cD (.str "none"))))
    (seqS (dropS (callF 2 F_need_end (consA (varD 2) (consA (cD (.int 1)) nilA))))
    (retS (tupD nilA)))
    passS)
    (seqS (asgS (callF 3 F_read_step (consA (varD 0) (consA (varD 2) (consA (cD (.int 0)) nilA)))) (tTup 2 (tCons (tName 3) (tCons (tName 4) tNil))))
    (seqS (setO 5 (dispL (consA (varD 3) nilA)))
    (seqS (whileS (blT (bin gLt (varD 4) (callD gLen (consA (varD 2) nilA))))
    (seqS (ifS (orT (blT (bin gEq (ownLen 5) (cD (.int 8)))) (blT (bin gNe (bin gIx (varD 2) (varD 4)) (cD (.str ";")))))
    badS
    passS)
    (seqS (asgS (callF 3 F_read_step (consA (varD 0) (consA (varD 2) (consA (bin gAdd (varD 4) (cD (.int 1))) nilA)))) (tTup 2 (tCons (tName 3) (tCons (tName 4) tNil))))
    (appS 5 (varD 3)))))
    (retS (ownTup 5))))))))
def F_read_plan : List D → R D := defF 6 B_read_plan
def B_integer_told : Env → R Out :=
  (seqS (setS 1 (ifD (blT (bin gEq (slD gSl (varD 0) noPart (part (cD (.int 1)))) (cD (.str "-")))) (slD gSl (varD 0) (part (cD (.int 1))) noPart) (varD 0)))
    (seqS (ifS (orT (notT (blT (chainD gLe gLe (cD (.int 1)) (callD gLen (consA (varD 1) nilA)) (cD (.int 30))))) (notT (truT (callD gAll (consA (lstD (compD (iterF (varD 1)) (tName 2) yesT (bin gInA (varD 2) (cD (.str "0123456789"))) [2])) nilA)))))
    (retS (cD .none))
    passS)
    (retS (ifD (andT (blT (bin gEq (bin gIx (varD 1) (cD (.int 0))) (cD (.str "0")))) (blT (bin gNe (varD 0) (cD (.str "0"))))) (cD .none) (callD gInt (consA (varD 0) nilA))))))
def F_integer_told : List D → R D := defF 3 B_integer_told
def B_part_told : Env → R Out :=
  (seqS badS
    (seqS (ifS (blT (bin gEq (varD 0) (cD (.str "day"))))
    (retS (callF 1 F_integer_told (consA (varD 1) nilA)))
    passS)
    (seqS (ifS (andT (blT (bin gEq (varD 0) (cD (.str "digit")))) (blT (bin gEq (callD gLen (consA (varD 1) nilA)) (cD (.int 1)))))
    (retS (callF 1 F_integer_told (consA (varD 1) nilA)))
    passS)
    (seqS badS
    (retS (cD .none))))))
def F_part_told : List D → R D := defF 3 B_part_told
def B_read_row : Env → R Out :=
  (seqS (ifS (notT (truT (isiD "str" (varD 0))))
    (raiseS "BadCommand" (cD (.str "a row is a text")))
    passS)
    (seqS badS
    (seqS badS
    (seqS badS
    (seqS (setS 4 (bin gSub (callD gLen (consA (varD 3) nilA)) (cD (.int 1))))
    (seqS (ifS (andT (blT (bin gEq (slD gSl (varD 3) (part (un gNeg (cD (.int 1)))) noPart) (tupD (consA (cD (.str "text")) nilA)))) (blT (bin gGt (callD gLen (consA (varD 2) nilA)) (varD 4))))
    (setS 2 (bin gAdd (slD gSl (varD 2) noPart (part (varD 4))) (lstD (dispL (consA (strM gJoin (cD (.str " ")) (slD gSl (varD 2) (part (varD 4)) noPart)) nilA)))))
    passS)
    (seqS (ifS (blT (bin gEq (slD gSl (varD 3) (part (un gNeg (cD (.int 1)))) noPart) (tupD (consA (cD (.str "digits")) nilA))))
    (setS 3 (bin gAdd (slD gSl (varD 3) noPart (part (varD 4))) (bin gMulA (tupD (consA (cD (.str "digit")) nilA)) (bin gSub (callD gLen (consA (varD 2) nilA)) (varD 4)))))
    passS)
    (seqS (setS 5 (lstD (compD (zipG (consA (varD 3) (consA (varD 2) nilA))) (tTup 2 (tCons (tName 6) (tCons (tName 7) tNil))) yesT (callF 2 F_part_told (consA (varD 6) (consA (varD 7) nilA))) [6, 7])))
    (seqS (ifS (orT (blT (bin gNe (callD gLen (consA (varD 3) nilA)) (callD gLen (consA (varD 2) nilA)))) (blT (bin gInA (cD .none) (varD 5))))
    (raiseS "BadCommand" (cD (.str "the row is not of the form of its first word")))
    passS)
    (retS (tupD (consA (varD 1) (consA (varD 5) nilA)))))))))))))
def F_read_row : List D → R D := defF 8 B_read_row
def B_begun_anew : Env → R Out :=
  badS
def F_begun_anew : List D → R D := defF 2 B_begun_anew
def B_set_calendar : Env → R Out :=
  (seqS (asgS (varD 1) (tTup 2 (tCons (tName 2) (tCons (tName 3) tNil))))
    (seqS (setS 4 (callF 1 F_read_calendar (consA (varD 3) nilA)))
    (seqS badS
    (seqS (setS 8 (lstD (compD (iterF (varD 7)) (tName 9) (blT (bin gNe (bin gIx (varD 9) (cD (.int 0))) (varD 2))) (varD 9) [9])))
    (seqS (ifS (blT (bin gEq (callD gLen (consA (varD 8) nilA)) (cD (.int 4))))
    (raiseS "TooMany" (jsD [(cD (.str "a book has at most ")), (fmtD (cD (.int 4))), (cD (.str " names"))] Str.empty))
    passS)
    (retS (callF 2 F_begun_anew (consA (varD 0) (consA (tupD (consA (varD 5) (consA (varD 6) (consA (callD gTuple (consA (lstD (sortG (bin gAdd (varD 8) (lstD (dispL (consA (tupD (consA (varD 2) (consA (varD 4) nilA))) nilA)))))) nilA)) nilA)))) nilA)))))))))
def F_set_calendar : List D → R D := defF 10 B_set_calendar
def B_set_house : Env → R Out :=
  (seqS badS
    (seqS (setS 4 (tupD (consA (varD 2) (consA (callD gTuple (consA (varD 3) nilA)) (consA (bin gMulA (tupD (consA (cD (.bool false)) nilA)) (bin gAdd (callD gLen (consA (varD 3) nilA)) (cD (.int 1)))) (consA (tupD nilA) (consA (tupD nilA) nilA)))))))
    (seqS (dropS (callF 1 F_need_house (consA (varD 4) nilA)))
    (seqS badS
    (retS (callF 2 F_begun_anew (consA (varD 0) (consA (tupD (consA (varD 4) (consA (varD 6) (consA (varD 7) nilA)))) nilA))))))))
def F_set_house : List D → R D := defF 8 B_set_house
def B_set_mode : Env → R Out :=
  (seqS (asgS (varD 1) (tTup 4 (tCons (tName 2) (tCons (tName 3) (tCons (tName 4) (tCons (tName 5) tNil))))))
    (seqS badS
    (retS (callF 2 F_begun_anew (consA (varD 0) (consA (tupD (consA (varD 6) (consA (tupD (consA (varD 2) (consA (varD 3) (consA (varD 4) (consA (bin gEq (varD 5) (cD (.str "deep"))) nilA))))) (consA (varD 8) nilA)))) nilA))))))
def F_set_mode : List D → R D := defF 9 B_set_mode
def B_start : Env → R Out :=
  badS
def F_start : List D → R D := defF 2 B_start
def B_start_again : Env → R Out :=
  (seqS badS
    badS)
def F_start_again : List D → R D := defF 3 B_start_again
def B_wait : Env → R Out :=
  (seqS (setS 2 (callF 1 F_read_route (consA (bin gIx (varD 1) (cD (.int 0))) nilA)))
    badS)
def F_wait : List D → R D := defF 3 B_wait
def B_do : Env → R Out :=
  (seqS badS
    (retS (tupD (consA (varD 0) (consA (cD (.str "ok")) nilA)))))
def F_do : List D → R D := defF 2 B_do
def B_undo : Env → R Out :=
  (seqS badS
    (retS (tupD (consA (varD 0) (consA (cD (.str "ok")) nilA)))))
def F_undo : List D → R D := defF 2 B_undo
def B_show_sources : Env → R Out :=
  (retS (orD (strM gJoin (cD (.str " ")) (lstD (compD (iterF (varD 0)) (tTup 2 (tCons (tName 1) (tCons (tName 2) tNil))) yesT (jsD [(fmtD (bin gIx (varD 1) (cD (.int 0)))), (fmtD (varD 2))] Str.empty) [1, 2]))) (cD (.str "empty"))))
def F_show_sources : List D → R D := defF 3 B_show_sources
def B_look : Env → R Out :=
  (seqS (asgS (varD 1) (tTup 3 (tCons (tName 2) (tCons (tName 3) (tCons (tName 4) tNil)))))
    (seqS badS
    (retS (tupD (consA (varD 0) (consA (ifD (blT (bin gIs (varD 5) (cD .none))) (cD (.str "barred")) (callF 1 F_show_sources (consA (varD 5) nilA))) nilA))))))
def F_look : List D → R D := defF 6 B_look
def B_list : Env → R Out :=
  (seqS (asgS (varD 1) (tTup 2 (tCons (tName 2) (tCons (tName 3) tNil))))
    (seqS badS
    badS))
def F_list : List D → R D := defF 4 B_list
def B_who : Env → R Out :=
  (seqS (setS 2 (bin gIx (varD 1) (cD (.int 0))))
    (seqS badS
    (seqS (dropS (callF 2 F_need_folder (consA (callF 1 F_size_of (consA (varD 3) nilA)) (consA (varD 2) nilA))))
    badS)))
def F_who : List D → R D := defF 5 B_who
def B_why : Env → R Out :=
  (seqS (asgS (varD 1) (tTup 2 (tCons (tName 2) (tCons (tName 3) tNil))))
    (seqS badS
    badS))
def F_why : List D → R D := defF 7 B_why
def B_can : Env → R Out :=
  (seqS (asgS (varD 1) (tTup 3 (tCons (tName 2) (tCons (tName 3) (tCons (tName 4) tNil)))))
    (seqS badS
    (seqS badS
    (seqS (dropS (callF 1 F_need_path (consA (varD 3) nilA)))
    (seqS badS
    (seqS badS
    badS))))))
def F_can : List D → R D := defF 7 B_can
def B_order : Env → R Out :=
  (seqS (dropS (callF 1 F_need_day (consA (bin gIx (varD 1) (cD (.int 0))) nilA)))
    (seqS badS
    badS))
def F_order : List D → R D := defF 4 B_order
def B_find : Env → R Out :=
  (seqS badS
    (retS (tupD (consA (varD 0) (consA (orD (strM gJoin (cD (.str " ; ")) (lstD (compD (iterF (varD 2)) (tTup 2 (tCons (tName 3) (tCons (tName 4) tNil))) yesT (jsD [(cD (.str "w")), (fmtD (varD 3)), (cD (.str " ")), (fmtD (varD 4))] Str.empty) [3, 4]))) (cD (.str "none"))) nilA)))))
def F_find : List D → R D := defF 5 B_find
def B_plan : Env → R Out :=
  badS
def F_plan : List D → R D := defF 2 B_plan
def B_day : Env → R Out :=
  badS
def F_day : List D → R D := defF 2 B_day
end DL
namespace DL
open PySem PySem.Spec PyProof.Rows L2
section
variable {env : Env} {fu : Nat} {E : Nat → Er → Prop} {QO : Nat → Out → Prop} {QD Q : Nat → D → Prop} {QB : Nat → Bool → Prop} {QL : Nat → List D → Prop} {QE : Nat → Env → Prop} {QI : Nat → Option Int → Prop}
  {fa fb fc : Env → R D} {ft fz : Env → R Bool} {fr fk : Env → R (List D)} {f g : Env → R Out} {i j n : Nat} {d x y z : D} {ds es : List D} {b : Bool}
def SqK (g : Env → R Out) (Q : Nat → Out → Prop) (E : Nat → Er → Prop) : Nat → Out → Prop := fun fu o => match o with
  | .nx e => (g e).wp fu Q E
  | o => Q fu o
theorem bndI {α β : Type} {m : R α} {f : α → R β} {Q : Nat → β → Prop} (h : m.wp fu (fun fu a => (f a).wp fu Q E) E) : (m.bind f).wp fu Q E := (R.wp_bind _ _ _ _ _).mpr h
theorem bthI {α β : Type} {m : R α} {f : α → R β} {g : Er → R β} {Q : Nat → β → Prop} (h : m.wp fu (fun fu a => (f a).wp fu Q E) (fun fu e => (g e).wp fu Q E)) : (m.both f g).wp fu Q E := (R.wp_both _ _ _ _ _ _).mpr h
theorem v_seq (h : (f env).wp fu (SqK g QO E) E) : (seqS f g env).wp fu QO E := bndI (R.wp_mono h (fun fu o h => by cases o <;> exact h) fun _ _ h => h)
theorem v_nx {e : Env} (h : (g e).wp fu QO E) : SqK g QO E fu (.nx e) := h
theorem v_rt (h : QO fu (.rt d)) : SqK g QO E fu (.rt d) := h
theorem v_rl (h : QO fu (.rl ds)) : SqK g QO E fu (.rl ds) := h
theorem v_bk {e : Env} (h : QO fu (.bk e)) : SqK g QO E fu (.bk e) := h
theorem v_ct {e : Env} (h : QO fu (.ct e)) : SqK g QO E fu (.ct e) := h
theorem v_ex {e : Env} {er : Er} (h : QO fu (.ex e er)) : SqK g QO E fu (.ex e er) := h
abbrev XO (QO : Nat → Out → Prop) (env : Env) : Nat → Er → Prop := fun fu er => QO fu (.ex env er)
theorem v_set (h : (fa env).wp fu (fun fu d => QO fu (.nx (env.set i (some (.val d))))) (XO QO env)) : (setS i fa env).wp fu QO E := bthI (R.wp_mono h (fun _ _ h => h) fun _ _ h => h)
theorem v_setO (h : (fr env).wp fu (fun fu d => QO fu (.nx (env.set i (some (.own d))))) (XO QO env)) : (setO i fr env).wp fu QO E := bthI (R.wp_mono h (fun _ _ h => h) fun _ _ h => h)
theorem v_ret (h : (fa env).wp fu (fun fu d => QO fu (.rt d)) (XO QO env)) : (retS fa env).wp fu QO E := bthI (R.wp_mono h (fun _ _ h => h) fun _ _ h => h)
theorem v_retO (he : env[i]? = some (some (.own es))) (h : QO fu (.rl es)) : (retO i env).wp fu QO E := by unfold retO; rw [he]; exact h
theorem v_retOv (he : env[i]? = some (some (.val d))) (h : QO fu (.rt d)) : (retO i env).wp fu QO E := by unfold retO; rw [he]; exact h
theorem v_retL (h : (fr env).wp fu (fun fu d => QO fu (.rl d)) (XO QO env)) : (retL fr env).wp fu QO E := bthI (R.wp_mono h (fun _ _ h => h) fun _ _ h => h)
theorem v_retN (h : QO fu (.rt .none)) : (retN env).wp fu QO E := h
theorem v_drop (h : (fa env).wp fu (fun fu _ => QO fu (.nx env)) (XO QO env)) : (dropS fa env).wp fu QO E := bthI (R.wp_mono h (fun _ _ h => h) fun _ _ h => h)
theorem v_pass (h : QO fu (.nx env)) : (passS env).wp fu QO E := h
theorem v_brk (h : QO fu (.bk env)) : (brkS env).wp fu QO E := h
theorem v_ct' (h : QO fu (.ct env)) : (ctS env).wp fu QO E := h
theorem v_if (h : (ft env).wp fu (fun fu k => if k = true then (f env).wp fu QO E else (g env).wp fu QO E) (XO QO env)) : (ifS ft f g env).wp fu QO E := bthI (R.wp_mono h (fun fu k h => by
  show (if k = true then f env else g env : R Out).wp fu QO E
  cases k with
  | true => rw [if_pos rfl] at h ⊢; exact h
  | false => rw [if_neg (by decide)] at h ⊢; exact h) fun _ _ h => h)
theorem v_asg {tg : D → Env → R Env} (h : (fa env).wp fu (fun fu d => (tg d env).wp fu (fun fu e => QO fu (.nx e)) E) (XO QO env)) : (asgS fa tg env).wp fu QO E := bthI (R.wp_mono h (fun _ _ h => bndI (R.wp_mono h (fun _ _ h => h) fun _ _ h => h)) fun _ _ h => h)
theorem v_tName (h : QE fu (env.set i (some (.val d)))) : (tName i d env).wp fu QE E := h
theorem v_tTup {u : List D → Env → R Env} (h1 : ds.length = n) (h : (u ds env).wp fu QE E) : (tTup n u (.tuple ds) env).wp fu QE E := wp_guard.mpr ⟨decide_eq_true h1, h⟩
theorem v_tCons {t : D → Env → R Env} {u : List D → Env → R Env} (h : (t d env).wp fu (fun fu e => (u ds e).wp fu QE E) E) : (tCons t u (d :: ds) env).wp fu QE E := bndI h
theorem v_tNil (h : QE fu env) : (tNil [] env).wp fu QE E := h
theorem v_frz {e : Env} (he : frzE i env = e) (h : (f e).wp fu QO E) : (frzS i f env).wp fu QO E := by unfold frzS; rw [he]; exact h
theorem v_app (he : env[i]? = some (some (.own es))) (h : (fa env).wp fu (fun fu d => es.length < 16777216 ∧ QO fu (.nx (env.set i (some (.own (es ++ [d])))))) (XO QO env)) : (appS i fa env).wp fu QO E := by
  unfold appS
  rw [he]
  exact bthI (R.wp_mono h (fun _ _ h => wp_guard.mpr ⟨decide_eq_true h.1, h.2⟩) fun _ _ h => h)
theorem v_put {fe fk : Env → R D} (h : (fe env).wp fu (fun fu d => ∃ es, env[i]? = some (some (.own es)) ∧ (fk env).wp fu (fun fu k => ∃ j m, k = .int j ∧ ixN es.length j = some m ∧ QO fu (.nx (env.set i (some (.own (es.set m d)))))) (XO QO env)) (XO QO env)) : (putS i fe fk env).wp fu QO E := by
  refine bthI (R.wp_mono h (fun fu d ⟨es, he, h⟩ => ?_) fun _ _ h => h)
  dsimp only
  rw [he]
  refine bthI (R.wp_mono h (fun fu k ⟨j, m, e1, e2, h⟩ => ?_) fun _ _ h => h)
  subst e1
  show (match ixN es.length j with | some m => R.ret (Out.nx (env.set i (some (.own (es.set m d))))) | none => R.bad).wp fu QO E
  rw [e2]; exact h
theorem v_par {fr : Env → R (List D)} (h : (fr env).wp fu (fun fu ds => ∃ x y, ds = [x, y] ∧ QO fu (.nx ((env.set i (some (.val x))).set j (some (.val y))))) (XO QO env)) : (parS i j fr env).wp fu QO E := bthI (R.wp_mono h (fun fu ds ⟨x, y, e, h⟩ => by subst e; exact h) fun _ _ h => h)
theorem v_aug {gg : D → D → R D} (he : env[i]? = some (some (.val x))) (h : (fa env).wp fu (fun fu y => (gg x y).wp fu (fun fu z => QO fu (.nx (env.set i (some (.val z))))) (XO QO env)) (XO QO env)) : (augS i gg fa env).wp fu QO E := by
  unfold augS
  rw [he]
  exact bthI (R.wp_mono h (fun _ _ h => bthI (R.wp_mono h (fun _ _ h => h) fun _ _ h => h)) fun _ _ h => h)
theorem v_raise {nm : Str} (h : (fa env).wp fu (fun fu _ => QO fu (.ex env ⟨nm, []⟩)) (XO QO env)) : (raiseS nm fa env).wp fu QO E := bthI (R.wp_mono h (fun _ _ h => h) fun _ _ h => h)
/-- a try -/
def TrK (hs : List ((Str → Option Bool) × (Env → R Out))) (Q : Nat → Out → Prop) (E : Nat → Er → Prop) : Nat → Out → Prop := fun fu o => match o with
  | .ex e er => (handle hs e er).wp fu Q E
  | o => Q fu o
theorem v_try {hs : List ((Str → Option Bool) × (Env → R Out))} (h : (f env).wp fu (TrK hs QO E) E) : (tryS f hs env).wp fu QO E := bndI (R.wp_mono h (fun fu o h => by cases o <;> exact h) fun _ _ h => h)
theorem v_trN {hs : List ((Str → Option Bool) × (Env → R Out))} {e : Env} (h : QO fu (.nx e)) : TrK hs QO E fu (.nx e) := h
theorem v_trR {hs : List ((Str → Option Bool) × (Env → R Out))} (h : QO fu (.rt d)) : TrK hs QO E fu (.rt d) := h
theorem v_trL {hs : List ((Str → Option Bool) × (Env → R Out))} (h : QO fu (.rl ds)) : TrK hs QO E fu (.rl ds) := h
theorem v_trX {hs : List ((Str → Option Bool) × (Env → R Out))} {e : Env} {er : Er} (h : (handle hs e er).wp fu QO E) : TrK hs QO E fu (.ex e er) := h
/-- a suite's end -/
def SuK (Q : Nat → Out → Prop) : Nat → Out → Prop := fun fu o => match o with
  | .ex _ _ => False
  | o => Q fu o
theorem v_hdY {t : Str → Option Bool} {fs : List ((Str → Option Bool) × (Env → R Out))} {e : Env} {er : Er} (ht : t er.cls = some true) (h : (f e).wp fu (SuK QO) E) : (handle ((t, f) :: fs) e er).wp fu QO E := by
  show (match t er.cls with | some true => (f e).bind (fun o => match o with | .ex _ _ => R.bad | o => .ret o) | some false => handle fs e er | none => R.bad).wp fu QO E
  rw [ht]
  exact bndI (R.wp_mono h (fun fu o h => by cases o <;> exact h) fun _ _ h => h)
theorem v_hdN {t : Str → Option Bool} {fs : List ((Str → Option Bool) × (Env → R Out))} {e : Env} {er : Er} (ht : t er.cls = some false) (h : (handle fs e er).wp fu QO E) : (handle ((t, f) :: fs) e er).wp fu QO E := by
  show (match t er.cls with | some true => (f e).bind (fun o => match o with | .ex _ _ => R.bad | o => .ret o) | some false => handle fs e er | none => R.bad).wp fu QO E
  rw [ht]; exact h
theorem v_hd0 {e : Env} {er : Er} (h : QO fu (.ex e er)) : (handle [] e er).wp fu QO E := h
theorem v_suN {e : Env} (h : QO fu (.nx e)) : SuK QO fu (.nx e) := h
theorem v_suL (h : QO fu (.rl ds)) : SuK QO fu (.rl ds) := h
theorem v_suR (h : QO fu (.rt d)) : SuK QO fu (.rt d) := h
theorem v_var (h : env[i]? = some (some (.val d))) (k : QD fu d) : (varD i env).wp fu QD E := by unfold varD; rw [h]; exact k
theorem v_c (k : QD fu d) : (cD d env).wp fu QD E := k
theorem v_bin {g : D → D → R D} (h : (fa env).wp fu (fun fu x => (fb env).wp fu (fun fu y => (g x y).wp fu QD E) E) E) : (bin g fa fb env).wp fu QD E := bndI (R.wp_mono h (fun _ _ h => bndI h) fun _ _ h => h)
theorem v_un {g : D → R D} (h : (fa env).wp fu (fun fu x => (g x).wp fu QD E) E) : (un g fa env).wp fu QD E := bndI h
theorem v_chain {g g' : D → D → R D} (h : (fa env).wp fu (fun fu x => (fb env).wp fu (fun fu y => (g x y).wp fu (fun fu z => ∃ k, z = .bool k ∧ if k = true then (fc env).wp fu (fun fu u => (g' y u).wp fu QD E) E else QD fu (.bool false)) E) E) E) : (chainD g g' fa fb fc env).wp fu QD E :=
  bndI (R.wp_mono h (fun _ _ h => bndI (R.wp_mono h (fun _ _ h => bndI (R.wp_mono h (fun fu z ⟨k, e, h⟩ => by
    subst e
    refine bndI ?_
    show (if k = true then _ else _ : R D).wp fu QD E
    cases k with
    | true => rw [if_pos rfl] at h ⊢; exact bndI h
    | false => rw [if_neg (by decide)] at h ⊢; exact h) fun _ _ h => h)) fun _ _ h => h)) fun _ _ h => h)
theorem v_and (h : (fa env).wp fu (fun fu x => (truD x).wp fu (fun fu k => if k = true then (fb env).wp fu QD E else QD fu x) E) E) : (andD fa fb env).wp fu QD E := bndI (R.wp_mono h (fun fu x h => bndI (R.wp_mono h (fun fu k h => by
  cases k with
  | true => rw [if_pos rfl] at h ⊢; exact h
  | false => rw [if_neg (by decide)] at h ⊢; exact h) fun _ _ h => h)) fun _ _ h => h)
theorem v_or (h : (fa env).wp fu (fun fu x => (truD x).wp fu (fun fu k => if k = true then QD fu x else (fb env).wp fu QD E) E) E) : (orD fa fb env).wp fu QD E := bndI (R.wp_mono h (fun fu x h => bndI (R.wp_mono h (fun fu k h => by
  cases k with
  | true => rw [if_pos rfl] at h ⊢; exact h
  | false => rw [if_neg (by decide)] at h ⊢; exact h) fun _ _ h => h)) fun _ _ h => h)
theorem v_not (h : (fa env).wp fu (fun fu x => (truD x).wp fu (fun fu k => QD fu (.bool (!k))) E) E) : (notD fa env).wp fu QD E := bndI (R.wp_mono h (fun fu x h => bndI (R.wp_mono h (fun _ _ h => h) fun _ _ h => h)) fun _ _ h => h)
theorem v_ife (h : (ft env).wp fu (fun fu k => if k = true then (fa env).wp fu QD E else (fb env).wp fu QD E) E) : (ifD ft fa fb env).wp fu QD E := bndI (R.wp_mono h (fun fu k h => by
  cases k with
  | true => rw [if_pos rfl] at h ⊢; exact h
  | false => rw [if_neg (by decide)] at h ⊢; exact h) fun _ _ h => h)
theorem v_tru (h : (fa env).wp fu (fun fu x => (truD x).wp fu QB E) E) : (truT fa env).wp fu QB E := bndI h
theorem v_blT (h : (fa env).wp fu (fun fu x => ∃ k, x = .bool k ∧ QB fu k) E) : (blT fa env).wp fu QB E := bndI (R.wp_mono h (fun fu x ⟨k, e, h⟩ => by subst e; exact h) fun _ _ h => h)
theorem v_andT (h : (ft env).wp fu (fun fu k => if k = true then (fz env).wp fu QB E else QB fu false) E) : (andT ft fz env).wp fu QB E := bndI (R.wp_mono h (fun fu k h => by
  cases k with
  | true => rw [if_pos rfl] at h ⊢; exact h
  | false => rw [if_neg (by decide)] at h ⊢; exact h) fun _ _ h => h)
theorem v_orT (h : (ft env).wp fu (fun fu k => if k = true then QB fu true else (fz env).wp fu QB E) E) : (orT ft fz env).wp fu QB E := bndI (R.wp_mono h (fun fu k h => by
  cases k with
  | true => rw [if_pos rfl] at h ⊢; exact h
  | false => rw [if_neg (by decide)] at h ⊢; exact h) fun _ _ h => h)
theorem v_notT (h : (ft env).wp fu (fun fu k => QB fu (!k)) E) : (notT ft env).wp fu QB E := bndI (R.wp_mono h (fun _ _ h => h) fun _ _ h => h)
theorem v_yes (h : QB fu true) : (yesT env).wp fu QB E := h
theorem v_nil (h : QL fu []) : (nilA env).wp fu QL E := h
theorem v_cons (h : (fa env).wp fu (fun fu x => (fr env).wp fu (fun fu r => QL fu (x :: r)) E) E) : (consA fa fr env).wp fu QL E := bndI (R.wp_mono h (fun _ _ h => bndI (R.wp_mono h (fun _ _ h => h) fun _ _ h => h)) fun _ _ h => h)
theorem v_tup (h : (fr env).wp fu (fun fu ds => ds.length ≤ 16777216 ∧ QD fu (.tuple ds)) E) : (tupD fr env).wp fu QD E := bndI (R.wp_mono h (fun _ _ h => wp_guard.mpr ⟨decide_eq_true h.1, h.2⟩) fun _ _ h => h)
theorem v_disp (h : (fr env).wp fu (fun fu ds => ds.length ≤ 16777216 ∧ QL fu ds) E) : (dispL fr env).wp fu QL E := bndI (R.wp_mono h (fun _ _ h => wp_guard.mpr ⟨decide_eq_true h.1, h.2⟩) fun _ _ h => h)
theorem v_lst (h : (fr env).wp fu (fun fu ds => QD fu (.list ds)) E) : (lstD fr env).wp fu QD E := bndI (R.wp_mono h (fun _ _ h => h) fun _ _ h => h)
theorem v_callD {g : List D → R D} (h : (fr env).wp fu (fun fu ds => (g ds).wp fu QD E) E) : (callD g fr env).wp fu QD E := bndI h
theorem v_call {F : List D → R D} (h : (fr env).wp fu (fun fu ds => ds.length = n ∧ (F ds).wp fu QD E) E) : (callF n F fr env).wp fu QD E := bndI (R.wp_mono h (fun _ _ h => wp_guard.mpr ⟨decide_eq_true h.1, h.2⟩) fun _ _ h => h)
theorem v_callK {F : List D → R D} {perm} (h : (fr env).wp fu (fun fu ds => (fk env).wp fu (fun fu es => (gP perm ds es).length = n ∧ (F (gP perm ds es)).wp fu QD E) E) E) : (callK n F perm fr fk env).wp fu QD E :=
  bndI (R.wp_mono h (fun _ _ h => bndI (R.wp_mono h (fun _ _ h => wp_guard.mpr ⟨decide_eq_true h.1, h.2⟩) fun _ _ h => h)) fun _ _ h => h)
theorem v_callL {F : List D → R (List D)} (h : (fr env).wp fu (fun fu ds => ds.length = n ∧ (F ds).wp fu QL E) E) : (callL n F fr env).wp fu QL E := bndI (R.wp_mono h (fun _ _ h => wp_guard.mpr ⟨decide_eq_true h.1, h.2⟩) fun _ _ h => h)
theorem v_ownInF (he : env[i]? = some (some (.own es))) (h : (fa env).wp fu (fun fu x => (gInA x (.list es)).wp fu QD E) E) : (ownIn false i fa env).wp fu QD E := by
  unfold ownIn
  rw [he]
  exact bndI h
theorem v_ownInT (he : env[i]? = some (some (.own es))) (h : (fa env).wp fu (fun fu x => (gNotInA x (.list es)).wp fu QD E) E) : (ownIn true i fa env).wp fu QD E := by
  unfold ownIn
  rw [he]
  exact bndI h
theorem v_ownEqF (he : env[i]? = some (some (.own es))) (h : (fb env).wp fu (fun fu x => (gEq (.list es) x).wp fu QD E) E) : (ownEq false i fb env).wp fu QD E := by
  unfold ownEq
  rw [he]
  exact bndI h
theorem v_ownEqT (he : env[i]? = some (some (.own es))) (h : (fb env).wp fu (fun fu x => (gNe (.list es) x).wp fu QD E) E) : (ownEq true i fb env).wp fu QD E := by
  unfold ownEq
  rw [he]
  exact bndI h
theorem v_ownIsi {T : String} (he : env[i]? = some (some (.own es))) (h : (isiV T (.list es)).wp fu QD E) : (ownIsi T i env).wp fu QD E := by
  unfold ownIsi
  rw [he]; exact h
theorem v_ownIt (he : env[i]? = some (some (.own es))) (h : QL fu es) : (ownIt i env).wp fu QL E := by
  unfold ownIt
  rw [he]; exact h
theorem v_isi {T : String} (h : (fa env).wp fu (fun fu x => (isiV T x).wp fu QD E) E) : (isiD T fa env).wp fu QD E := bndI h
theorem v_list (h : (fa env).wp fu (fun fu x => (elems x).wp fu QL E) E) : (listF fa env).wp fu QL E := bndI h
theorem v_iter (h : (fa env).wp fu (fun fu x => (iterE x).wp fu QL E) E) : (iterF fa env).wp fu QL E := bndI h
theorem v_noPart (h : QI fu none) : (noPart env).wp fu QI E := h
theorem v_part (h : (fa env).wp fu (fun fu x => ∃ i, x = .int i ∧ QI fu (some i)) E) : (part fa env).wp fu QI E := bndI (R.wp_mono h (fun fu x ⟨i, e, h⟩ => by subst e; exact h) fun _ _ h => h)
theorem v_sl {g : D → Option Int → Option Int → R D} {fl fh : Env → R (Option Int)} (h : (fa env).wp fu (fun fu x => (fl env).wp fu (fun fu l => (fh env).wp fu (fun fu u => (g x l u).wp fu QD E) E) E) E) : (slD g fa fl fh env).wp fu QD E :=
  bndI (R.wp_mono h (fun _ _ h => bndI (R.wp_mono h (fun _ _ h => bndI h) fun _ _ h => h)) fun _ _ h => h)
theorem v_rng {fr : Env → R (List D)} (h : (fr env).wp fu (fun fu ds => ∃ i j, (ds = [.int j] ∧ i = 0 ∨ ds = [.int i, .int j]) ∧ rngOk i j = true ∧ QL fu (rngD i j)) E) : (rngI fr env).wp fu QL E := bndI (R.wp_mono h (fun fu ds ⟨i, j, e, k, h⟩ => by
  rcases e with ⟨e, e2⟩ | e
  · subst e e2; exact wp_guard.mpr ⟨k, h⟩
  · subst e; exact wp_guard.mpr ⟨k, h⟩) fun _ _ h => h)
theorem v_rep {f : Env → R (List D)} (h : (f env).wp fu (fun fu ds => (fb env).wp fu (fun fu k => ∃ j, k = .int j ∧ (0 ≤ j ∧ j ≤ 100000 ∧ ds.length * j.toNat ≤ 16777216) ∧ QL fu (List.replicate j.toNat ds).flatten) E) E) : (repL f fb env).wp fu QL E :=
  bndI (R.wp_mono h (fun fu ds h => bndI (R.wp_mono h (fun fu k ⟨j, e, c, h⟩ => by subst e; exact wp_guard.mpr ⟨decide_eq_true c, h⟩) fun _ _ h => h)) fun _ _ h => h)
theorem v_ownTup (he : env[i]? = some (some (.own es))) (h : QD fu (.tuple es)) : (ownTup i env).wp fu QD E := by unfold ownTup; rw [he]; exact h
theorem v_ownTupV (he : env[i]? = some (some (.val d))) (h : (gTuple [d]).wp fu QD E) : (ownTup i env).wp fu QD E := by unfold ownTup; rw [he]; exact h
theorem v_ownLen (he : env[i]? = some (some (.own es))) (h : QD fu (.int es.length)) : (ownLen i env).wp fu QD E := by unfold ownLen; rw [he]; exact h
theorem v_ownIx (he : env[i]? = some (some (.own es))) (h : (fb env).wp fu (fun fu k => ∃ j, k = .int j ∧ (ixL es j).wp fu QD E) E) : (ownIx i fb env).wp fu QD E := by
  unfold ownIx
  rw [he]
  exact bndI (R.wp_mono h (fun fu k ⟨j, e, h⟩ => by subst e; exact h) fun _ _ h => h)
theorem v_ret1 {α : Type} {m : R α} {a : α} {Q : Nat → α → Prop} (e : m = .ret a) (h : Q fu a) : m.wp fu Q E := by rw [e]; exact h
theorem v_guard {α : Type} {m : R α} {c : Prop} [Decidable c] {Q : Nat → α → Prop} (e : c) (h : m.wp fu Q E) : (guard' (decide c) m).wp fu Q E := wp_guard.mpr ⟨decide_eq_true e, h⟩
theorem v_rr {α : Type} {a : α} {Q : Nat → α → Prop} (h : Q fu a) : (R.ret a).wp fu Q E := h
theorem v_err {α : Type} {er : Er} {Q : Nat → α → Prop} (h : E fu er) : (R.err er : R α).wp fu Q E := h
def DfK (Q : Nat → D → Prop) (E : Nat → Er → Prop) : Nat → Out → Prop := fun fu o => match o with
  | .nx _ => Q fu .none
  | .rt d => Q fu d
  | .rl ds => Q fu (.list ds)
  | .ex _ er => E fu er
  | _ => False
theorem v_def {n : Nat} {fb : Env → R Out} {env : Env} (he : startE n ds = env) (h : (fb env).wp fu (DfK QD E) (fun _ _ => False)) : (defF n fb ds).wp fu QD E := by
  unfold defF
  rw [he]
  exact bthI (R.wp_mono h (fun fu o h => by cases o <;> exact h) fun _ _ h => h)
def DlK (Q : Nat → List D → Prop) (E : Nat → Er → Prop) : Nat → Out → Prop := fun fu o => match o with
  | .rl ds => Q fu ds
  | .ex _ er => E fu er
  | _ => False
theorem v_defL {n : Nat} {fb : Env → R Out} {env : Env} (he : startE n ds = env) (h : (fb env).wp fu (DlK QL E) (fun _ _ => False)) : (defL n fb ds).wp fu QL E := by
  unfold defL
  rw [he]
  exact bthI (R.wp_mono h (fun fu o h => by cases o <;> exact h) fun _ _ h => h)
theorem v_dlL (h : QL fu ds) : DlK QL E fu (.rl ds) := h
theorem v_dlX {e : Env} {er : Er} (h : E fu er) : DlK QL E fu (.ex e er) := h
theorem v_dfL (h : QD fu (.list ds)) : DfK QD E fu (.rl ds) := h
theorem v_dfN {e : Env} (h : QD fu .none) : DfK QD E fu (.nx e) := h
theorem v_dfR (h : QD fu d) : DfK QD E fu (.rt d) := h
theorem v_dfX {e : Env} {er : Er} (h : E fu er) : DfK QD E fu (.ex e er) := h
theorem s_draw {k : Int} (h1 : 0 < k) (h2 : k ≤ 1000000) (hf : 1 ≤ fu) (h : ∀ i fu', fu = fu' + 1 → 0 ≤ i → i < k → QD fu' (.int i)) : (F_draw [deckD, .int k]).wp fu QD E := by
  show (guard' (isDeckD deckD && decide (0 < k ∧ k ≤ 1000000)) (R.any k fun i => .ret (.int i))).wp fu QD E
  refine wp_guard.mpr ⟨by rw [Bool.and_eq_true]; exact ⟨rfl, decide_eq_true ⟨h1, h2⟩⟩, fu - 1, by omega, fun i a b => h i _ (by omega) a b⟩
theorem s_open {ns : List Int} {k : Int} (h1 : 0 ≤ k) (h2 : k ≤ 1000) (h : QD fu deckD) : (F_open [scrD ns, .int k]).wp fu QD E := by
  show (scrGo (scrD ns) fun _ => guard' (decide (0 ≤ k ∧ k ≤ 1000)) (R.ret deckD)).wp fu QD E
  rw [scrGo_scr]
  exact wp_guard.mpr ⟨decide_eq_true ⟨h1, h2⟩, h⟩
/-- what a loop does with its body's end -/
def LpK (P : Nat → Env → Prop) (Q : Nat → Out → Prop) : Nat → Out → Prop := fun fu o => match o with
  | .nx e => P fu e
  | .ct e => P fu e
  | .bk e => Q fu (.nx e)
  | o => Q fu o
theorem v_lpN {P : Nat → Env → Prop} {e : Env} (h : P fu e) : LpK P QO fu (.nx e) := h
theorem v_lpC {P : Nat → Env → Prop} {e : Env} (h : P fu e) : LpK P QO fu (.ct e) := h
theorem v_lpB {P : Nat → Env → Prop} {e : Env} (h : QO fu (.nx e)) : LpK P QO fu (.bk e) := h
theorem v_lpR {P : Nat → Env → Prop} (h : QO fu (.rt d)) : LpK P QO fu (.rt d) := h
theorem v_lpL {P : Nat → Env → Prop} (h : QO fu (.rl ds)) : LpK P QO fu (.rl ds) := h
theorem v_lpX {P : Nat → Env → Prop} {e : Env} {er : Er} (h : QO fu (.ex e er)) : LpK P QO fu (.ex e er) := h
/-- a loop, by an invariant over how many are done -/
theorem loopI {body : D → Env → R Out} (P : Nat → Nat → Env → Prop) : ∀ (ds : List D) (i : Nat) (env : Env) (fu : Nat), P i fu env →
    (∀ j d e fu, i ≤ j → ds[j - i]? = some d → P j fu e → (body d e).wp fu (LpK (P (j + 1)) QO) E) → (∀ e fu, P (i + ds.length) fu e → QO fu (.nx e)) → (loopL body ds env).wp fu QO E
  | [], i, env, fu, h0, _, hd => hd env fu h0
  | d :: r, i, env, fu, h0, hs, hd => by
    refine bndI (R.wp_mono (hs i d env fu (Nat.le_refl i) (by simp) h0) (fun fu o h => ?_) fun _ _ h => h)
    have rest : ∀ e, P (i + 1) fu e → (loopL body r e).wp fu QO E := fun e h => loopI P r (i + 1) e fu h (fun j d' e' fu' hj hd' hp => hs j d' e' fu' (by omega) (by
      have : j - i = (j - (i + 1)) + 1 := by omega
      rw [this]; exact hd') hp) fun e' fu' hp => hd e' fu' (by
        have : i + 1 + r.length = i + (d :: r).length := by rw [List.length_cons]; omega
        rw [← this]; exact hp)
    cases o with
    | nx e => exact rest e h
    | ct e => exact rest e h
    | bk e => exact h
    | rt d => exact h
    | rl d => exact h
    | ex e er => exact h
theorem v_for {fi : Env → R (List D)} {tg : D → Env → R Env} (h : (fi env).wp fu (fun fu ds => (loopL (fun d e => (tg d e).bind f) ds env).wp fu QO E) (XO QO env)) : (forS fi tg f env).wp fu QO E := bthI (R.wp_mono h (fun _ _ h => h) fun _ _ h => h)
theorem v_body {tg : D → Env → R Env} (h : (tg d env).wp fu (fun fu e => (f e).wp fu QO E) E) : ((tg d env).bind f).wp fu QO E := bndI h
def addO (acc : List D) : Option D → List D
  | some y => acc ++ [y]
  | none => acc
/-- a comprehension whose items are told -/
theorem compI {body : D → R (Option D)} (P : Nat → Nat → List D → Prop) : ∀ (ds : List D) (i : Nat) (acc : List D) (fu : Nat) (QL : Nat → List D → Prop), P i fu acc →
    (∀ j d acc fu, i ≤ j → ds[j - i]? = some d → P j fu acc → (body d).wp fu (fun fu o => P (j + 1) fu (addO acc o)) E) → (∀ acc' fu, P (i + ds.length) fu (acc ++ acc') → QL fu acc') → (compL body ds).wp fu QL E
  | [], i, acc, fu, QL, h0, _, hd => hd [] fu (by rw [List.append_nil]; exact h0)
  | d :: r, i, acc, fu, QL, h0, hs, hd => by
    refine bndI (R.wp_mono (hs i d acc fu (Nat.le_refl i) (by simp) h0) (fun fu o h => ?_) fun _ _ h => h)
    have hl : i + 1 + r.length = i + (d :: r).length := by rw [List.length_cons]; omega
    refine bndI ?_
    refine compI P r (i + 1) (addO acc o) fu _ h (fun j d' a' fu' hj hd' hp => hs j d' a' fu' (by omega) (by
      have : j - i = (j - (i + 1)) + 1 := by omega
      rw [this]; exact hd') hp) fun acc' fu' hp => ?_
    rw [hl] at hp
    cases o with
    | none => exact hd acc' fu' hp
    | some y =>
      have hp : P (i + (d :: r).length) fu' ((acc ++ [y]) ++ acc') := hp
      rw [List.append_assoc] at hp
      exact hd (y :: acc') fu' hp
theorem v_comp {fi : Env → R (List D)} {tg : D → Env → R Env} {vs : List Nat} (h : (fi env).wp fu (fun fu ds => ds.length ≤ 16777216 ∧ (compL (fun d => noErr ((tg d (wipeE env vs)).bind fun e => (ft e).bind fun k => if k = true then (fa e).bind fun y => R.ret (some y) else R.ret none)) ds).wp fu QL E) E) : (compD fi tg ft fa vs env).wp fu QL E :=
  bndI (R.wp_mono h (fun _ _ h => wp_guard.mpr ⟨decide_eq_true h.1, h.2⟩) fun _ _ h => h)
theorem v_item {tg : D → Env → R Env} {e : Env} {QX : Nat → Option D → Prop} (h : (tg d e).wp fu (fun fu e => (ft e).wp fu (fun fu k => if k = true then (fa e).wp fu (fun fu y => QX fu (some y)) (fun _ _ => False) else QX fu none) (fun _ _ => False)) (fun _ _ => False)) :
    (noErr ((tg d e).bind fun e => (ft e).bind fun k => if k = true then (fa e).bind fun y => R.ret (some y) else R.ret none)).wp fu QX E := by
  refine bthI (R.wp_mono (bndI (R.wp_mono h (fun fu e h => bndI (R.wp_mono h (fun fu k h => ?_) fun _ _ h => h)) fun _ _ h => h)) (fun _ _ h => h) fun _ _ h => h.elim)
  cases k with
  | true => rw [if_pos rfl] at h ⊢; exact bndI (R.wp_mono h (fun _ _ h => h) fun _ _ h => h)
  | false => rw [if_neg (by decide)] at h ⊢; exact h
end
end DL
namespace DL
open PySem PySem.Spec PyProof.Rows L2
section
variable {env : Env} {fu : Nat} {E : Nat → Er → Prop} {QD Q : Nat → D → Prop} {QB : Nat → Bool → Prop} {QL : Nat → List D → Prop} {i j : Int} {d x y z : D} {ds es : List D} {b c : Bool} {s t : Str}
theorem v_truB (h : QB fu b) : (truD (.bool b)).wp fu QB E := h
theorem v_truI (h : QB fu (i != 0)) : (truD (.int i)).wp fu QB E := h
theorem v_truN (h : QB fu false) : (truD .none).wp fu QB E := h
theorem v_truT (h : QB fu (!ds.isEmpty)) : (truD (.tuple ds)).wp fu QB E := h
theorem v_truL (h : QB fu (!ds.isEmpty)) : (truD (.list ds)).wp fu QB E := h
theorem v_addI (h : QD fu (.int (i + j))) : (gAdd (.int i) (.int j)).wp fu QD E := h
theorem v_addS (hl : s.length + t.length ≤ 16777216) (h : QD fu (.str (s ++ t))) : (gAdd (.str s) (.str t)).wp fu QD E := v_guard hl h
theorem v_addL (hl : ds.length + es.length ≤ 16777216) (h : QD fu (.list (ds ++ es))) : (gAdd (.list ds) (.list es)).wp fu QD E := v_guard hl h
theorem v_addT (hl : ds.length + es.length ≤ 16777216) (h : QD fu (.tuple (ds ++ es))) : (gAdd (.tuple ds) (.tuple es)).wp fu QD E := v_guard hl h
theorem v_addII (h : QD fu (.int (i + j))) : (gAddI (.int i) (.int j)).wp fu QD E := h
theorem v_subII (h : QD fu (.int (i - j))) : (gSubI (.int i) (.int j)).wp fu QD E := h
theorem v_sub (h : QD fu (.int (i - j))) : (gSub (.int i) (.int j)).wp fu QD E := h
theorem v_mul (hl : (-18446744073709551616 < i ∧ i < 18446744073709551616) ∨ (-18446744073709551616 < j ∧ j < 18446744073709551616)) (h : QD fu (.int (i * j))) : (gMulA (.int i) (.int j)).wp fu QD E := v_guard hl h
theorem v_mulT (hl : ds ≠ [] ∧ 2 ≤ j ∧ j ≤ 1000 ∧ ds.length ≤ 1000) (h : QD fu (.tuple (List.replicate j.toNat ds).flatten)) : (gMulA (.tuple ds) (.int j)).wp fu QD E := v_guard hl h
theorem v_mod (hl : 0 < j) (h : QD fu (.int (i % j))) : (gMod (.int i) (.int j)).wp fu QD E := v_guard hl h
theorem v_div (hl : 0 < j ∧ j < 2 ^ 200) (h : QD fu (.int (i / j))) : (gDiv (.int i) (.int j)).wp fu QD E := v_guard hl h
theorem v_pow (hl : 0 ≤ j ∧ j ≤ 1000 ∧ i.natAbs < 2 ^ 64) (h : QD fu (.int (i ^ j.toNat))) : (gPow (.int i) (.int j)).wp fu QD E := v_guard hl h
theorem v_neg (h : QD fu (.int (-i))) : (gNeg (.int i)).wp fu QD E := h
theorem v_lt (h : QD fu (.bool (decide (i < j)))) : (gLt (.int i) (.int j)).wp fu QD E := h
theorem v_le (h : QD fu (.bool (decide (i ≤ j)))) : (gLe (.int i) (.int j)).wp fu QD E := h
theorem v_gt (h : QD fu (.bool (decide (j < i)))) : (gGt (.int i) (.int j)).wp fu QD E := h
theorem v_ge (h : QD fu (.bool (decide (j ≤ i)))) : (gGe (.int i) (.int j)).wp fu QD E := h
theorem v_ltS (h : QD fu (.bool (decide (s.cps.toList < t.cps.toList)))) : (gLt (.str s) (.str t)).wp fu QD E := h
theorem v_leS (h : QD fu (.bool (!decide (t.cps.toList < s.cps.toList)))) : (gLe (.str s) (.str t)).wp fu QD E := h
theorem v_eqI (h : QD fu (.bool (decide (i = j)))) : (gEq (.int i) (.int j)).wp fu QD E := v_ret1 (eq_ii i j) h
theorem v_neI (h : QD fu (.bool (!decide (i = j)))) : (gNe (.int i) (.int j)).wp fu QD E := v_ret1 (ne_ii i j) h
theorem v_eqB (h : QD fu (.bool (decide (b = c)))) : (gEq (.bool b) (.bool c)).wp fu QD E := v_ret1 (eq_bb b c) h
theorem v_neB (h : QD fu (.bool (!decide (b = c)))) : (gNe (.bool b) (.bool c)).wp fu QD E := v_ret1 (ne_bb b c) h
theorem v_eqS (h : QD fu (.bool (decide (s = t)))) : (gEq (.str s) (.str t)).wp fu QD E := h
theorem v_neS (h : QD fu (.bool (!decide (s = t)))) : (gNe (.str s) (.str t)).wp fu QD E := h
theorem strEq_none (h : strEq x y = none) (h1 : SeqAt.shaped x = true) (h2 : SeqAt.shaped y = true) : gEq x y = .ret (.bool (PyData.eqv x y)) := by
  unfold gEq
  rw [h, h1, h2]; rfl
theorem strNe_none (h : strEq x y = none) (h1 : SeqAt.shaped x = true) (h2 : SeqAt.shaped y = true) : gNe x y = .ret (.bool (!PyData.eqv x y)) := by
  unfold gNe
  rw [h, h1, h2]; rfl
theorem v_isN (h : QD fu (.bool (isNonD x))) : (gIs x .none).wp fu QD E := by cases x <;> exact h
theorem v_isNot (h : QD fu (.bool (!isNonD x))) : (gIsNot x .none).wp fu QD E := by cases x <;> exact h
theorem v_isB (h : QD fu (.bool (decide (b = c)))) : (gIs (.bool b) (.bool c)).wp fu QD E := h
theorem v_lenT (h : QD fu (.int ds.length)) : (gLen [.tuple ds]).wp fu QD E := h
theorem v_lenL (h : QD fu (.int ds.length)) : (gLen [.list ds]).wp fu QD E := h
theorem v_lenS (hl : s.length ≤ 16777216) (h : QD fu (.int s.length)) : (gLen [.str s]).wp fu QD E := by
  show ((guard' (decide (s.length ≤ 16777216)) (R.ret (s.length : Int))).bind fun n => R.ret (PyData.int n)).wp fu QD E
  exact bndI (v_guard hl h)
theorem v_lenScr {ns : List Int} (h : QD fu (.int ns.length)) : (gLen [scrD ns]).wp fu QD E := by
  show ((scrGo (scrD ns) fun ns => R.ret (ns.length : Int)).bind fun n => R.ret (PyData.int n)).wp fu QD E
  rw [scrGo_scr]; exact h
theorem v_ixL (h : (ixL ds i).wp fu QD E) : (gIx (.list ds) (.int i)).wp fu QD E := h
theorem v_ixT (h : (ixL ds i).wp fu QD E) : (gIx (.tuple ds) (.int i)).wp fu QD E := h
theorem v_ixI (h0 : 0 ≤ i) (e : ds[i.toNat]? = some d) (h : QD fu d) : (ixL ds i).wp fu QD E := by
  have := ixL_at e
  rw [show ((i.toNat : Nat) : Int) = i by omega] at this
  exact v_ret1 this h
theorem v_ix0 (h : QD fu d) : (ixL (d :: ds) 0).wp fu QD E := v_ret1 (ixL_0 d ds) h
theorem v_ix1 (h : QD fu y) : (ixL (x :: y :: ds) 1).wp fu QD E := v_ret1 (ixL_1 x y ds) h
theorem v_ix2 (h : QD fu z) : (ixL (x :: y :: z :: ds) 2).wp fu QD E := v_ret1 (ixL_2 x y z ds) h
theorem v_ix3 (h : QD fu d) : (ixL (x :: y :: z :: d :: ds) 3).wp fu QD E := v_ret1 (ixL_3 x y z d ds) h
theorem v_maxI (h : QD fu (.int (if j > i then j else i))) : (gMax [.int i, .int j]).wp fu QD E := h
theorem v_minI (h : QD fu (.int (if j < i then j else i))) : (gMin [.int i, .int j]).wp fu QD E := h
theorem v_absI (h : QD fu (.int (if i < 0 then -i else i))) : (gAbs [.int i]).wp fu QD E := h
theorem v_intI (h : QD fu (.int i)) : (gInt [.int i]).wp fu QD E := h
theorem v_intB (h : QD fu (.int (if b then 1 else 0))) : (gInt [.bool b]).wp fu QD E := h
theorem v_tupL (h : QD fu (.tuple ds)) : (gTuple [.list ds]).wp fu QD E := h
theorem v_tupT (h : QD fu (.tuple ds)) : (gTuple [.tuple ds]).wp fu QD E := h
theorem v_allB {bs : List Bool} (e : ds = bs.map PyData.bool) (h : QD fu (.bool (bs.all id))) : (gAll [.list ds]).wp fu QD E := by
  subst e
  show (match blsOf (bs.map PyData.bool) with | some bs => R.ret (PyData.bool (bs.all id)) | none => R.bad).wp fu QD E
  rw [blsOf_of]; exact h
theorem v_anyB {bs : List Bool} (e : ds = bs.map PyData.bool) (h : QD fu (.bool (bs.any id))) : (gAny [.list ds]).wp fu QD E := by
  subst e
  show (match blsOf (bs.map PyData.bool) with | some bs => R.ret (PyData.bool (bs.any id)) | none => R.bad).wp fu QD E
  rw [blsOf_of]; exact h
theorem v_sumI {ns : List Int} (e : ds = ns.map PyData.int) (h : QD fu (.int ns.sum)) : (gSum [.list ds]).wp fu QD E := by
  subst e
  show (match intsOf (ns.map PyData.int) with | some ns => R.ret (PyData.int ns.sum) | none => R.bad).wp fu QD E
  rw [intsOf_of]; exact h
theorem v_isiI (p : plainD d = true) (h : QD fu (.bool (isIntD d))) : (isiV "int" d).wp fu QD E := v_ret1 (isi_int p) h
theorem v_isiB (p : plainD d = true) (h : QD fu (.bool (isBoolD d))) : (isiV "bool" d).wp fu QD E := v_ret1 (isi_bool p) h
theorem v_isiS (p : plainD d = true) (h : QD fu (.bool (isStrD d))) : (isiV "str" d).wp fu QD E := v_ret1 (isi_str p) h
theorem v_isiT (p : plainD d = true) (h : QD fu (.bool (isTupD d))) : (isiV "tuple" d).wp fu QD E := v_ret1 (isi_tup p) h
theorem v_isiL (p : plainD d = true) (h : QD fu (.bool (isLstD d))) : (isiV "list" d).wp fu QD E := v_ret1 (isi_lst p) h
theorem v_elT (h : QL fu ds) : (elems (.tuple ds)).wp fu QL E := h
theorem v_elL (h : QL fu ds) : (elems (.list ds)).wp fu QL E := h
theorem v_itT (h : QL fu ds) : (iterE (.tuple ds)).wp fu QL E := h
theorem v_itL (h : QL fu ds) : (iterE (.list ds)).wp fu QL E := h
theorem v_itS (h : QL fu (chars s)) : (iterE (.str s)).wp fu QL E := h
theorem v_slT {l u : Option Int} (h : QD fu (.tuple (cutD ds l u))) : (gSl (.tuple ds) l u).wp fu QD E := h
theorem v_slL {l u : Option Int} (h : QD fu (.list (cutD ds l u))) : (gSl (.list ds) l u).wp fu QD E := h
theorem v_inL (h1 : SeqAt.shaped x = true) (h2 : SeqAt.shaped (.list ds) = true) (h : QD fu (.bool (ds.any fun z => PyData.eqv z x))) : (gInA x (.list ds)).wp fu QD E := by
  show (guard' (SeqAt.shaped x && SeqAt.shaped (.list ds)) (R.ret (.bool (inB false (ds.any fun z => PyData.eqv z x))))).wp fu QD E
  exact wp_guard.mpr ⟨by rw [h1, h2]; rfl, h⟩
theorem v_ninL (h1 : SeqAt.shaped x = true) (h2 : SeqAt.shaped (.list ds) = true) (h : QD fu (.bool (!ds.any fun z => PyData.eqv z x))) : (gNotInA x (.list ds)).wp fu QD E := by
  show (guard' (SeqAt.shaped x && SeqAt.shaped (.list ds)) (R.ret (.bool (inB true (ds.any fun z => PyData.eqv z x))))).wp fu QD E
  exact wp_guard.mpr ⟨by rw [h1, h2]; rfl, h⟩
theorem v_inT (h1 : (scalD x && ds.all scalD) = true) (h : QD fu (.bool (inV (toV x) (ds.map toV)))) : (gInA x (.tuple ds)).wp fu QD E := by
  show (if (scalD x && ds.all scalD) = true then R.ret (.bool (if false then !inV (toV x) (ds.map toV) else inV (toV x) (ds.map toV))) else _ : R D).wp fu QD E
  rw [if_pos h1]; exact h
theorem v_ninT (h1 : (scalD x && ds.all scalD) = true) (h : QD fu (.bool (!inV (toV x) (ds.map toV)))) : (gNotInA x (.tuple ds)).wp fu QD E := by
  show (if (scalD x && ds.all scalD) = true then R.ret (.bool (if true then !inV (toV x) (ds.map toV) else inV (toV x) (ds.map toV))) else _ : R D).wp fu QD E
  rw [if_pos h1]; exact h
theorem v_inTD (h0 : scalD x = false) (h1 : SeqAt.shaped x = true) (h2 : SeqAt.shaped (.tuple ds) = true) (h : QD fu (.bool (ds.any fun z => PyData.eqv z x))) : (gInA x (.tuple ds)).wp fu QD E := by
  show (if (scalD x && ds.all scalD) = true then _ else guard' (SeqAt.shaped x && SeqAt.shaped (.tuple ds)) (R.ret (.bool (inB false (ds.any fun z => PyData.eqv z x)))) : R D).wp fu QD E
  rw [h0, if_neg (by rw [Bool.false_and]; decide)]
  exact wp_guard.mpr ⟨by rw [h1, h2]; rfl, h⟩
theorem v_ninTD (h0 : scalD x = false) (h1 : SeqAt.shaped x = true) (h2 : SeqAt.shaped (.tuple ds) = true) (h : QD fu (.bool (!ds.any fun z => PyData.eqv z x))) : (gNotInA x (.tuple ds)).wp fu QD E := by
  show (if (scalD x && ds.all scalD) = true then _ else guard' (SeqAt.shaped x && SeqAt.shaped (.tuple ds)) (R.ret (.bool (inB true (ds.any fun z => PyData.eqv z x)))) : R D).wp fu QD E
  rw [h0, if_neg (by rw [Bool.false_and]; decide)]
  exact wp_guard.mpr ⟨by rw [h1, h2]; rfl, h⟩
theorem v_fmtI (h1 : i.natAbs.log2 < 1920) (h : QD fu (.str (toString i))) : (fmtR (.int i)).wp fu QD E := v_guard h1 h
theorem v_fmtS (h1 : s.length ≤ 16777216) (h : QD fu (.str s)) : (fmtR (.str s)).wp fu QD E := v_guard h1 h
theorem v_fmt {fa : Env → R D} (h : (fa env).wp fu (fun fu x => (fmtR x).wp fu QD E) E) : (fmtD fa env).wp fu QD E := bndI h
theorem v_js0 {acc : Str} (h : QD fu (.str acc)) : (jsD [] acc env).wp fu QD E := h
theorem v_js {f : Env → R D} {fs : List (Env → R D)} {acc : Str} (h : (f env).wp fu (fun fu x => ∃ y, x = .str y ∧ (acc ++ y).length ≤ 16777216 ∧ (jsD fs (acc ++ y) env).wp fu QD E) E) : (jsD (f :: fs) acc env).wp fu QD E :=
  bndI (R.wp_mono h (fun fu x ⟨y, e, hl, h⟩ => by subst e; exact v_guard hl h) fun _ _ h => h)
theorem v_repr (h1 : reprOk d = true) (h : QD fu (.str d.shown)) : (gRepr [d]).wp fu QD E := wp_guard.mpr ⟨h1, h⟩
theorem v_ifT {p : Prop} [Decidable p] {A B : Prop} (hp : p) (h : A) : if decide p = true then A else B := by rw [if_pos (decide_eq_true hp)]; exact h
theorem v_ifF {p : Prop} [Decidable p] {A B : Prop} (hp : ¬ p) (h : B) : if decide p = true then A else B := by rw [if_neg (by rw [decide_eq_false hp]; decide)]; exact h
theorem v_ifOr {QO : Nat → Out → Prop} {ft fz : Env → R Bool} {f g : Env → R Out} (k1 k2 : Bool) (h1 : ∀ Q : Nat → Bool → Prop, Q fu k1 → (ft env).wp fu Q (XO QO env)) (h2 : ∀ Q : Nat → Bool → Prop, Q fu k2 → (fz env).wp fu Q (XO QO env)) (h : if (k1 || k2) = true then (f env).wp fu QO E else (g env).wp fu QO E) :
    (ifS (orT ft fz) f g env).wp fu QO E := by
  refine v_if (v_orT (h1 _ ?_))
  cases k1 with
  | true => exact h
  | false =>
    show (fz env).wp fu _ _
    exact h2 _ (by cases k2 <;> exact h)
theorem iteNF {A B : Prop} (h : A) : if (!false) = true then A else B := h
theorem iteNT {A B : Prop} (h : B) : if (!true) = true then A else B := by simpa using h
theorem v_cb {A B : Prop} (h1 : b = true → A) (h2 : b = false → B) : if b = true then A else B := by
  cases b with
  | true => rw [if_pos rfl]; exact h1 rfl
  | false => rw [if_neg (by decide)]; exact h2 rfl
theorem v_cn {A B : Prop} (h1 : b = false → A) (h2 : b = true → B) : if (!b) = true then A else B := by
  cases b with
  | true => simp only [Bool.not_true, Bool.false_eq_true, if_false]; exact h2 rfl
  | false => simp only [Bool.not_false, if_true]; exact h1 rfl
end
end DL
namespace DL
open PySem PySem.Spec PyProof.Rows L2
theorem natLog {n k : Nat} (h : n < 2 ^ k) (hk : 0 < k) : n.log2 < k := by
  by_cases h0 : n = 0
  · subst h0; simpa using hk
  · exact (Nat.log2_lt h0).mpr h
mutual
/-- plain data of numbers and texts that can be told -/
def fitD : D → Bool
  | .none => true
  | .bool _ => true
  | .int i => decide (i.natAbs.log2 < 1920)
  | .str x => PyData.strOk x
  | .list xs => fitAll xs
  | .tuple xs => fitAll xs
  | .dict _ => false
def fitAll : List D → Bool
  | [] => true
  | x :: xs => fitD x && fitAll xs
end
mutual
theorem fit_lay : ∀ d, fitD d = true → PyData.canLay0 d = true ∧ PyData.showable d = true ∧ PyData.hasDict d = false
  | .none, _ => by simp [PyData.canLay0, PyData.showable, PyData.hasDict]
  | .bool _, _ => by simp [PyData.canLay0, PyData.showable, PyData.hasDict]
  | .int i, h => by
    have h : decide (i.natAbs.log2 < 1920) = true := by simpa only [fitD] using h
    simp only [PyData.canLay0, PyData.showable, PyData.hasDict]
    exact ⟨by first | trivial | rfl, h, by first | trivial | rfl⟩
  | .str s, h => by
    have h : PyData.strOk s = true := by simpa only [fitD] using h
    simp [PyData.canLay0, PyData.showable, PyData.hasDict, h]
  | .list xs, h => by
    simp only [PyData.canLay0, PyData.showable, PyData.hasDict]
    exact fit_layAll xs (by simpa only [fitD] using h)
  | .tuple xs, h => by
    simp only [PyData.canLay0, PyData.showable, PyData.hasDict]
    exact fit_layAll xs (by simpa only [fitD] using h)
  | .dict _, h => by simp [fitD] at h
theorem fit_layAll : ∀ ds, fitAll ds = true → PyData.canLayAll0 ds = true ∧ PyData.showableAll ds = true ∧ PyData.hasDictAll ds = false
  | [], _ => by simp [PyData.canLayAll0, PyData.showableAll, PyData.hasDictAll]
  | d :: r, h => by
    have h : fitD d = true ∧ fitAll r = true := by simpa only [fitAll, Bool.and_eq_true] using h
    obtain ⟨a, b, c⟩ := fit_lay d h.1
    obtain ⟨a2, b2, c2⟩ := fit_layAll r h.2
    simp [PyData.canLayAll0, PyData.showableAll, PyData.hasDictAll, a, b, c, a2, b2, c2]
end
mutual
theorem shown_le : ∀ d, fitD d = true → d.shown.length ≤ wt d
  | .none, _ => by simp only [PyData.shown, wt]; decide +kernel
  | .bool b, _ => by cases b <;> (simp only [PyData.shown, wt]; decide +kernel)
  | .int i, h => by
    have e := int_text_length_le (a := i) (k := i.natAbs.log2 + 1) (by omega) (by omega)
    have e2 : (Str.ofString (toString i)).length ≤ i.natAbs.log2 + 1 + 1 := by
      rw [PySem.ofString_length]; exact e
    simp only [PyData.shown, wt]
    exact Nat.le_trans e2 (by omega)
  | .str x, h => by
    simp only [PyData.shown, wt]
    have h : PyData.strOk x = true := by simpa only [fitD] using h
    refine StrLaws.reprText_len x fun c hc => ?_
    unfold PyData.strOk at h
    rw [Array.all_eq_true'] at h
    have := of_decide_eq_true (h c (by simpa using hc))
    omega
  | .list xs, h => by
    have := shownAll_le xs (by simpa only [fitD] using h)
    have e := listText_len_le (PyData.shownAll xs)
    simp only [PyData.shown, wt]
    omega
  | .tuple xs, h => by
    have := shownAll_le xs (by simpa only [fitD] using h)
    have e := tupleText_len_le (PyData.shownAll xs)
    simp only [PyData.shown, wt]
    omega
  | .dict _, h => by simp [fitD] at h
theorem shownAll_le : ∀ ds, fitAll ds = true → ((PyData.shownAll ds).map (·.length)).sum + 2 * (PyData.shownAll ds).length ≤ wtAll ds
  | [], _ => by simp [PyData.shownAll, wtAll]
  | d :: r, h => by
    have h : fitD d = true ∧ fitAll r = true := by simpa only [fitAll, Bool.and_eq_true] using h
    have h1 := shown_le d h.1
    have h2 := shownAll_le r h.2
    simp only [PyData.shownAll, wtAll, List.map_cons, List.sum_cons, List.length_cons]
    omega
end
theorem reprOk_of {d : D} (h : fitD d = true) (hd : PyData.depth d ≤ 60) (hw : wt d ≤ 16777216) : reprOk d = true := by
  obtain ⟨a, b, c⟩ := fit_lay d h
  have := shown_le d h
  unfold reprOk
  rw [a, b, c, decide_eq_true hd, decide_eq_true (Nat.le_trans this hw)]
  rfl
theorem fitAll_app : ∀ {ds es : List D}, fitAll ds = true → fitAll es = true → fitAll (ds ++ es) = true
  | [], _, _, h => h
  | d :: r, es, h1, h2 => by
    have h : fitD d = true ∧ fitAll r = true := by simpa only [fitAll, Bool.and_eq_true] using h1
    show fitAll (d :: (r ++ es)) = true
    simp only [fitAll, Bool.and_eq_true]
    exact ⟨h.1, fitAll_app h.2 h2⟩
theorem fitAll_of : ∀ {ds : List D}, (∀ d ∈ ds, fitD d = true) → fitAll ds = true
  | [], _ => by simp [fitAll]
  | d :: r, h => by
    simp only [fitAll, Bool.and_eq_true]
    exact ⟨h d List.mem_cons_self, fitAll_of fun x hx => h x (List.mem_cons_of_mem _ hx)⟩
theorem depthAll_le : ∀ {ds : List D} {k : Nat}, (∀ d ∈ ds, PyData.depth d ≤ k) → PyData.depthAll ds ≤ k
  | [], k, _ => by simp [PyData.depthAll]
  | d :: r, k, h => by
    have h1 := h d List.mem_cons_self
    have h2 := depthAll_le (ds := r) (k := k) fun x hx => h x (List.mem_cons_of_mem _ hx)
    simp only [PyData.depthAll]
    omega
theorem wtAll_le : ∀ {ds : List D} {k : Nat}, (∀ d ∈ ds, wt d ≤ k) → wtAll ds ≤ ds.length * (k + 2)
  | [], k, _ => by simp [wtAll]
  | d :: r, k, h => by
    have h1 := h d List.mem_cons_self
    have h2 := wtAll_le (ds := r) (k := k) fun x hx => h x (List.mem_cons_of_mem _ hx)
    simp only [wtAll, List.length_cons, Nat.succ_mul]
    omega
end DL
namespace DL
open PySem PySem.Spec PyProof.Rows L2
@[irreducible] def R.go {α : Type} (m : R α) (fu : Nat) (Q : Nat → α → Prop) (E : Nat → Er → Prop) : Prop := m.wp fu Q E
theorem R.go_eq : @R.go = @R.wp := by
  funext α m fu Q E
  unfold R.go
  rfl
section
variable {env : Env} {fu : Nat} {E : Nat → Er → Prop} {QO : Nat → Out → Prop} {QD Q : Nat → D → Prop} {QB : Nat → Bool → Prop} {QL : Nat → List D → Prop} {QE : Nat → Env → Prop} {QI : Nat → Option Int → Prop}
  {fa fb fc : Env → R D} {ft fz : Env → R Bool} {fr fk : Env → R (List D)} {f g : Env → R Out} {i j n : Nat} {d x y z : D} {ds es : List D} {b : Bool}
theorem g_bndI {α β : Type} {m : R α} {f : α → R β} {Q : Nat → β → Prop} (h : m.go fu (fun fu a => (f a).go fu Q E) E) : (m.bind f).go fu Q E := by
  simp only [R.go_eq] at *
  exact bndI h
theorem g_bthI {α β : Type} {m : R α} {f : α → R β} {g : Er → R β} {Q : Nat → β → Prop} (h : m.go fu (fun fu a => (f a).go fu Q E) (fun fu e => (g e).go fu Q E)) : (m.both f g).go fu Q E := by
  simp only [R.go_eq] at *
  exact bthI h
theorem g_seq (h : (f env).go fu (SqK g QO E) E) : (seqS f g env).go fu QO E := by
  simp only [R.go_eq] at *
  exact v_seq h
theorem g_nx {e : Env} (h : (g e).go fu QO E) : SqK g QO E fu (.nx e) := by
  simp only [R.go_eq] at *
  exact v_nx h
theorem g_rt (h : QO fu (.rt d)) : SqK g QO E fu (.rt d) := by
  exact v_rt h
theorem g_rl (h : QO fu (.rl ds)) : SqK g QO E fu (.rl ds) := by
  exact v_rl h
theorem g_bk {e : Env} (h : QO fu (.bk e)) : SqK g QO E fu (.bk e) := by
  exact v_bk h
theorem g_ct {e : Env} (h : QO fu (.ct e)) : SqK g QO E fu (.ct e) := by
  exact v_ct h
theorem g_ex {e : Env} {er : Er} (h : QO fu (.ex e er)) : SqK g QO E fu (.ex e er) := by
  exact v_ex h
theorem g_set (h : (fa env).go fu (fun fu d => QO fu (.nx (env.set i (some (.val d))))) (XO QO env)) : (setS i fa env).go fu QO E := by
  simp only [R.go_eq] at *
  exact v_set h
theorem g_setO (h : (fr env).go fu (fun fu d => QO fu (.nx (env.set i (some (.own d))))) (XO QO env)) : (setO i fr env).go fu QO E := by
  simp only [R.go_eq] at *
  exact v_setO h
theorem g_ret (h : (fa env).go fu (fun fu d => QO fu (.rt d)) (XO QO env)) : (retS fa env).go fu QO E := by
  simp only [R.go_eq] at *
  exact v_ret h
theorem g_retO (he : env[i]? = some (some (.own es))) (h : QO fu (.rl es)) : (retO i env).go fu QO E := by
  simp only [R.go_eq] at *
  exact v_retO he h
theorem g_retOv (he : env[i]? = some (some (.val d))) (h : QO fu (.rt d)) : (retO i env).go fu QO E := by
  simp only [R.go_eq] at *
  exact v_retOv he h
theorem g_retL (h : (fr env).go fu (fun fu d => QO fu (.rl d)) (XO QO env)) : (retL fr env).go fu QO E := by
  simp only [R.go_eq] at *
  exact v_retL h
theorem g_retN (h : QO fu (.rt .none)) : (retN env).go fu QO E := by
  simp only [R.go_eq] at *
  exact v_retN h
theorem g_drop (h : (fa env).go fu (fun fu _ => QO fu (.nx env)) (XO QO env)) : (dropS fa env).go fu QO E := by
  simp only [R.go_eq] at *
  exact v_drop h
theorem g_pass (h : QO fu (.nx env)) : (passS env).go fu QO E := by
  simp only [R.go_eq] at *
  exact v_pass h
theorem g_brk (h : QO fu (.bk env)) : (brkS env).go fu QO E := by
  simp only [R.go_eq] at *
  exact v_brk h
theorem g_ct' (h : QO fu (.ct env)) : (ctS env).go fu QO E := by
  simp only [R.go_eq] at *
  exact v_ct' h
theorem g_if (h : (ft env).go fu (fun fu k => if k = true then (f env).go fu QO E else (g env).go fu QO E) (XO QO env)) : (ifS ft f g env).go fu QO E := by
  simp only [R.go_eq] at *
  exact v_if h
theorem g_asg {tg : D → Env → R Env} (h : (fa env).go fu (fun fu d => (tg d env).go fu (fun fu e => QO fu (.nx e)) E) (XO QO env)) : (asgS fa tg env).go fu QO E := by
  simp only [R.go_eq] at *
  exact v_asg h
theorem g_tName (h : QE fu (env.set i (some (.val d)))) : (tName i d env).go fu QE E := by
  simp only [R.go_eq] at *
  exact v_tName h
theorem g_tTup {u : List D → Env → R Env} (h1 : ds.length = n) (h : (u ds env).go fu QE E) : (tTup n u (.tuple ds) env).go fu QE E := by
  simp only [R.go_eq] at *
  exact v_tTup h1 h
theorem g_tCons {t : D → Env → R Env} {u : List D → Env → R Env} (h : (t d env).go fu (fun fu e => (u ds e).go fu QE E) E) : (tCons t u (d :: ds) env).go fu QE E := by
  simp only [R.go_eq] at *
  exact v_tCons h
theorem g_tNil (h : QE fu env) : (tNil [] env).go fu QE E := by
  simp only [R.go_eq] at *
  exact v_tNil h
theorem g_frz {e : Env} (he : frzE i env = e) (h : (f e).go fu QO E) : (frzS i f env).go fu QO E := by
  simp only [R.go_eq] at *
  exact v_frz he h
theorem g_app (he : env[i]? = some (some (.own es))) (h : (fa env).go fu (fun fu d => es.length < 16777216 ∧ QO fu (.nx (env.set i (some (.own (es ++ [d])))))) (XO QO env)) : (appS i fa env).go fu QO E := by
  simp only [R.go_eq] at *
  exact v_app he h
theorem g_put {fe fk : Env → R D} (h : (fe env).go fu (fun fu d => ∃ es, env[i]? = some (some (.own es)) ∧ (fk env).go fu (fun fu k => ∃ j m, k = .int j ∧ ixN es.length j = some m ∧ QO fu (.nx (env.set i (some (.own (es.set m d)))))) (XO QO env)) (XO QO env)) : (putS i fe fk env).go fu QO E := by
  simp only [R.go_eq] at *
  exact v_put h
theorem g_par {fr : Env → R (List D)} (h : (fr env).go fu (fun fu ds => ∃ x y, ds = [x, y] ∧ QO fu (.nx ((env.set i (some (.val x))).set j (some (.val y))))) (XO QO env)) : (parS i j fr env).go fu QO E := by
  simp only [R.go_eq] at *
  exact v_par h
theorem g_aug {gg : D → D → R D} (he : env[i]? = some (some (.val x))) (h : (fa env).go fu (fun fu y => (gg x y).go fu (fun fu z => QO fu (.nx (env.set i (some (.val z))))) (XO QO env)) (XO QO env)) : (augS i gg fa env).go fu QO E := by
  simp only [R.go_eq] at *
  exact v_aug he h
theorem g_raise {nm : Str} (h : (fa env).go fu (fun fu _ => QO fu (.ex env ⟨nm, []⟩)) (XO QO env)) : (raiseS nm fa env).go fu QO E := by
  simp only [R.go_eq] at *
  exact v_raise h
theorem g_try {hs : List ((Str → Option Bool) × (Env → R Out))} (h : (f env).go fu (TrK hs QO E) E) : (tryS f hs env).go fu QO E := by
  simp only [R.go_eq] at *
  exact v_try h
theorem g_trN {hs : List ((Str → Option Bool) × (Env → R Out))} {e : Env} (h : QO fu (.nx e)) : TrK hs QO E fu (.nx e) := by
  exact v_trN h
theorem g_trR {hs : List ((Str → Option Bool) × (Env → R Out))} (h : QO fu (.rt d)) : TrK hs QO E fu (.rt d) := by
  exact v_trR h
theorem g_trL {hs : List ((Str → Option Bool) × (Env → R Out))} (h : QO fu (.rl ds)) : TrK hs QO E fu (.rl ds) := by
  exact v_trL h
theorem g_trX {hs : List ((Str → Option Bool) × (Env → R Out))} {e : Env} {er : Er} (h : (handle hs e er).go fu QO E) : TrK hs QO E fu (.ex e er) := by
  simp only [R.go_eq] at *
  exact v_trX h
theorem g_hdY {t : Str → Option Bool} {fs : List ((Str → Option Bool) × (Env → R Out))} {e : Env} {er : Er} (ht : t er.cls = some true) (h : (f e).go fu (SuK QO) E) : (handle ((t, f) :: fs) e er).go fu QO E := by
  simp only [R.go_eq] at *
  exact v_hdY ht h
theorem g_hdN {t : Str → Option Bool} {fs : List ((Str → Option Bool) × (Env → R Out))} {e : Env} {er : Er} (ht : t er.cls = some false) (h : (handle fs e er).go fu QO E) : (handle ((t, f) :: fs) e er).go fu QO E := by
  simp only [R.go_eq] at *
  exact v_hdN ht h
theorem g_hd0 {e : Env} {er : Er} (h : QO fu (.ex e er)) : (handle [] e er).go fu QO E := by
  simp only [R.go_eq] at *
  exact v_hd0 h
theorem g_suN {e : Env} (h : QO fu (.nx e)) : SuK QO fu (.nx e) := by
  exact v_suN h
theorem g_suL (h : QO fu (.rl ds)) : SuK QO fu (.rl ds) := by
  exact v_suL h
theorem g_suR (h : QO fu (.rt d)) : SuK QO fu (.rt d) := by
  exact v_suR h
theorem g_var (h : env[i]? = some (some (.val d))) (k : QD fu d) : (varD i env).go fu QD E := by
  simp only [R.go_eq] at *
  exact v_var h k
theorem g_c (k : QD fu d) : (cD d env).go fu QD E := by
  simp only [R.go_eq] at *
  exact v_c k
theorem g_bin {g : D → D → R D} (h : (fa env).go fu (fun fu x => (fb env).go fu (fun fu y => (g x y).go fu QD E) E) E) : (bin g fa fb env).go fu QD E := by
  simp only [R.go_eq] at *
  exact v_bin h
theorem g_un {g : D → R D} (h : (fa env).go fu (fun fu x => (g x).go fu QD E) E) : (un g fa env).go fu QD E := by
  simp only [R.go_eq] at *
  exact v_un h
theorem g_chain {g g' : D → D → R D} (h : (fa env).go fu (fun fu x => (fb env).go fu (fun fu y => (g x y).go fu (fun fu z => ∃ k, z = .bool k ∧ if k = true then (fc env).go fu (fun fu u => (g' y u).go fu QD E) E else QD fu (.bool false)) E) E) E) : (chainD g g' fa fb fc env).go fu QD E := by
  simp only [R.go_eq] at *
  exact v_chain h
theorem g_and (h : (fa env).go fu (fun fu x => (truD x).go fu (fun fu k => if k = true then (fb env).go fu QD E else QD fu x) E) E) : (andD fa fb env).go fu QD E := by
  simp only [R.go_eq] at *
  exact v_and h
theorem g_or (h : (fa env).go fu (fun fu x => (truD x).go fu (fun fu k => if k = true then QD fu x else (fb env).go fu QD E) E) E) : (orD fa fb env).go fu QD E := by
  simp only [R.go_eq] at *
  exact v_or h
theorem g_not (h : (fa env).go fu (fun fu x => (truD x).go fu (fun fu k => QD fu (.bool (!k))) E) E) : (notD fa env).go fu QD E := by
  simp only [R.go_eq] at *
  exact v_not h
theorem g_ife (h : (ft env).go fu (fun fu k => if k = true then (fa env).go fu QD E else (fb env).go fu QD E) E) : (ifD ft fa fb env).go fu QD E := by
  simp only [R.go_eq] at *
  exact v_ife h
theorem g_tru (h : (fa env).go fu (fun fu x => (truD x).go fu QB E) E) : (truT fa env).go fu QB E := by
  simp only [R.go_eq] at *
  exact v_tru h
theorem g_blT (h : (fa env).go fu (fun fu x => ∃ k, x = .bool k ∧ QB fu k) E) : (blT fa env).go fu QB E := by
  simp only [R.go_eq] at *
  exact v_blT h
theorem g_andT (h : (ft env).go fu (fun fu k => if k = true then (fz env).go fu QB E else QB fu false) E) : (andT ft fz env).go fu QB E := by
  simp only [R.go_eq] at *
  exact v_andT h
theorem g_orT (h : (ft env).go fu (fun fu k => if k = true then QB fu true else (fz env).go fu QB E) E) : (orT ft fz env).go fu QB E := by
  simp only [R.go_eq] at *
  exact v_orT h
theorem g_notT (h : (ft env).go fu (fun fu k => QB fu (!k)) E) : (notT ft env).go fu QB E := by
  simp only [R.go_eq] at *
  exact v_notT h
theorem g_yes (h : QB fu true) : (yesT env).go fu QB E := by
  simp only [R.go_eq] at *
  exact v_yes h
theorem g_nil (h : QL fu []) : (nilA env).go fu QL E := by
  simp only [R.go_eq] at *
  exact v_nil h
theorem g_cons (h : (fa env).go fu (fun fu x => (fr env).go fu (fun fu r => QL fu (x :: r)) E) E) : (consA fa fr env).go fu QL E := by
  simp only [R.go_eq] at *
  exact v_cons h
theorem g_tup (h : (fr env).go fu (fun fu ds => ds.length ≤ 16777216 ∧ QD fu (.tuple ds)) E) : (tupD fr env).go fu QD E := by
  simp only [R.go_eq] at *
  exact v_tup h
theorem g_disp (h : (fr env).go fu (fun fu ds => ds.length ≤ 16777216 ∧ QL fu ds) E) : (dispL fr env).go fu QL E := by
  simp only [R.go_eq] at *
  exact v_disp h
theorem g_lst (h : (fr env).go fu (fun fu ds => QD fu (.list ds)) E) : (lstD fr env).go fu QD E := by
  simp only [R.go_eq] at *
  exact v_lst h
theorem g_callD {g : List D → R D} (h : (fr env).go fu (fun fu ds => (g ds).go fu QD E) E) : (callD g fr env).go fu QD E := by
  simp only [R.go_eq] at *
  exact v_callD h
theorem g_call {F : List D → R D} (h : (fr env).go fu (fun fu ds => ds.length = n ∧ (F ds).go fu QD E) E) : (callF n F fr env).go fu QD E := by
  simp only [R.go_eq] at *
  exact v_call h
theorem g_callK {F : List D → R D} {perm} (h : (fr env).go fu (fun fu ds => (fk env).go fu (fun fu es => (gP perm ds es).length = n ∧ (F (gP perm ds es)).go fu QD E) E) E) : (callK n F perm fr fk env).go fu QD E := by
  simp only [R.go_eq] at *
  exact v_callK h
theorem g_callL {F : List D → R (List D)} (h : (fr env).go fu (fun fu ds => ds.length = n ∧ (F ds).go fu QL E) E) : (callL n F fr env).go fu QL E := by
  simp only [R.go_eq] at *
  exact v_callL h
theorem g_ownInF (he : env[i]? = some (some (.own es))) (h : (fa env).go fu (fun fu x => (gInA x (.list es)).go fu QD E) E) : (ownIn false i fa env).go fu QD E := by
  simp only [R.go_eq] at *
  exact v_ownInF he h
theorem g_ownInT (he : env[i]? = some (some (.own es))) (h : (fa env).go fu (fun fu x => (gNotInA x (.list es)).go fu QD E) E) : (ownIn true i fa env).go fu QD E := by
  simp only [R.go_eq] at *
  exact v_ownInT he h
theorem g_ownEqF (he : env[i]? = some (some (.own es))) (h : (fb env).go fu (fun fu x => (gEq (.list es) x).go fu QD E) E) : (ownEq false i fb env).go fu QD E := by
  simp only [R.go_eq] at *
  exact v_ownEqF he h
theorem g_ownEqT (he : env[i]? = some (some (.own es))) (h : (fb env).go fu (fun fu x => (gNe (.list es) x).go fu QD E) E) : (ownEq true i fb env).go fu QD E := by
  simp only [R.go_eq] at *
  exact v_ownEqT he h
theorem g_ownIsi {T : String} (he : env[i]? = some (some (.own es))) (h : (isiV T (.list es)).go fu QD E) : (ownIsi T i env).go fu QD E := by
  simp only [R.go_eq] at *
  exact v_ownIsi he h
theorem g_ownIt (he : env[i]? = some (some (.own es))) (h : QL fu es) : (ownIt i env).go fu QL E := by
  simp only [R.go_eq] at *
  exact v_ownIt he h
theorem g_isi {T : String} (h : (fa env).go fu (fun fu x => (isiV T x).go fu QD E) E) : (isiD T fa env).go fu QD E := by
  simp only [R.go_eq] at *
  exact v_isi h
theorem g_list (h : (fa env).go fu (fun fu x => (elems x).go fu QL E) E) : (listF fa env).go fu QL E := by
  simp only [R.go_eq] at *
  exact v_list h
theorem g_iter (h : (fa env).go fu (fun fu x => (iterE x).go fu QL E) E) : (iterF fa env).go fu QL E := by
  simp only [R.go_eq] at *
  exact v_iter h
theorem g_noPart (h : QI fu none) : (noPart env).go fu QI E := by
  simp only [R.go_eq] at *
  exact v_noPart h
theorem g_part (h : (fa env).go fu (fun fu x => ∃ i, x = .int i ∧ QI fu (some i)) E) : (part fa env).go fu QI E := by
  simp only [R.go_eq] at *
  exact v_part h
theorem g_sl {g : D → Option Int → Option Int → R D} {fl fh : Env → R (Option Int)} (h : (fa env).go fu (fun fu x => (fl env).go fu (fun fu l => (fh env).go fu (fun fu u => (g x l u).go fu QD E) E) E) E) : (slD g fa fl fh env).go fu QD E := by
  simp only [R.go_eq] at *
  exact v_sl h
theorem g_rng {fr : Env → R (List D)} (h : (fr env).go fu (fun fu ds => ∃ i j, (ds = [.int j] ∧ i = 0 ∨ ds = [.int i, .int j]) ∧ rngOk i j = true ∧ QL fu (rngD i j)) E) : (rngI fr env).go fu QL E := by
  simp only [R.go_eq] at *
  exact v_rng h
theorem g_rep {f : Env → R (List D)} (h : (f env).go fu (fun fu ds => (fb env).go fu (fun fu k => ∃ j, k = .int j ∧ (0 ≤ j ∧ j ≤ 100000 ∧ ds.length * j.toNat ≤ 16777216) ∧ QL fu (List.replicate j.toNat ds).flatten) E) E) : (repL f fb env).go fu QL E := by
  simp only [R.go_eq] at *
  exact v_rep h
theorem g_ownTup (he : env[i]? = some (some (.own es))) (h : QD fu (.tuple es)) : (ownTup i env).go fu QD E := by
  simp only [R.go_eq] at *
  exact v_ownTup he h
theorem g_ownTupV (he : env[i]? = some (some (.val d))) (h : (gTuple [d]).go fu QD E) : (ownTup i env).go fu QD E := by
  simp only [R.go_eq] at *
  exact v_ownTupV he h
theorem g_ownLen (he : env[i]? = some (some (.own es))) (h : QD fu (.int es.length)) : (ownLen i env).go fu QD E := by
  simp only [R.go_eq] at *
  exact v_ownLen he h
theorem g_ownIx (he : env[i]? = some (some (.own es))) (h : (fb env).go fu (fun fu k => ∃ j, k = .int j ∧ (ixL es j).go fu QD E) E) : (ownIx i fb env).go fu QD E := by
  simp only [R.go_eq] at *
  exact v_ownIx he h
theorem g_ret1 {α : Type} {m : R α} {a : α} {Q : Nat → α → Prop} (e : m = .ret a) (h : Q fu a) : m.go fu Q E := by
  simp only [R.go_eq] at *
  exact v_ret1 e h
theorem g_guard {α : Type} {m : R α} {c : Prop} [Decidable c] {Q : Nat → α → Prop} (e : c) (h : m.go fu Q E) : (guard' (decide c) m).go fu Q E := by
  simp only [R.go_eq] at *
  exact v_guard e h
theorem g_rr {α : Type} {a : α} {Q : Nat → α → Prop} (h : Q fu a) : (R.ret a).go fu Q E := by
  simp only [R.go_eq] at *
  exact v_rr h
theorem g_err {α : Type} {er : Er} {Q : Nat → α → Prop} (h : E fu er) : (R.err er : R α).go fu Q E := by
  simp only [R.go_eq] at *
  exact v_err h
theorem g_def {n : Nat} {fb : Env → R Out} {env : Env} (he : startE n ds = env) (h : (fb env).go fu (DfK QD E) (fun _ _ => False)) : (defF n fb ds).go fu QD E := by
  simp only [R.go_eq] at *
  exact v_def he h
theorem g_defL {n : Nat} {fb : Env → R Out} {env : Env} (he : startE n ds = env) (h : (fb env).go fu (DlK QL E) (fun _ _ => False)) : (defL n fb ds).go fu QL E := by
  simp only [R.go_eq] at *
  exact v_defL he h
theorem g_dlL (h : QL fu ds) : DlK QL E fu (.rl ds) := by
  exact v_dlL h
theorem g_dlX {e : Env} {er : Er} (h : E fu er) : DlK QL E fu (.ex e er) := by
  exact v_dlX h
theorem g_dfL (h : QD fu (.list ds)) : DfK QD E fu (.rl ds) := by
  exact v_dfL h
theorem g_dfN {e : Env} (h : QD fu .none) : DfK QD E fu (.nx e) := by
  exact v_dfN h
theorem g_dfR (h : QD fu d) : DfK QD E fu (.rt d) := by
  exact v_dfR h
theorem g_dfX {e : Env} {er : Er} (h : E fu er) : DfK QD E fu (.ex e er) := by
  exact v_dfX h
theorem gs_draw {k : Int} (h1 : 0 < k) (h2 : k ≤ 1000000) (hf : 1 ≤ fu) (h : ∀ i fu', fu = fu' + 1 → 0 ≤ i → i < k → QD fu' (.int i)) : (F_draw [deckD, .int k]).go fu QD E := by
  simp only [R.go_eq] at *
  exact s_draw h1 h2 hf h
theorem gs_open {ns : List Int} {k : Int} (h1 : 0 ≤ k) (h2 : k ≤ 1000) (h : QD fu deckD) : (F_open [scrD ns, .int k]).go fu QD E := by
  simp only [R.go_eq] at *
  exact s_open h1 h2 h
theorem g_lpN {P : Nat → Env → Prop} {e : Env} (h : P fu e) : LpK P QO fu (.nx e) := by
  exact v_lpN h
theorem g_lpC {P : Nat → Env → Prop} {e : Env} (h : P fu e) : LpK P QO fu (.ct e) := by
  exact v_lpC h
theorem g_lpB {P : Nat → Env → Prop} {e : Env} (h : QO fu (.nx e)) : LpK P QO fu (.bk e) := by
  exact v_lpB h
theorem g_lpR {P : Nat → Env → Prop} (h : QO fu (.rt d)) : LpK P QO fu (.rt d) := by
  exact v_lpR h
theorem g_lpL {P : Nat → Env → Prop} (h : QO fu (.rl ds)) : LpK P QO fu (.rl ds) := by
  exact v_lpL h
theorem g_lpX {P : Nat → Env → Prop} {e : Env} {er : Er} (h : QO fu (.ex e er)) : LpK P QO fu (.ex e er) := by
  exact v_lpX h
theorem g_for {fi : Env → R (List D)} {tg : D → Env → R Env} (h : (fi env).go fu (fun fu ds => (loopL (fun d e => (tg d e).bind f) ds env).go fu QO E) (XO QO env)) : (forS fi tg f env).go fu QO E := by
  simp only [R.go_eq] at *
  exact v_for h
theorem g_body {tg : D → Env → R Env} (h : (tg d env).go fu (fun fu e => (f e).go fu QO E) E) : ((tg d env).bind f).go fu QO E := by
  simp only [R.go_eq] at *
  exact v_body h
theorem g_comp {fi : Env → R (List D)} {tg : D → Env → R Env} {vs : List Nat} (h : (fi env).go fu (fun fu ds => ds.length ≤ 16777216 ∧ (compL (fun d => noErr ((tg d (wipeE env vs)).bind fun e => (ft e).bind fun k => if k = true then (fa e).bind fun y => R.ret (some y) else R.ret none)) ds).go fu QL E) E) : (compD fi tg ft fa vs env).go fu QL E := by
  simp only [R.go_eq] at *
  exact v_comp h
theorem g_item {tg : D → Env → R Env} {e : Env} {QX : Nat → Option D → Prop} (h : (tg d e).go fu (fun fu e => (ft e).go fu (fun fu k => if k = true then (fa e).go fu (fun fu y => QX fu (some y)) (fun _ _ => False) else QX fu none) (fun _ _ => False)) (fun _ _ => False)) : (noErr ((tg d e).bind fun e => (ft e).bind fun k => if k = true then (fa e).bind fun y => R.ret (some y) else R.ret none)).go fu QX E := by
  simp only [R.go_eq] at *
  exact v_item h
end
section
variable {env : Env} {fu : Nat} {E : Nat → Er → Prop} {QD Q : Nat → D → Prop} {QB : Nat → Bool → Prop} {QL : Nat → List D → Prop} {i j : Int} {d x y z : D} {ds es : List D} {b c : Bool} {s t : Str}
theorem g_truB (h : QB fu b) : (truD (.bool b)).go fu QB E := by
  simp only [R.go_eq] at *
  exact v_truB h
theorem g_truI (h : QB fu (i != 0)) : (truD (.int i)).go fu QB E := by
  simp only [R.go_eq] at *
  exact v_truI h
theorem g_truN (h : QB fu false) : (truD .none).go fu QB E := by
  simp only [R.go_eq] at *
  exact v_truN h
theorem g_truT (h : QB fu (!ds.isEmpty)) : (truD (.tuple ds)).go fu QB E := by
  simp only [R.go_eq] at *
  exact v_truT h
theorem g_truL (h : QB fu (!ds.isEmpty)) : (truD (.list ds)).go fu QB E := by
  simp only [R.go_eq] at *
  exact v_truL h
theorem g_addI (h : QD fu (.int (i + j))) : (gAdd (.int i) (.int j)).go fu QD E := by
  simp only [R.go_eq] at *
  exact v_addI h
theorem g_addS (hl : s.length + t.length ≤ 16777216) (h : QD fu (.str (s ++ t))) : (gAdd (.str s) (.str t)).go fu QD E := by
  simp only [R.go_eq] at *
  exact v_addS hl h
theorem g_addL (hl : ds.length + es.length ≤ 16777216) (h : QD fu (.list (ds ++ es))) : (gAdd (.list ds) (.list es)).go fu QD E := by
  simp only [R.go_eq] at *
  exact v_addL hl h
theorem g_addT (hl : ds.length + es.length ≤ 16777216) (h : QD fu (.tuple (ds ++ es))) : (gAdd (.tuple ds) (.tuple es)).go fu QD E := by
  simp only [R.go_eq] at *
  exact v_addT hl h
theorem g_addII (h : QD fu (.int (i + j))) : (gAddI (.int i) (.int j)).go fu QD E := by
  simp only [R.go_eq] at *
  exact v_addII h
theorem g_subII (h : QD fu (.int (i - j))) : (gSubI (.int i) (.int j)).go fu QD E := by
  simp only [R.go_eq] at *
  exact v_subII h
theorem g_sub (h : QD fu (.int (i - j))) : (gSub (.int i) (.int j)).go fu QD E := by
  simp only [R.go_eq] at *
  exact v_sub h
theorem g_mul (hl : (-18446744073709551616 < i ∧ i < 18446744073709551616) ∨ (-18446744073709551616 < j ∧ j < 18446744073709551616)) (h : QD fu (.int (i * j))) : (gMulA (.int i) (.int j)).go fu QD E := by
  simp only [R.go_eq] at *
  exact v_mul hl h
theorem g_mulT (hl : ds ≠ [] ∧ 2 ≤ j ∧ j ≤ 1000 ∧ ds.length ≤ 1000) (h : QD fu (.tuple (List.replicate j.toNat ds).flatten)) : (gMulA (.tuple ds) (.int j)).go fu QD E := by
  simp only [R.go_eq] at *
  exact v_mulT hl h
theorem g_mod (hl : 0 < j) (h : QD fu (.int (i % j))) : (gMod (.int i) (.int j)).go fu QD E := by
  simp only [R.go_eq] at *
  exact v_mod hl h
theorem g_div (hl : 0 < j ∧ j < 2 ^ 200) (h : QD fu (.int (i / j))) : (gDiv (.int i) (.int j)).go fu QD E := by
  simp only [R.go_eq] at *
  exact v_div hl h
theorem g_pow (hl : 0 ≤ j ∧ j ≤ 1000 ∧ i.natAbs < 2 ^ 64) (h : QD fu (.int (i ^ j.toNat))) : (gPow (.int i) (.int j)).go fu QD E := by
  simp only [R.go_eq] at *
  exact v_pow hl h
theorem g_neg (h : QD fu (.int (-i))) : (gNeg (.int i)).go fu QD E := by
  simp only [R.go_eq] at *
  exact v_neg h
theorem g_lt (h : QD fu (.bool (decide (i < j)))) : (gLt (.int i) (.int j)).go fu QD E := by
  simp only [R.go_eq] at *
  exact v_lt h
theorem g_le (h : QD fu (.bool (decide (i ≤ j)))) : (gLe (.int i) (.int j)).go fu QD E := by
  simp only [R.go_eq] at *
  exact v_le h
theorem g_gt (h : QD fu (.bool (decide (j < i)))) : (gGt (.int i) (.int j)).go fu QD E := by
  simp only [R.go_eq] at *
  exact v_gt h
theorem g_ge (h : QD fu (.bool (decide (j ≤ i)))) : (gGe (.int i) (.int j)).go fu QD E := by
  simp only [R.go_eq] at *
  exact v_ge h
theorem g_ltS (h : QD fu (.bool (decide (s.cps.toList < t.cps.toList)))) : (gLt (.str s) (.str t)).go fu QD E := by
  simp only [R.go_eq] at *
  exact v_ltS h
theorem g_leS (h : QD fu (.bool (!decide (t.cps.toList < s.cps.toList)))) : (gLe (.str s) (.str t)).go fu QD E := by
  simp only [R.go_eq] at *
  exact v_leS h
theorem g_eqI (h : QD fu (.bool (decide (i = j)))) : (gEq (.int i) (.int j)).go fu QD E := by
  simp only [R.go_eq] at *
  exact v_eqI h
theorem g_neI (h : QD fu (.bool (!decide (i = j)))) : (gNe (.int i) (.int j)).go fu QD E := by
  simp only [R.go_eq] at *
  exact v_neI h
theorem g_eqB (h : QD fu (.bool (decide (b = c)))) : (gEq (.bool b) (.bool c)).go fu QD E := by
  simp only [R.go_eq] at *
  exact v_eqB h
theorem g_neB (h : QD fu (.bool (!decide (b = c)))) : (gNe (.bool b) (.bool c)).go fu QD E := by
  simp only [R.go_eq] at *
  exact v_neB h
theorem g_eqS (h : QD fu (.bool (decide (s = t)))) : (gEq (.str s) (.str t)).go fu QD E := by
  simp only [R.go_eq] at *
  exact v_eqS h
theorem g_neS (h : QD fu (.bool (!decide (s = t)))) : (gNe (.str s) (.str t)).go fu QD E := by
  simp only [R.go_eq] at *
  exact v_neS h
theorem g_isN (h : QD fu (.bool (isNonD x))) : (gIs x .none).go fu QD E := by
  simp only [R.go_eq] at *
  exact v_isN h
theorem g_isNot (h : QD fu (.bool (!isNonD x))) : (gIsNot x .none).go fu QD E := by
  simp only [R.go_eq] at *
  exact v_isNot h
theorem g_isB (h : QD fu (.bool (decide (b = c)))) : (gIs (.bool b) (.bool c)).go fu QD E := by
  simp only [R.go_eq] at *
  exact v_isB h
theorem g_lenT (h : QD fu (.int ds.length)) : (gLen [.tuple ds]).go fu QD E := by
  simp only [R.go_eq] at *
  exact v_lenT h
theorem g_lenL (h : QD fu (.int ds.length)) : (gLen [.list ds]).go fu QD E := by
  simp only [R.go_eq] at *
  exact v_lenL h
theorem g_lenS (hl : s.length ≤ 16777216) (h : QD fu (.int s.length)) : (gLen [.str s]).go fu QD E := by
  simp only [R.go_eq] at *
  exact v_lenS hl h
theorem g_lenScr {ns : List Int} (h : QD fu (.int ns.length)) : (gLen [scrD ns]).go fu QD E := by
  simp only [R.go_eq] at *
  exact v_lenScr h
theorem g_ixL (h : (ixL ds i).go fu QD E) : (gIx (.list ds) (.int i)).go fu QD E := by
  simp only [R.go_eq] at *
  exact v_ixL h
theorem g_ixT (h : (ixL ds i).go fu QD E) : (gIx (.tuple ds) (.int i)).go fu QD E := by
  simp only [R.go_eq] at *
  exact v_ixT h
theorem g_ixI (h0 : 0 ≤ i) (e : ds[i.toNat]? = some d) (h : QD fu d) : (ixL ds i).go fu QD E := by
  simp only [R.go_eq] at *
  exact v_ixI h0 e h
theorem g_ix0 (h : QD fu d) : (ixL (d :: ds) 0).go fu QD E := by
  simp only [R.go_eq] at *
  exact v_ix0 h
theorem g_ix1 (h : QD fu y) : (ixL (x :: y :: ds) 1).go fu QD E := by
  simp only [R.go_eq] at *
  exact v_ix1 h
theorem g_ix2 (h : QD fu z) : (ixL (x :: y :: z :: ds) 2).go fu QD E := by
  simp only [R.go_eq] at *
  exact v_ix2 h
theorem g_ix3 (h : QD fu d) : (ixL (x :: y :: z :: d :: ds) 3).go fu QD E := by
  simp only [R.go_eq] at *
  exact v_ix3 h
theorem g_maxI (h : QD fu (.int (if j > i then j else i))) : (gMax [.int i, .int j]).go fu QD E := by
  simp only [R.go_eq] at *
  exact v_maxI h
theorem g_minI (h : QD fu (.int (if j < i then j else i))) : (gMin [.int i, .int j]).go fu QD E := by
  simp only [R.go_eq] at *
  exact v_minI h
theorem g_absI (h : QD fu (.int (if i < 0 then -i else i))) : (gAbs [.int i]).go fu QD E := by
  simp only [R.go_eq] at *
  exact v_absI h
theorem g_intI (h : QD fu (.int i)) : (gInt [.int i]).go fu QD E := by
  simp only [R.go_eq] at *
  exact v_intI h
theorem g_intB (h : QD fu (.int (if b then 1 else 0))) : (gInt [.bool b]).go fu QD E := by
  simp only [R.go_eq] at *
  exact v_intB h
theorem g_tupL (h : QD fu (.tuple ds)) : (gTuple [.list ds]).go fu QD E := by
  simp only [R.go_eq] at *
  exact v_tupL h
theorem g_tupT (h : QD fu (.tuple ds)) : (gTuple [.tuple ds]).go fu QD E := by
  simp only [R.go_eq] at *
  exact v_tupT h
theorem g_allB {bs : List Bool} (e : ds = bs.map PyData.bool) (h : QD fu (.bool (bs.all id))) : (gAll [.list ds]).go fu QD E := by
  simp only [R.go_eq] at *
  exact v_allB e h
theorem g_anyB {bs : List Bool} (e : ds = bs.map PyData.bool) (h : QD fu (.bool (bs.any id))) : (gAny [.list ds]).go fu QD E := by
  simp only [R.go_eq] at *
  exact v_anyB e h
theorem g_sumI {ns : List Int} (e : ds = ns.map PyData.int) (h : QD fu (.int ns.sum)) : (gSum [.list ds]).go fu QD E := by
  simp only [R.go_eq] at *
  exact v_sumI e h
theorem g_isiI (p : plainD d = true) (h : QD fu (.bool (isIntD d))) : (isiV "int" d).go fu QD E := by
  simp only [R.go_eq] at *
  exact v_isiI p h
theorem g_isiB (p : plainD d = true) (h : QD fu (.bool (isBoolD d))) : (isiV "bool" d).go fu QD E := by
  simp only [R.go_eq] at *
  exact v_isiB p h
theorem g_isiS (p : plainD d = true) (h : QD fu (.bool (isStrD d))) : (isiV "str" d).go fu QD E := by
  simp only [R.go_eq] at *
  exact v_isiS p h
theorem g_isiT (p : plainD d = true) (h : QD fu (.bool (isTupD d))) : (isiV "tuple" d).go fu QD E := by
  simp only [R.go_eq] at *
  exact v_isiT p h
theorem g_isiL (p : plainD d = true) (h : QD fu (.bool (isLstD d))) : (isiV "list" d).go fu QD E := by
  simp only [R.go_eq] at *
  exact v_isiL p h
theorem g_elT (h : QL fu ds) : (elems (.tuple ds)).go fu QL E := by
  simp only [R.go_eq] at *
  exact v_elT h
theorem g_elL (h : QL fu ds) : (elems (.list ds)).go fu QL E := by
  simp only [R.go_eq] at *
  exact v_elL h
theorem g_itT (h : QL fu ds) : (iterE (.tuple ds)).go fu QL E := by
  simp only [R.go_eq] at *
  exact v_itT h
theorem g_itL (h : QL fu ds) : (iterE (.list ds)).go fu QL E := by
  simp only [R.go_eq] at *
  exact v_itL h
theorem g_itS (h : QL fu (chars s)) : (iterE (.str s)).go fu QL E := by
  simp only [R.go_eq] at *
  exact v_itS h
theorem g_slT {l u : Option Int} (h : QD fu (.tuple (cutD ds l u))) : (gSl (.tuple ds) l u).go fu QD E := by
  simp only [R.go_eq] at *
  exact v_slT h
theorem g_slL {l u : Option Int} (h : QD fu (.list (cutD ds l u))) : (gSl (.list ds) l u).go fu QD E := by
  simp only [R.go_eq] at *
  exact v_slL h
theorem g_inL (h1 : SeqAt.shaped x = true) (h2 : SeqAt.shaped (.list ds) = true) (h : QD fu (.bool (ds.any fun z => PyData.eqv z x))) : (gInA x (.list ds)).go fu QD E := by
  simp only [R.go_eq] at *
  exact v_inL h1 h2 h
theorem g_ninL (h1 : SeqAt.shaped x = true) (h2 : SeqAt.shaped (.list ds) = true) (h : QD fu (.bool (!ds.any fun z => PyData.eqv z x))) : (gNotInA x (.list ds)).go fu QD E := by
  simp only [R.go_eq] at *
  exact v_ninL h1 h2 h
theorem g_inT (h1 : (scalD x && ds.all scalD) = true) (h : QD fu (.bool (inV (toV x) (ds.map toV)))) : (gInA x (.tuple ds)).go fu QD E := by
  simp only [R.go_eq] at *
  exact v_inT h1 h
theorem g_ninT (h1 : (scalD x && ds.all scalD) = true) (h : QD fu (.bool (!inV (toV x) (ds.map toV)))) : (gNotInA x (.tuple ds)).go fu QD E := by
  simp only [R.go_eq] at *
  exact v_ninT h1 h
theorem g_inTD (h0 : scalD x = false) (h1 : SeqAt.shaped x = true) (h2 : SeqAt.shaped (.tuple ds) = true) (h : QD fu (.bool (ds.any fun z => PyData.eqv z x))) : (gInA x (.tuple ds)).go fu QD E := by
  simp only [R.go_eq] at *
  exact v_inTD h0 h1 h2 h
theorem g_ninTD (h0 : scalD x = false) (h1 : SeqAt.shaped x = true) (h2 : SeqAt.shaped (.tuple ds) = true) (h : QD fu (.bool (!ds.any fun z => PyData.eqv z x))) : (gNotInA x (.tuple ds)).go fu QD E := by
  simp only [R.go_eq] at *
  exact v_ninTD h0 h1 h2 h
theorem g_fmtI (h1 : i.natAbs.log2 < 1920) (h : QD fu (.str (toString i))) : (fmtR (.int i)).go fu QD E := by
  simp only [R.go_eq] at *
  exact v_fmtI h1 h
theorem g_fmtS (h1 : s.length ≤ 16777216) (h : QD fu (.str s)) : (fmtR (.str s)).go fu QD E := by
  simp only [R.go_eq] at *
  exact v_fmtS h1 h
theorem g_fmt {fa : Env → R D} (h : (fa env).go fu (fun fu x => (fmtR x).go fu QD E) E) : (fmtD fa env).go fu QD E := by
  simp only [R.go_eq] at *
  exact v_fmt h
theorem g_js0 {acc : Str} (h : QD fu (.str acc)) : (jsD [] acc env).go fu QD E := by
  simp only [R.go_eq] at *
  exact v_js0 h
theorem g_js {f : Env → R D} {fs : List (Env → R D)} {acc : Str} (h : (f env).go fu (fun fu x => ∃ y, x = .str y ∧ (acc ++ y).length ≤ 16777216 ∧ (jsD fs (acc ++ y) env).go fu QD E) E) : (jsD (f :: fs) acc env).go fu QD E := by
  simp only [R.go_eq] at *
  exact v_js h
theorem g_repr (h1 : reprOk d = true) (h : QD fu (.str d.shown)) : (gRepr [d]).go fu QD E := by
  simp only [R.go_eq] at *
  exact v_repr h1 h
theorem g_ifOr {QO : Nat → Out → Prop} {ft fz : Env → R Bool} {f g : Env → R Out} (k1 k2 : Bool) (h1 : ∀ Q : Nat → Bool → Prop, Q fu k1 → (ft env).go fu Q (XO QO env)) (h2 : ∀ Q : Nat → Bool → Prop, Q fu k2 → (fz env).go fu Q (XO QO env)) (h : if (k1 || k2) = true then (f env).go fu QO E else (g env).go fu QO E) : (ifS (orT ft fz) f g env).go fu QO E := by
  simp only [R.go_eq] at *
  exact v_ifOr k1 k2 h1 h2 h
end
theorem g_loopI {QO : Nat → Out → Prop} {E : Nat → Er → Prop} {body : D → Env → R Out} (P : Nat → Nat → Env → Prop) (ds : List D) (i : Nat) (env : Env) (fu : Nat) (h0 : P i fu env)
    (hs : ∀ j d e fu, i ≤ j → ds[j - i]? = some d → P j fu e → (body d e).go fu (LpK (P (j + 1)) QO) E) (hd : ∀ e fu, P (i + ds.length) fu e → QO fu (.nx e)) : (loopL body ds env).go fu QO E := by
  simp only [R.go_eq] at *
  exact loopI P ds i env fu h0 hs hd
theorem g_compI {E : Nat → Er → Prop} {body : D → R (Option D)} (P : Nat → Nat → List D → Prop) (ds : List D) (i : Nat) (acc : List D) (fu : Nat) (QL : Nat → List D → Prop) (h0 : P i fu acc)
    (hs : ∀ j d acc fu, i ≤ j → ds[j - i]? = some d → P j fu acc → (body d).go fu (fun fu o => P (j + 1) fu (addO acc o)) E) (hd : ∀ acc' fu, P (i + ds.length) fu (acc ++ acc') → QL fu acc') : (compL body ds).go fu QL E := by
  simp only [R.go_eq] at *
  exact compI P ds i acc fu QL h0 hs hd
theorem compMap0 {E : Nat → Er → Prop} {body : D → R (Option D)} {g : D → D} : ∀ {ds : List D} {fu : Nat} {QL : Nat → List D → Prop}, (∀ d ∈ ds, ∀ fu (QX : Nat → Option D → Prop), QX fu (some (g d)) → (body d).wp fu QX E) → QL fu (ds.map g) → (compL body ds).wp fu QL E
  | [], fu, QL, _, h => h
  | d :: r, fu, QL, hb, h => bndI (hb d List.mem_cons_self fu _ (bndI (compMap0 (fun d hd => hb d (List.mem_cons_of_mem _ hd)) h)))
theorem g_compMap {E : Nat → Er → Prop} {body : D → R (Option D)} (g : D → D) {ds : List D} {fu : Nat} {QL : Nat → List D → Prop} (hb : ∀ d ∈ ds, ∀ fu (QX : Nat → Option D → Prop), QX fu (some (g d)) → (body d).go fu QX E) (h : QL fu (ds.map g)) : (compL body ds).go fu QL E := by
  simp only [R.go_eq] at *
  exact compMap0 hb h
section
variable {env : Env} {fu : Nat} {E : Nat → Er → Prop} {QO : Nat → Out → Prop} {d : D}
theorem g_loop0 {body : D → Env → R Out} (h : QO fu (.nx env)) : (loopL body [] env).go fu QO E := by
  simp only [R.go_eq] at *
  exact h
theorem g_loop1 {body : D → Env → R Out} {r : List D} (h : (body d env).go fu (LpK (fun fu e => (loopL body r e).go fu QO E) QO) E) : (loopL body (d :: r) env).go fu QO E := by
  simp only [R.go_eq] at *
  exact bndI (R.wp_mono h (fun fu o h => by cases o <;> exact h) fun _ _ h => h)
end
theorem R.go_mono {α : Type} {m : R α} {Q Q' : Nat → α → Prop} {E E' : Nat → Er → Prop} {f : Nat} (h : m.go f Q E) (hQ : ∀ f a, Q f a → Q' f a) (hE : ∀ f e, E f e → E' f e) : m.go f Q' E' := by
  rw [R.go_eq] at h ⊢
  exact R.wp_mono h hQ hE
theorem R.go_wp {α : Type} {m : R α} {Q : Nat → α → Prop} {E : Nat → Er → Prop} {f : Nat} (h : m.go f Q E) : m.wp f Q E := by
  rw [R.go_eq] at h; exact h
end DL
namespace DL
open PySem PySem.Spec PyProof.Rows L2
local macro_rules | `(tactic| walk_at "v1") => `(tactic| first
  | with_reducible refine' g_seq ?_
  | with_reducible refine' g_nx ?_
  | with_reducible refine' g_set ?_
  | with_reducible refine' g_c ?_
  | ((with_reducible refine' g_var (d := ?d) ?h ?k); (case h => exact rfl))
  | with_reducible refine' g_cons ?_
  | with_reducible refine' g_nil ?_
  | ((with_reducible refine' g_call ?_))
  | ((with_reducible refine' g_callK ?_))
  | ((with_reducible refine' g_callL ?_))
  | with_reducible refine' g_callD ?_
  | with_reducible refine' g_bin ?_
  | with_reducible refine' g_un ?_
  | with_reducible refine' g_ret ?_
  | with_reducible refine' g_retN ?_
  | with_reducible refine' g_retL ?_
  | with_reducible refine' g_rl ?_
  | with_reducible refine' g_dfL ?_
  | with_reducible refine' g_dlL ?_
  | with_reducible refine' g_dlX ?_
  | with_reducible refine' g_lpL ?_
  | with_reducible refine' g_trL ?_
  | with_reducible refine' g_suL ?_
  | ((with_reducible refine' g_retO (es := ?es) ?h ?k); (case h => exact rfl))
  | ((with_reducible refine' g_retOv (d := ?d) ?h ?k); (case h => exact rfl))
  | with_reducible refine' g_dfR ?_
  | with_reducible refine' g_dfN ?_
  | with_reducible refine' g_dfX ?_
  | with_reducible refine' g_rt ?_
  | with_reducible refine' g_bk ?_
  | with_reducible refine' g_ct ?_
  | with_reducible refine' g_ex ?_
  | with_reducible refine' g_lpN ?_
  | with_reducible refine' g_lpC ?_
  | with_reducible refine' g_lpB ?_
  | with_reducible refine' g_lpR ?_
  | with_reducible refine' g_lpX ?_
  | with_reducible refine' g_trN ?_
  | with_reducible refine' g_trR ?_
  | with_reducible refine' g_trX ?_
  | with_reducible refine' g_suN ?_
  | with_reducible refine' g_suR ?_
  | with_reducible refine' g_try ?_
  | with_reducible refine' g_hd0 ?_
  | ((with_reducible refine' g_hdY ?h ?k); (case h => rfl))
  | ((with_reducible refine' g_hdN ?h ?k); (case h => rfl))
  | with_reducible refine' g_raise ?_
  | with_reducible refine' g_if ?_
  | with_reducible refine' g_tru ?_
  | with_reducible refine' g_blT ?_
  | with_reducible refine' g_andT ?_
  | with_reducible refine' g_orT ?_
  | with_reducible refine' g_notT ?_
  | with_reducible refine' g_yes ?_
  | with_reducible refine' g_and ?_
  | with_reducible refine' g_or ?_
  | with_reducible refine' g_not ?_
  | with_reducible refine' g_ife ?_
  | with_reducible refine' g_chain ?_
  | with_reducible refine' g_isi ?_
  | with_reducible refine' g_truB ?_
  | with_reducible refine' g_truI ?_
  | with_reducible refine' g_truN ?_
  | with_reducible refine' g_truT ?_
  | with_reducible refine' g_truL ?_
  | with_reducible refine' g_tup ?_
  | with_reducible refine' g_disp ?_
  | with_reducible refine' g_lst ?_
  | with_reducible refine' g_list ?_
  | with_reducible refine' g_iter ?_
  | with_reducible refine' g_itT ?_
  | with_reducible refine' g_itL ?_
  | with_reducible refine' g_elT ?_
  | with_reducible refine' g_elL ?_
  | with_reducible refine' g_rng ?_
  | with_reducible refine' g_setO ?_
  | with_reducible refine' g_drop ?_
  | with_reducible refine' g_pass ?_
  | with_reducible refine' g_brk ?_
  | with_reducible refine' g_ct' ?_
  | with_reducible refine' g_asg ?_
  | with_reducible refine' g_tName ?_
  | ((with_reducible refine' g_tTup ?h ?k); (case h => rfl))
  | with_reducible refine' g_tCons ?_
  | with_reducible refine' g_tNil ?_
  | ((with_reducible refine' g_frz (e := ?e) ?h ?k); (case h => exact rfl))
  | ((with_reducible refine' g_app (es := ?es) ?h ?k); (case h => exact rfl))
  | with_reducible refine' g_put ?_
  | with_reducible refine' g_par ?_
  | ((with_reducible refine' g_aug (x := ?x) ?h ?k); (case h => exact rfl))
  | with_reducible refine' g_for ?_
  | with_reducible refine' g_sl ?_
  | with_reducible refine' g_noPart ?_
  | with_reducible refine' g_part ?_
  | with_reducible refine' g_rep ?_
  | ((with_reducible refine' g_ownLen (es := ?es) ?h ?k); (case h => exact rfl))
  | ((with_reducible refine' g_ownTup (es := ?es) ?h ?k); (case h => exact rfl))
  | ((with_reducible refine' g_ownTupV (d := ?d) ?h ?k); (case h => exact rfl))
  | ((with_reducible refine' g_ownInF (es := ?es) ?h ?k); (case h => exact rfl))
  | ((with_reducible refine' g_ownInT (es := ?es) ?h ?k); (case h => exact rfl))
  | ((with_reducible refine' g_ownEqF (es := ?es) ?h ?k); (case h => exact rfl))
  | ((with_reducible refine' g_ownEqT (es := ?es) ?h ?k); (case h => exact rfl))
  | ((with_reducible refine' g_ownIsi (es := ?es) ?h ?k); (case h => exact rfl))
  | ((with_reducible refine' g_ownIt (es := ?es) ?h ?k); (case h => exact rfl))
  | ((with_reducible refine' g_ownIx (es := ?es) ?h ?k); (case h => exact rfl))
  | with_reducible refine' g_addI ?_
  | with_reducible refine' g_addII ?_
  | with_reducible refine' g_subII ?_
  | with_reducible refine' g_sub ?_
  | ((with_reducible refine' g_mod ?h ?k); (case h => first | decide | omega))
  | ((with_reducible refine' g_div ?h ?k); (case h => first | decide | omega))
  | ((with_reducible refine' g_mul ?h ?k); (case h => first | decide | omega))
  | ((with_reducible refine' g_pow ?h ?k); (case h => decide))
  | with_reducible refine' g_neg ?_
  | with_reducible refine' g_lt ?_
  | with_reducible refine' g_le ?_
  | with_reducible refine' g_gt ?_
  | with_reducible refine' g_ge ?_
  | with_reducible refine' g_ltS ?_
  | with_reducible refine' g_leS ?_
  | with_reducible refine' g_eqI ?_
  | with_reducible refine' g_neI ?_
  | with_reducible refine' g_eqB ?_
  | with_reducible refine' g_neB ?_
  | with_reducible refine' g_eqS ?_
  | with_reducible refine' g_neS ?_
  | with_reducible refine' g_isN ?_
  | with_reducible refine' g_isNot ?_
  | with_reducible refine' g_isB ?_
  | with_reducible refine' g_lenT ?_
  | with_reducible refine' g_lenL ?_
  | with_reducible refine' g_lenScr ?_
  | with_reducible refine' g_ixL ?_
  | with_reducible refine' g_ixT ?_
  | with_reducible refine' g_ix0 ?_
  | with_reducible refine' g_ix1 ?_
  | with_reducible refine' g_ix2 ?_
  | with_reducible refine' g_ix3 ?_
  | with_reducible refine' g_maxI ?_
  | with_reducible refine' g_minI ?_
  | with_reducible refine' g_absI ?_
  | with_reducible refine' g_intI ?_
  | with_reducible refine' g_intB ?_
  | with_reducible refine' g_tupL ?_
  | with_reducible refine' g_tupT ?_
  | with_reducible refine' g_slT ?_
  | with_reducible refine' g_slL ?_
  | ((with_reducible refine' g_isiI ?h ?k); (case h => first | rfl | assumption))
  | ((with_reducible refine' g_isiB ?h ?k); (case h => first | rfl | assumption))
  | ((with_reducible refine' g_isiS ?h ?k); (case h => first | rfl | assumption))
  | ((with_reducible refine' g_isiT ?h ?k); (case h => first | rfl | assumption))
  | ((with_reducible refine' g_isiL ?h ?k); (case h => first | rfl | assumption))
  | with_reducible refine' g_fmt ?_
  | with_reducible refine' g_js0 ?_
  | with_reducible refine' g_js ?_
  | with_reducible refine' g_rr ?_
  | with_reducible refine' iteT ?_
  | with_reducible refine' iteF ?_
  | with_reducible refine' iteNF ?_
  | with_reducible refine' iteNT ?_
  | with_reducible refine' ⟨_, rfl, ?_⟩
  | ((with_reducible refine' And.intro (a := _ ≤ 16777216) ?h ?k); (case h => first | decide | (simp only [List.length_cons, List.length_nil]; omega) | (simp; omega)))
  | ((with_reducible refine' And.intro (a := List.length _ = _) ?h ?k); (case h => rfl))
  )
local macro_rules | `(tactic| walk_at "v") => `(tactic| repeat (walk_at "v1"))
local macro_rules | `(tactic| walk_at "w") => `(tactic| repeat (first
  | with_reducible refine' g_seq ?_
  | with_reducible refine' g_nx ?_))
section
variable {env : Env} {fu : Nat} {E : Nat → Er → Prop} {QD Q : Nat → D → Prop} {QB : Nat → Bool → Prop} {QL : Nat → List D → Prop} {i j lo hi : Int} {d x y z : D} {ds es : List D} {b c : Bool} {s t : Str}
/-- an int within bounds -/
def isWh (d : D) (lo hi : Int) : Bool := match d with
  | .int i => decide (lo ≤ i) && decide (i ≤ hi)
  | _ => false
theorem a_is_whole (p : plainD d = true) (h : QD fu (.bool (isWh d lo hi))) : (F_is_whole [d, .int lo, .int hi]).go fu QD E := by
  refine g_def rfl ?_
  unfold B_is_whole
  cases d with
  | int i =>
    walk_at "v"
    have h : QD fu (.bool (decide (lo ≤ i) && decide (i ≤ hi))) := h
    refine v_cb (fun e => ?_) (fun e => ?_)
    · walk_at "v"
      rw [e] at h; exact h
    · walk_at "v"
      rw [e] at h; exact h
  | dict kv =>
    walk_at "v"
    exact h
  | _ =>
    walk_at "v"
    exact h
def isWord (d : D) (qs : List Str) : Bool := match d with
  | .str s => inV (.str s) (qs.map V.str)
  | _ => false
theorem strs_scal (qs : List Str) : (qs.map PyData.str).all scalD = true := by
  rw [List.all_map]; exact List.all_eq_true.mpr fun _ _ => rfl
theorem strs_toV (qs : List Str) : (qs.map PyData.str).map toV = qs.map V.str := by
  rw [List.map_map]; rfl
theorem a_is_word {qs : List Str} (p : plainD d = true) (h : QD fu (.bool (isWord d qs))) : (F_is_word [d, .tuple (qs.map PyData.str)]).go fu QD E := by
  refine g_def rfl ?_
  unfold B_is_word
  cases d with
  | str s =>
    walk_at "v"
    refine g_inT (by rw [strs_scal]; rfl) ?_
    walk_at "v"
    rw [strs_toV]
    exact h
  | dict kv =>
    walk_at "v"
    exact h
  | _ =>
    walk_at "v"
    exact h
def isFold (n : Int) (d : D) : Bool := isWh d 0 (n - 1)
theorem a_is_folder (p : plainD d = true) (h : QD fu (.bool (isFold i d))) : (F_is_folder [.int i, d]).go fu QD E := by
  refine g_def rfl ?_
  unfold B_is_folder
  walk_at "v"
  refine a_is_whole p ?_
  walk_at "v"
  exact h
theorem a_is_path (p : plainD d = true) (h : QD fu (.bool (isWh d 0 3))) : (F_is_path [d]).go fu QD E := by
  refine g_def rfl ?_
  unfold B_is_path
  walk_at "v"
  refine a_is_whole p ?_
  walk_at "v"
  exact h
def neInt (f t : D) : Bool := match f, t with
  | .int a, .int b => !decide (a = b)
  | _, _ => false
/-- a paper deed for n folders -/
def isDeed (n : Int) (d : D) : Bool := match d with
  | .tuple [w, f, t] => isFold n f && (if isWord w ["over", "under"] then isFold n t && neInt f t else isWord w ["write", "throw"] && isWh t 0 3)
  | _ => false
def okDeed (d : D) : Bool := plainD d && (match d with
  | .tuple ds => ds.all plainD
  | _ => true)
theorem isWh_int {d : D} {lo hi : Int} (h : isWh d lo hi = true) : ∃ i, d = .int i ∧ lo ≤ i ∧ i ≤ hi := by
  unfold isWh at h
  split at h
  · simp only [Bool.and_eq_true, decide_eq_true_eq] at h
    exact ⟨_, rfl, h.1, h.2⟩
  · cases h
theorem a_is_paper_deed (p : okDeed d = true) (h : QD fu (.bool (isDeed i d))) : (F_is_paper_deed [.int i, d]).go fu QD E := by
  refine g_def rfl ?_
  unfold B_is_paper_deed
  cases d with
  | tuple ds =>
    match ds, p, h with
    | [w, f, t], p, h =>
      unfold okDeed at p
      simp only [Bool.and_eq_true, List.all_cons, List.all_nil] at p
      obtain ⟨_, pw, pf, pt, _⟩ := p
      walk_at "v"
      refine v_ifT rfl ?_
      walk_at "v"
      refine a_is_folder pf ?_
      have h : QD fu (.bool (isFold i f && (if isWord w ["over", "under"] then isFold i t && neInt f t else isWord w ["write", "throw"] && isWh t 0 3))) := h
      walk_at "v"
      refine v_cn (fun e => ?_) (fun e => ?_)
      · rw [e] at h
        walk_at "v"
        exact h
      · rw [e] at h
        walk_at "v"
        refine a_is_word (qs := ["over", "under"]) pw ?_
        walk_at "v"
        refine v_cb (fun e2 => ?_) (fun e2 => ?_)
        · rw [e2, if_pos rfl] at h
          walk_at "v"
          refine a_is_folder pt ?_
          walk_at "v"
          refine v_cb (fun e3 => ?_) (fun e3 => ?_)
          · rw [e3] at h
            obtain ⟨a, rfl, _, _⟩ := isWh_int e
            obtain ⟨b, rfl, _, _⟩ := isWh_int e3
            walk_at "v"
            exact h
          · rw [e3] at h
            walk_at "v"
            rw [e3]
            exact h
        · rw [e2, if_neg (by decide)] at h
          walk_at "v"
          refine a_is_word (qs := ["write", "throw"]) pw ?_
          walk_at "v"
          refine v_cb (fun e3 => ?_) (fun e3 => ?_)
          · rw [e3] at h
            walk_at "v"
            refine a_is_path pt ?_
            walk_at "v"
            exact h
          · rw [e3] at h
            walk_at "v"
            rw [e3]
            exact h
    | [], p, h =>
      walk_at "v"
      refine v_ifF (by simp) ?_
      walk_at "v"
      exact h
    | [_], p, h =>
      walk_at "v"
      refine v_ifF (by simp) ?_
      walk_at "v"
      exact h
    | [_, _], p, h =>
      walk_at "v"
      refine v_ifF (by simp) ?_
      walk_at "v"
      exact h
    | _ :: _ :: _ :: _ :: r, p, h =>
      walk_at "v"
      refine v_ifF (by simp only [List.length_cons]; omega) ?_
      walk_at "v"
      exact h
  | dict kv =>
    unfold okDeed at p
    rw [Bool.and_eq_true] at p
    have p := p.1
    walk_at "v"
    exact h
  | _ =>
    walk_at "v"
    exact h
end
end DL
namespace DL
open PySem PySem.Spec PyProof.Rows L2
local macro_rules | `(tactic| walk_at "v1") => `(tactic| first
  | with_reducible refine' g_seq ?_
  | with_reducible refine' g_nx ?_
  | with_reducible refine' g_set ?_
  | with_reducible refine' g_c ?_
  | ((with_reducible refine' g_var (d := ?d) ?h ?k); (case h => exact rfl))
  | with_reducible refine' g_cons ?_
  | with_reducible refine' g_nil ?_
  | ((with_reducible refine' g_call ?_))
  | ((with_reducible refine' g_callK ?_))
  | ((with_reducible refine' g_callL ?_))
  | with_reducible refine' g_callD ?_
  | with_reducible refine' g_bin ?_
  | with_reducible refine' g_un ?_
  | with_reducible refine' g_ret ?_
  | with_reducible refine' g_retN ?_
  | with_reducible refine' g_retL ?_
  | with_reducible refine' g_rl ?_
  | with_reducible refine' g_dfL ?_
  | with_reducible refine' g_dlL ?_
  | with_reducible refine' g_dlX ?_
  | with_reducible refine' g_lpL ?_
  | with_reducible refine' g_trL ?_
  | with_reducible refine' g_suL ?_
  | ((with_reducible refine' g_retO (es := ?es) ?h ?k); (case h => exact rfl))
  | ((with_reducible refine' g_retOv (d := ?d) ?h ?k); (case h => exact rfl))
  | with_reducible refine' g_dfR ?_
  | with_reducible refine' g_dfN ?_
  | with_reducible refine' g_dfX ?_
  | with_reducible refine' g_rt ?_
  | with_reducible refine' g_bk ?_
  | with_reducible refine' g_ct ?_
  | with_reducible refine' g_ex ?_
  | with_reducible refine' g_lpN ?_
  | with_reducible refine' g_lpC ?_
  | with_reducible refine' g_lpB ?_
  | with_reducible refine' g_lpR ?_
  | with_reducible refine' g_lpX ?_
  | with_reducible refine' g_trN ?_
  | with_reducible refine' g_trR ?_
  | with_reducible refine' g_trX ?_
  | with_reducible refine' g_suN ?_
  | with_reducible refine' g_suR ?_
  | with_reducible refine' g_try ?_
  | with_reducible refine' g_hd0 ?_
  | ((with_reducible refine' g_hdY ?h ?k); (case h => rfl))
  | ((with_reducible refine' g_hdN ?h ?k); (case h => rfl))
  | with_reducible refine' g_raise ?_
  | with_reducible refine' g_if ?_
  | with_reducible refine' g_tru ?_
  | with_reducible refine' g_blT ?_
  | with_reducible refine' g_andT ?_
  | with_reducible refine' g_orT ?_
  | with_reducible refine' g_notT ?_
  | with_reducible refine' g_yes ?_
  | with_reducible refine' g_and ?_
  | with_reducible refine' g_or ?_
  | with_reducible refine' g_not ?_
  | with_reducible refine' g_ife ?_
  | with_reducible refine' g_chain ?_
  | with_reducible refine' g_isi ?_
  | with_reducible refine' g_truB ?_
  | with_reducible refine' g_truI ?_
  | with_reducible refine' g_truN ?_
  | with_reducible refine' g_truT ?_
  | with_reducible refine' g_truL ?_
  | with_reducible refine' g_tup ?_
  | with_reducible refine' g_disp ?_
  | with_reducible refine' g_lst ?_
  | with_reducible refine' g_list ?_
  | with_reducible refine' g_iter ?_
  | with_reducible refine' g_itT ?_
  | with_reducible refine' g_itL ?_
  | with_reducible refine' g_elT ?_
  | with_reducible refine' g_elL ?_
  | with_reducible refine' g_rng ?_
  | with_reducible refine' g_setO ?_
  | with_reducible refine' g_drop ?_
  | with_reducible refine' g_pass ?_
  | with_reducible refine' g_brk ?_
  | with_reducible refine' g_ct' ?_
  | with_reducible refine' g_asg ?_
  | with_reducible refine' g_tName ?_
  | ((with_reducible refine' g_tTup ?h ?k); (case h => rfl))
  | with_reducible refine' g_tCons ?_
  | with_reducible refine' g_tNil ?_
  | ((with_reducible refine' g_frz (e := ?e) ?h ?k); (case h => exact rfl))
  | ((with_reducible refine' g_app (es := ?es) ?h ?k); (case h => exact rfl))
  | with_reducible refine' g_put ?_
  | with_reducible refine' g_par ?_
  | ((with_reducible refine' g_aug (x := ?x) ?h ?k); (case h => exact rfl))
  | with_reducible refine' g_for ?_
  | with_reducible refine' g_sl ?_
  | with_reducible refine' g_noPart ?_
  | with_reducible refine' g_part ?_
  | with_reducible refine' g_rep ?_
  | ((with_reducible refine' g_ownLen (es := ?es) ?h ?k); (case h => exact rfl))
  | ((with_reducible refine' g_ownTup (es := ?es) ?h ?k); (case h => exact rfl))
  | ((with_reducible refine' g_ownTupV (d := ?d) ?h ?k); (case h => exact rfl))
  | ((with_reducible refine' g_ownInF (es := ?es) ?h ?k); (case h => exact rfl))
  | ((with_reducible refine' g_ownInT (es := ?es) ?h ?k); (case h => exact rfl))
  | ((with_reducible refine' g_ownEqF (es := ?es) ?h ?k); (case h => exact rfl))
  | ((with_reducible refine' g_ownEqT (es := ?es) ?h ?k); (case h => exact rfl))
  | ((with_reducible refine' g_ownIsi (es := ?es) ?h ?k); (case h => exact rfl))
  | ((with_reducible refine' g_ownIt (es := ?es) ?h ?k); (case h => exact rfl))
  | ((with_reducible refine' g_ownIx (es := ?es) ?h ?k); (case h => exact rfl))
  | with_reducible refine' g_addI ?_
  | with_reducible refine' g_addII ?_
  | with_reducible refine' g_subII ?_
  | with_reducible refine' g_sub ?_
  | ((with_reducible refine' g_mod ?h ?k); (case h => first | decide | omega))
  | ((with_reducible refine' g_div ?h ?k); (case h => first | decide | omega))
  | ((with_reducible refine' g_mul ?h ?k); (case h => first | decide | omega))
  | ((with_reducible refine' g_pow ?h ?k); (case h => decide))
  | with_reducible refine' g_neg ?_
  | with_reducible refine' g_lt ?_
  | with_reducible refine' g_le ?_
  | with_reducible refine' g_gt ?_
  | with_reducible refine' g_ge ?_
  | with_reducible refine' g_ltS ?_
  | with_reducible refine' g_leS ?_
  | with_reducible refine' g_eqI ?_
  | with_reducible refine' g_neI ?_
  | with_reducible refine' g_eqB ?_
  | with_reducible refine' g_neB ?_
  | with_reducible refine' g_eqS ?_
  | with_reducible refine' g_neS ?_
  | with_reducible refine' g_isN ?_
  | with_reducible refine' g_isNot ?_
  | with_reducible refine' g_isB ?_
  | with_reducible refine' g_lenT ?_
  | with_reducible refine' g_lenL ?_
  | with_reducible refine' g_lenScr ?_
  | with_reducible refine' g_ixL ?_
  | with_reducible refine' g_ixT ?_
  | with_reducible refine' g_ix0 ?_
  | with_reducible refine' g_ix1 ?_
  | with_reducible refine' g_ix2 ?_
  | with_reducible refine' g_ix3 ?_
  | with_reducible refine' g_maxI ?_
  | with_reducible refine' g_minI ?_
  | with_reducible refine' g_absI ?_
  | with_reducible refine' g_intI ?_
  | with_reducible refine' g_intB ?_
  | with_reducible refine' g_tupL ?_
  | with_reducible refine' g_tupT ?_
  | with_reducible refine' g_slT ?_
  | with_reducible refine' g_slL ?_
  | ((with_reducible refine' g_isiI ?h ?k); (case h => first | rfl | assumption))
  | ((with_reducible refine' g_isiB ?h ?k); (case h => first | rfl | assumption))
  | ((with_reducible refine' g_isiS ?h ?k); (case h => first | rfl | assumption))
  | ((with_reducible refine' g_isiT ?h ?k); (case h => first | rfl | assumption))
  | ((with_reducible refine' g_isiL ?h ?k); (case h => first | rfl | assumption))
  | with_reducible refine' g_fmt ?_
  | with_reducible refine' g_js0 ?_
  | with_reducible refine' g_js ?_
  | with_reducible refine' g_rr ?_
  | with_reducible refine' iteT ?_
  | with_reducible refine' iteF ?_
  | with_reducible refine' iteNF ?_
  | with_reducible refine' iteNT ?_
  | with_reducible refine' ⟨_, rfl, ?_⟩
  | ((with_reducible refine' And.intro (a := _ ≤ 16777216) ?h ?k); (case h => first | decide | (simp only [List.length_cons, List.length_nil]; omega) | (simp; omega)))
  | ((with_reducible refine' And.intro (a := List.length _ = _) ?h ?k); (case h => rfl))
  )
local macro_rules | `(tactic| walk_at "v") => `(tactic| repeat (walk_at "v1"))
local macro_rules | `(tactic| walk_at "w") => `(tactic| repeat (first
  | with_reducible refine' g_seq ?_
  | with_reducible refine' g_nx ?_))
section
variable {env : Env} {fu : Nat} {E : Nat → Er → Prop} {QD Q : Nat → D → Prop} {QB : Nat → Bool → Prop} {QL : Nat → List D → Prop} {i j lo hi : Int} {d x y z : D} {ds es : List D} {b c : Bool} {s t : Str}
theorem map_bool (f : D → Bool) (ds : List D) : ds.map (fun d => PyData.bool (f d)) = (ds.map f).map PyData.bool := by rw [List.map_map]; rfl
theorem a_need_size (p : plainD d = true) (hy : isWh d 1 6 = true → QD fu .none) (hn : isWh d 1 6 = false → E fu ⟨"BadSize", []⟩) : (F_need_size [d]).go fu QD E := by
  refine g_def rfl ?_
  unfold B_need_size
  walk_at "v"
  refine a_is_whole p ?_
  walk_at "v"
  refine v_cn (fun e => ?_) (fun e => ?_)
  · walk_at "v"
    refine g_fmtI (by decide) ?_
    walk_at "v"
    exact hn e
  · walk_at "v"
    exact hy e
def isScript (n : Int) (d : D) : Bool := match d with
  | .tuple ds => decide ((ds.length : Int) ≤ 30) && (ds.map (isDeed n)).all id
  | _ => false
def okScript (d : D) : Bool := plainD d && (match d with
  | .tuple ds => ds.all okDeed && decide (ds.length ≤ 1000)
  | _ => true)
theorem a_is_script (p : okScript d = true) (px : plainD x = true) (hy : ∀ n, x = .int n → 1 ≤ n → n ≤ 6 → QD fu (.bool (isScript n d))) (hn : isWh x 1 6 = false → E fu ⟨"BadSize", []⟩) : (F_is_script [x, d]).go fu QD E := by
  refine g_def rfl ?_
  unfold B_is_script
  walk_at "v"
  refine a_need_size px (fun e => ?_) (fun e => ?_)
  rotate_left
  · walk_at "v"
    exact hn e
  obtain ⟨n, rfl, h1, h2⟩ := isWh_int e
  have h := hy n rfl h1 h2
  unfold okScript at p
  simp only [Bool.and_eq_true] at p
  obtain ⟨p1, p2⟩ := p
  walk_at "v"
  cases d with
  | tuple ds =>
    have h : QD fu (.bool (decide ((ds.length : Int) ≤ 30) && (ds.map (isDeed n)).all id)) := h
    simp only [Bool.and_eq_true, List.all_eq_true, decide_eq_true_eq] at p2
    walk_at "v"
    refine v_cb (fun e2 => ?_) (fun e2 => ?_)
    · rw [e2] at h
      walk_at "v"
      refine g_comp ?_
      walk_at "v"
      refine ⟨by omega, g_compMap (fun d => .bool (isDeed n d)) (fun d hd fu QX hq => g_item ?_) ?_⟩
      · walk_at "v"
        refine a_is_paper_deed (p2.1 d hd) ?_
        walk_at "v"
        exact hq
      · walk_at "v"
        refine g_allB (map_bool _ _) ?_
        walk_at "v"
        exact h
    · rw [e2] at h
      walk_at "v"
      rw [e2]; exact h
  | _ =>
    walk_at "v"
    exact h
end
end DL
namespace DL
open PySem PySem.Spec PyProof.Rows L2
local macro_rules | `(tactic| walk_at "v1") => `(tactic| first
  | with_reducible refine' g_seq ?_
  | with_reducible refine' g_nx ?_
  | with_reducible refine' g_set ?_
  | with_reducible refine' g_c ?_
  | ((with_reducible refine' g_var (d := ?d) ?h ?k); (case h => exact rfl))
  | with_reducible refine' g_cons ?_
  | with_reducible refine' g_nil ?_
  | ((with_reducible refine' g_call ?_))
  | ((with_reducible refine' g_callK ?_))
  | ((with_reducible refine' g_callL ?_))
  | with_reducible refine' g_callD ?_
  | with_reducible refine' g_bin ?_
  | with_reducible refine' g_un ?_
  | with_reducible refine' g_ret ?_
  | with_reducible refine' g_retN ?_
  | with_reducible refine' g_retL ?_
  | with_reducible refine' g_rl ?_
  | with_reducible refine' g_dfL ?_
  | with_reducible refine' g_dlL ?_
  | with_reducible refine' g_dlX ?_
  | with_reducible refine' g_lpL ?_
  | with_reducible refine' g_trL ?_
  | with_reducible refine' g_suL ?_
  | ((with_reducible refine' g_retO (es := ?es) ?h ?k); (case h => exact rfl))
  | ((with_reducible refine' g_retOv (d := ?d) ?h ?k); (case h => exact rfl))
  | with_reducible refine' g_dfR ?_
  | with_reducible refine' g_dfN ?_
  | with_reducible refine' g_dfX ?_
  | with_reducible refine' g_rt ?_
  | with_reducible refine' g_bk ?_
  | with_reducible refine' g_ct ?_
  | with_reducible refine' g_ex ?_
  | with_reducible refine' g_lpN ?_
  | with_reducible refine' g_lpC ?_
  | with_reducible refine' g_lpB ?_
  | with_reducible refine' g_lpR ?_
  | with_reducible refine' g_lpX ?_
  | with_reducible refine' g_trN ?_
  | with_reducible refine' g_trR ?_
  | with_reducible refine' g_trX ?_
  | with_reducible refine' g_suN ?_
  | with_reducible refine' g_suR ?_
  | with_reducible refine' g_try ?_
  | with_reducible refine' g_hd0 ?_
  | ((with_reducible refine' g_hdY ?h ?k); (case h => rfl))
  | ((with_reducible refine' g_hdN ?h ?k); (case h => rfl))
  | with_reducible refine' g_raise ?_
  | with_reducible refine' g_if ?_
  | with_reducible refine' g_tru ?_
  | with_reducible refine' g_blT ?_
  | with_reducible refine' g_andT ?_
  | with_reducible refine' g_orT ?_
  | with_reducible refine' g_notT ?_
  | with_reducible refine' g_yes ?_
  | with_reducible refine' g_and ?_
  | with_reducible refine' g_or ?_
  | with_reducible refine' g_not ?_
  | with_reducible refine' g_ife ?_
  | with_reducible refine' g_chain ?_
  | with_reducible refine' g_isi ?_
  | with_reducible refine' g_truB ?_
  | with_reducible refine' g_truI ?_
  | with_reducible refine' g_truN ?_
  | with_reducible refine' g_truT ?_
  | with_reducible refine' g_truL ?_
  | with_reducible refine' g_tup ?_
  | with_reducible refine' g_disp ?_
  | with_reducible refine' g_lst ?_
  | with_reducible refine' g_list ?_
  | with_reducible refine' g_iter ?_
  | with_reducible refine' g_itT ?_
  | with_reducible refine' g_itL ?_
  | with_reducible refine' g_elT ?_
  | with_reducible refine' g_elL ?_
  | with_reducible refine' g_rng ?_
  | with_reducible refine' g_setO ?_
  | with_reducible refine' g_drop ?_
  | with_reducible refine' g_pass ?_
  | with_reducible refine' g_brk ?_
  | with_reducible refine' g_ct' ?_
  | with_reducible refine' g_asg ?_
  | with_reducible refine' g_tName ?_
  | ((with_reducible refine' g_tTup ?h ?k); (case h => rfl))
  | with_reducible refine' g_tCons ?_
  | with_reducible refine' g_tNil ?_
  | ((with_reducible refine' g_frz (e := ?e) ?h ?k); (case h => exact rfl))
  | ((with_reducible refine' g_app (es := ?es) ?h ?k); (case h => exact rfl))
  | with_reducible refine' g_put ?_
  | with_reducible refine' g_par ?_
  | ((with_reducible refine' g_aug (x := ?x) ?h ?k); (case h => exact rfl))
  | with_reducible refine' g_for ?_
  | with_reducible refine' g_sl ?_
  | with_reducible refine' g_noPart ?_
  | with_reducible refine' g_part ?_
  | with_reducible refine' g_rep ?_
  | ((with_reducible refine' g_ownLen (es := ?es) ?h ?k); (case h => exact rfl))
  | ((with_reducible refine' g_ownTup (es := ?es) ?h ?k); (case h => exact rfl))
  | ((with_reducible refine' g_ownTupV (d := ?d) ?h ?k); (case h => exact rfl))
  | ((with_reducible refine' g_ownInF (es := ?es) ?h ?k); (case h => exact rfl))
  | ((with_reducible refine' g_ownInT (es := ?es) ?h ?k); (case h => exact rfl))
  | ((with_reducible refine' g_ownEqF (es := ?es) ?h ?k); (case h => exact rfl))
  | ((with_reducible refine' g_ownEqT (es := ?es) ?h ?k); (case h => exact rfl))
  | ((with_reducible refine' g_ownIsi (es := ?es) ?h ?k); (case h => exact rfl))
  | ((with_reducible refine' g_ownIt (es := ?es) ?h ?k); (case h => exact rfl))
  | ((with_reducible refine' g_ownIx (es := ?es) ?h ?k); (case h => exact rfl))
  | with_reducible refine' g_addI ?_
  | with_reducible refine' g_addII ?_
  | with_reducible refine' g_subII ?_
  | with_reducible refine' g_sub ?_
  | ((with_reducible refine' g_mod ?h ?k); (case h => first | decide | omega))
  | ((with_reducible refine' g_div ?h ?k); (case h => first | decide | omega))
  | ((with_reducible refine' g_mul ?h ?k); (case h => first | decide | omega))
  | ((with_reducible refine' g_pow ?h ?k); (case h => decide))
  | with_reducible refine' g_neg ?_
  | with_reducible refine' g_lt ?_
  | with_reducible refine' g_le ?_
  | with_reducible refine' g_gt ?_
  | with_reducible refine' g_ge ?_
  | with_reducible refine' g_ltS ?_
  | with_reducible refine' g_leS ?_
  | with_reducible refine' g_eqI ?_
  | with_reducible refine' g_neI ?_
  | with_reducible refine' g_eqB ?_
  | with_reducible refine' g_neB ?_
  | with_reducible refine' g_eqS ?_
  | with_reducible refine' g_neS ?_
  | with_reducible refine' g_isN ?_
  | with_reducible refine' g_isNot ?_
  | with_reducible refine' g_isB ?_
  | with_reducible refine' g_lenT ?_
  | with_reducible refine' g_lenL ?_
  | with_reducible refine' g_lenScr ?_
  | with_reducible refine' g_ixL ?_
  | with_reducible refine' g_ixT ?_
  | with_reducible refine' g_ix0 ?_
  | with_reducible refine' g_ix1 ?_
  | with_reducible refine' g_ix2 ?_
  | with_reducible refine' g_ix3 ?_
  | with_reducible refine' g_maxI ?_
  | with_reducible refine' g_minI ?_
  | with_reducible refine' g_absI ?_
  | with_reducible refine' g_intI ?_
  | with_reducible refine' g_intB ?_
  | with_reducible refine' g_tupL ?_
  | with_reducible refine' g_tupT ?_
  | with_reducible refine' g_slT ?_
  | with_reducible refine' g_slL ?_
  | ((with_reducible refine' g_isiI ?h ?k); (case h => first | rfl | assumption))
  | ((with_reducible refine' g_isiB ?h ?k); (case h => first | rfl | assumption))
  | ((with_reducible refine' g_isiS ?h ?k); (case h => first | rfl | assumption))
  | ((with_reducible refine' g_isiT ?h ?k); (case h => first | rfl | assumption))
  | ((with_reducible refine' g_isiL ?h ?k); (case h => first | rfl | assumption))
  | with_reducible refine' g_fmt ?_
  | with_reducible refine' g_js0 ?_
  | with_reducible refine' g_js ?_
  | with_reducible refine' g_rr ?_
  | with_reducible refine' iteT ?_
  | with_reducible refine' iteF ?_
  | with_reducible refine' iteNF ?_
  | with_reducible refine' iteNT ?_
  | with_reducible refine' ⟨_, rfl, ?_⟩
  | ((with_reducible refine' And.intro (a := _ ≤ 16777216) ?h ?k); (case h => first | decide | (simp only [List.length_cons, List.length_nil]; omega) | (simp; omega)))
  | ((with_reducible refine' And.intro (a := List.length _ = _) ?h ?k); (case h => rfl))
  )
local macro_rules | `(tactic| walk_at "v") => `(tactic| repeat (walk_at "v1"))
local macro_rules | `(tactic| walk_at "w") => `(tactic| repeat (first
  | with_reducible refine' g_seq ?_
  | with_reducible refine' g_nx ?_))
inductive Sc | f (i : Nat) | w (p : Nat) deriving DecidableEq
def Sc.d : Sc → D
  | .f i => .tuple [.str "first", .int (i : Nat)]
  | .w p => .tuple [.str "written", .int (p : Nat)]
def Sc.tok : Sc → D
  | .f _ => .str "first"
  | .w _ => .str "written"
def Sc.nr : Sc → Nat
  | .f i => i
  | .w p => p
theorem Sc.d_eq (s : Sc) : s.d = .tuple [s.tok, .int (s.nr : Nat)] := by cases s <;> rfl
theorem ne_fw : (PyData.eqv (.str "first") (.str "written")) = false := by decide +kernel
theorem ne_wf : (PyData.eqv (.str "written") (.str "first")) = false := by decide +kernel
theorem eq_ff : (PyData.eqv (.str "first") (.str "first")) = true := by decide +kernel
theorem eq_ww : (PyData.eqv (.str "written") (.str "written")) = true := by decide +kernel
theorem eqv_int (a b : Nat) : PyData.eqv (.int (a : Int)) (.int (b : Int)) = decide (a = b) := by
  show ((a : Int) == (b : Int)) = _
  by_cases h : a = b
  · subst h; simp
  · rw [decide_eq_false h]; simp; omega
theorem eqv_two (a b c d : D) : PyData.eqv (.tuple [a, b]) (.tuple [c, d]) = (PyData.eqv a c && PyData.eqv b d) := by
  simp [PyData.eqv, PyData.eqvAll]
theorem eqv_src (x y : D) (i j : Nat) : PyData.eqv (.tuple [x, .int (i : Nat)]) (.tuple [y, .int (j : Nat)]) = (PyData.eqv x y && decide (i = j)) := by rw [eqv_two, eqv_int]
theorem eqv_sc (a b : Sc) : PyData.eqv a.d b.d = decide (a = b) := by
  cases a with
  | f i => cases b with
    | f j =>
      refine (eqv_src _ _ i j).trans ?_
      rw [eq_ff, Bool.true_and]
      by_cases h : i = j
      · rw [decide_eq_true h, decide_eq_true (by rw [h])]
      · rw [decide_eq_false h, decide_eq_false (by intro e; cases e; exact h rfl)]
    | w j =>
      refine (eqv_src _ _ i j).trans ?_
      rw [ne_fw, Bool.false_and, decide_eq_false (by intro e; cases e)]
  | w i => cases b with
    | f j =>
      refine (eqv_src _ _ i j).trans ?_
      rw [ne_wf, Bool.false_and, decide_eq_false (by intro e; cases e)]
    | w j =>
      refine (eqv_src _ _ i j).trans ?_
      rw [eq_ww, Bool.true_and]
      by_cases h : i = j
      · rw [decide_eq_true h, decide_eq_true (by rw [h])]
      · rw [decide_eq_false h, decide_eq_false (by intro e; cases e; exact h rfl)]
theorem canLay_sc (s : Sc) : PyData.canLay0 s.d = true := by
  have h1 : PyData.canLay0 (.str "first") = true := by decide +kernel
  have h2 : PyData.canLay0 (.str "written") = true := by decide +kernel
  cases s
  · show (PyData.canLay0 (.str "first") && (true && true)) = true
    rw [h1]; rfl
  · show (PyData.canLay0 (.str "written") && (true && true)) = true
    rw [h2]; rfl
theorem depth_sc (s : Sc) : PyData.depth s.d ≤ 1 := by
  cases s <;> simp [Sc.d, PyData.depth, PyData.depthAll]
theorem shaped_sc (s : Sc) : SeqAt.shaped s.d = true := by
  unfold SeqAt.shaped
  rw [canLay_sc, decide_eq_true (by have := depth_sc s; omega)]; rfl
theorem canLayAll_of {ds : List D} (h : ∀ d ∈ ds, PyData.canLay0 d = true) : PyData.canLayAll0 ds = true := by
  induction ds with
  | nil => rfl
  | cons d ds ih => show (PyData.canLay0 d && PyData.canLayAll0 ds) = true; rw [h d List.mem_cons_self, ih fun x hx => h x (List.mem_cons_of_mem _ hx)]; rfl
theorem depthAll_of {ds : List D} {k : Nat} (h : ∀ d ∈ ds, PyData.depth d ≤ k) : PyData.depthAll ds ≤ k := by
  induction ds with
  | nil => exact Nat.zero_le _
  | cons d ds ih =>
    have h1 := h d List.mem_cons_self
    have h2 := ih fun x hx => h x (List.mem_cons_of_mem _ hx)
    simp only [PyData.depthAll]; omega
theorem shapedT_of {ds : List D} (h : ∀ d ∈ ds, PyData.canLay0 d = true ∧ PyData.depth d ≤ 60) : SeqAt.shaped (.tuple ds) = true := by
  unfold SeqAt.shaped
  have h1 : PyData.canLay0 (.tuple ds) = true := by simp only [PyData.canLay0]; exact canLayAll_of fun d hd => (h d hd).1
  have h2 : PyData.depth (.tuple ds) ≤ 61 := by
    have := depthAll_of fun d hd => (h d hd).2
    simp only [PyData.depth]; omega
  rw [h1, decide_eq_true (by omega)]; rfl
def rowD (r : List Sc) : D := .tuple (r.map Sc.d)
def rowsD (rs : List (List Sc)) : D := .tuple (rs.map rowD)
theorem shaped_row (r : List Sc) : SeqAt.shaped (rowD r) = true := shapedT_of fun d hd => by
  obtain ⟨s, _, rfl⟩ := List.mem_map.mp hd
  exact ⟨canLay_sc s, by have := depth_sc s; omega⟩
theorem any_row (r : List Sc) (s : Sc) : ((r.map Sc.d).any fun z => PyData.eqv z s.d) = decide (s ∈ r) := by
  rw [List.any_map]
  by_cases h : s ∈ r
  · rw [decide_eq_true h]
    exact List.any_eq_true.mpr ⟨s, h, by show PyData.eqv s.d s.d = true; rw [eqv_sc]; simp⟩
  · rw [decide_eq_false h]
    refine List.any_eq_false.mpr fun x hx => ?_
    show ¬ PyData.eqv x.d s.d = true
    rw [eqv_sc]; simp; intro e; subst e; exact h hx
def isW : Sc → Bool
  | .w _ => true
  | _ => false
def endsW (a : List Sc) : Bool := match a.getLast? with
  | some s => isW s
  | none => false
def laid (a b : List Sc) : List Sc := if endsW a = true then a else a ++ b.filter fun s => !decide (s ∈ a)
section
variable {env : Env} {fu : Nat} {E : Nat → Er → Prop} {QD Q : Nat → D → Prop} {QB : Nat → Bool → Prop} {QL : Nat → List D → Prop} {i j lo hi : Int} {d x y z : D} {ds es : List D} {b c : Bool} {s t : Str} {n : Nat}
theorem ixN_nat {m k : Nat} (h : k < m) : ixN m (k : Int) = some k := by
  unfold ixN
  rw [if_pos (by omega), if_pos (by omega), Int.toNat_natCast]
theorem ixL_nat {ds : List D} {k : Nat} (h : k < ds.length) : ixL ds (k : Int) = .ret ds[k] := by
  unfold ixL atI
  rw [ixN_nat h]
  show (match ds[k]? with | some d => R.ret d | none => R.bad) = _
  rw [List.getElem?_eq_getElem h]
theorem ixL_last {ds : List D} {x : D} (h : ds.getLast? = some x) : ixL ds (-1) = .ret x := by
  have hl : 0 < ds.length := by
    cases ds with
    | nil => cases h
    | cons => simp
  unfold ixL atI ixN
  rw [if_neg (by decide), if_pos (by omega), show (-1 + (ds.length : Int)).toNat = ds.length - 1 by omega]
  rw [List.getLast?_eq_getElem?] at h
  show (match ds[ds.length - 1]? with | some d => R.ret d | none => R.bad) = _
  rw [h]
theorem eqv_tokW (s : Sc) : (match s.tok with | .str z => decide (z = ("written" : Str)) | _ => false) = isW s := by
  cases s
  · show decide (("first" : Str) = "written") = false; decide +kernel
  · show decide (("written" : Str) = "written") = true; decide +kernel
theorem cut_hi {α : Type} (xs : List α) (k : Nat) (h : k ≤ xs.length) : cutD xs none (some (k : Int)) = xs.take k := by
  unfold cutD
  rw [HT.sIx_none, HT.sIx_nat, List.drop_zero, Nat.min_eq_left h, Nat.sub_zero]
theorem cut_lo {α : Type} (xs : List α) (k : Nat) (h : k ≤ xs.length) : cutD xs (some (k : Int)) none = xs.drop k := by
  unfold cutD
  rw [HT.sIx_none, HT.sIx_nat, Nat.min_eq_left h]
  exact List.take_of_length_le (by rw [List.length_drop]; exact Nat.le_refl _)
theorem set_cut {α : Type} {xs : List α} {k : Nat} {x : α} (h : k < xs.length) : xs.take k ++ [x] ++ xs.drop (k + 1) = xs.set k x := by
  rw [List.set_eq_take_append_cons_drop, if_pos h, List.append_assoc]; rfl
/-- the bounds that keep all sizes small -/
structure RowOk (k : Nat) (r : List Sc) : Prop where
  nd : r.Nodup
  b : ∀ s ∈ r, s.nr < k
theorem nodup_len {α : Type} [DecidableEq α] : ∀ {l u : List α}, l.Nodup → (∀ a ∈ l, a ∈ u) → l.length ≤ u.length
  | [], _, _, _ => Nat.zero_le _
  | a :: l, u, hn, hs => by
    have h1 := hs a List.mem_cons_self
    have hn' := List.nodup_cons.mp hn
    have := nodup_len (l := l) (u := u.erase a) hn'.2 fun x hx => (List.mem_erase_of_ne (fun e => hn'.1 (by rw [e] at hx; exact hx))).mpr (hs x (List.mem_cons_of_mem _ hx))
    have h3 := List.length_erase_of_mem h1
    have h4 := List.length_pos_of_mem h1
    simp only [List.length_cons]
    omega
theorem RowOk.len {k : Nat} {r : List Sc} (h : RowOk k r) : r.length ≤ 2 * k := by
  have := nodup_len (u := (List.range k).map Sc.f ++ (List.range k).map Sc.w) h.nd fun s hs => by
    have := h.b s hs
    cases s with
    | f i => exact List.mem_append_left _ (List.mem_map.mpr ⟨i, List.mem_range.mpr this, rfl⟩)
    | w i => exact List.mem_append_right _ (List.mem_map.mpr ⟨i, List.mem_range.mpr this, rfl⟩)
  simp only [List.length_append, List.length_map, List.length_range] at this
  omega
theorem RowOk.laid {k : Nat} {a b : List Sc} (h1 : RowOk k a) (h2 : RowOk k b) : RowOk k (laid a b) := by
  unfold DL.laid
  split
  · exact h1
  · refine ⟨List.nodup_append.mpr ⟨h1.nd, h2.nd.filter _, ?_⟩, fun s hs => ?_⟩
    · rintro x hx y hy rfl
      have := (List.mem_filter.mp hy).2
      rw [decide_eq_true hx] at this
      cases this
    · rcases List.mem_append.mp hs with hs | hs
      · exact h1.b s hs
      · exact h2.b s (List.mem_filter.mp hs).1
theorem compF {α : Type} (enc : α → D) (p : α → Bool) (g : α → D) {body : D → R (Option D)} : ∀ {l : List α} {fu : Nat} {QL : Nat → List D → Prop}, (∀ s ∈ l, ∀ fu (QX : Nat → Option D → Prop), QX fu (if p s = true then some (g s) else none) → (body (enc s)).wp fu QX E) → QL fu ((l.filter p).map g) → (compL body (l.map enc)).wp fu QL E
  | [], fu, QL, _, h => h
  | s :: l, fu, QL, hb, h => by
    refine bndI (hb s List.mem_cons_self fu _ ?_)
    refine bndI (compF enc p g (fun x hx => hb x (List.mem_cons_of_mem _ hx)) ?_)
    by_cases hp : p s = true
    · rw [if_pos hp]
      rw [List.filter_cons_of_pos hp] at h
      exact h
    · rw [if_neg hp]
      rw [List.filter_cons_of_neg hp] at h
      exact h
theorem g_compF {α : Type} (enc : α → D) (p : α → Bool) (g : α → D) {body : D → R (Option D)} {l : List α} {fu : Nat} {QL : Nat → List D → Prop} (hb : ∀ s ∈ l, ∀ fu (QX : Nat → Option D → Prop), QX fu (if p s = true then some (g s) else none) → (body (enc s)).go fu QX E) (h : QL fu ((l.filter p).map g)) : (compL body (l.map enc)).go fu QL E := by
  simp only [R.go_eq] at *
  exact compF enc p g hb h
theorem v_ninTDg (h0 : scalD x = false) (h1 : SeqAt.shaped x = true) (h2 : SeqAt.shaped (.tuple ds) = true) (h : QD fu (.bool (!ds.any fun z => PyData.eqv z x))) : (gNotInA x (.tuple ds)).go fu QD E := by
  simp only [R.go_eq] at *
  exact v_ninTD h0 h1 h2 h
theorem cut_last (ds : List D) : True := trivial
theorem a_put {ds : List D} {k : Nat} (hk : k < ds.length) (hl : ds.length ≤ 1000000) (h : QD fu (.tuple (ds.set k d))) : (F_put [.tuple ds, .int (k : Nat), d]).go fu QD E := by
  refine g_def rfl ?_
  unfold B_put
  walk_at "v"
  rw [cut_hi ds k (by omega)]
  refine g_addT (by simp only [List.length_take, List.length_cons, List.length_nil]; omega) ?_
  walk_at "v"
  rw [show ((k : Int) + 1) = ((k + 1 : Nat) : Int) by omega, cut_lo ds (k + 1) (by omega)]
  refine g_addT (by simp only [List.length_append, List.length_take, List.length_drop, List.length_cons, List.length_nil]; omega) ?_
  rw [set_cut hk]
  walk_at "v"
  exact h
theorem scal_sc (s : Sc) : scalD s.d = false := by cases s <;> rfl
theorem eq_tokW (s : Sc) : gEq s.tok (.str "written") = .ret (.bool (isW s)) := by
  cases s
  · show R.ret (PyData.bool (decide (("first" : Str) = "written"))) = R.ret (PyData.bool false)
    rw [decide_eq_false (by decide +kernel)]
  · show R.ret (PyData.bool (decide (("written" : Str) = "written"))) = R.ret (PyData.bool true)
    rw [decide_eq_true rfl]
theorem lo_test {a b : List Sc} (h : QB fu (endsW a)) : (andT (truT (varD 0)) (blT (bin gEq (bin gIx (bin gIx (varD 0) (un gNeg (cD (.int 1)))) (cD (.int 0))) (cD (.str "written")))) (startE 3 [.tuple (a.map Sc.d), .tuple (b.map Sc.d)])).go fu QB E := by
  unfold endsW at h
  walk_at "v"
  cases e : a.getLast? with
  | none =>
    have : a = [] := List.getLast?_eq_none_iff.mp e
    subst this
    rw [show (!(List.map Sc.d []).isEmpty) = false from rfl]
    walk_at "v"
    rw [e] at h
    exact h
  | some s =>
    have hne : a ≠ [] := by intro q; subst q; cases e
    have hem : (!(List.map Sc.d a).isEmpty) = true := by cases a with
      | nil => exact absurd rfl hne
      | cons => rfl
    rw [hem]
    walk_at "v"
    refine g_ret1 (ixL_last (x := s.d) (by rw [List.getLast?_map, e]; rfl)) ?_
    rw [Sc.d_eq]
    walk_at "v"
    refine g_ret1 (eq_tokW s) ?_
    rw [e] at h
    exact ⟨_, rfl, h⟩
theorem shaped_sc' (s : Sc) : SeqAt.shaped s.d = true := shaped_sc s
theorem a_laid_over {a b : List Sc} {k : Nat} (ha : RowOk k a) (hb : RowOk k b) (hk : k ≤ 1000) (h : QD fu (rowD (laid a b))) : (F_laid_over [rowD a, rowD b]).go fu QD E := by
  have la := ha.len
  have lb := hb.len
  refine g_def rfl ?_
  unfold B_laid_over
  unfold rowD laid at *
  refine g_seq ?_
  refine g_if ?_
  refine lo_test ?_
  by_cases hw : endsW a = true
  · rw [if_pos hw] at h ⊢
    walk_at "v"
    exact h
  · rw [if_neg hw] at h ⊢
    walk_at "v"
    refine g_comp ?_
    walk_at "v"
    refine g_compF Sc.d (fun s => !decide (s ∈ a)) Sc.d (fun s hs fu QX hq => g_item ?_) ?_
    · walk_at "v"
      refine v_ninTDg (scal_sc s) (shaped_sc s) (shaped_row a) ?_
      rw [any_row]
      walk_at "v"
      by_cases hm : s ∈ a
      · rw [decide_eq_true hm] at hq ⊢
        walk_at "v"
        exact hq
      · rw [decide_eq_false hm] at hq ⊢
        walk_at "v"
        exact hq
    · walk_at "v"
      have hl : (b.filter fun s => !decide (s ∈ a)).length ≤ b.length := List.length_filter_le _ _
      refine g_addT (by simp only [List.length_map]; omega) ?_
      rw [← List.map_append]
      walk_at "v"
      exact h
def Deed (n : Nat) (d : D) : Prop := ∃ (w : Str) (f t : Nat), d = .tuple [.str w, .int (f : Nat), .int (t : Nat)] ∧ f < n ∧ ((w = "over" ∨ w = "under") ∧ t < n ∧ f ≠ t ∨ (w = "write" ∨ w = "throw") ∧ t ≤ 3)
/-- the rows behind a deed -/
def beh (path : Nat) (rs : List (List Sc)) (w : Str) (f t p : Nat) : List (List Sc) :=
  if w = "over" then rs.set t (laid (rs.getD f []) (rs.getD t []))
  else if w = "under" then rs.set t (laid (rs.getD t []) (rs.getD f []))
  else if t ≠ path then rs
  else rs.set f (if w = "write" then [.w p] else [])
structure RowsOk (n k : Nat) (rs : List (List Sc)) : Prop where
  len : rs.length = n
  row : ∀ r ∈ rs, RowOk k r
theorem RowsOk.get {n k : Nat} {rs : List (List Sc)} (h : RowsOk n k rs) {i : Nat} (hi : i < n) : RowOk k (rs.getD i []) := by
  have : i < rs.length := by rw [h.len]; exact hi
  rw [List.getD_eq_getElem?_getD, List.getElem?_eq_getElem this]
  exact h.row _ (List.getElem_mem this)
theorem RowsOk.set {n k : Nat} {rs : List (List Sc)} (h : RowsOk n k rs) {i : Nat} {r : List Sc} (hr : RowOk k r) : RowsOk n k (rs.set i r) :=
  ⟨by rw [List.length_set]; exact h.len, fun x hx => (List.mem_or_eq_of_mem_set hx).elim (h.row x) fun e => e ▸ hr⟩
theorem RowsOk.beh {n k path f t p : Nat} {w : Str} {rs : List (List Sc)} (h : RowsOk n k rs) (hf : f < n) (ht : w = "over" ∨ w = "under" → t < n) (hp : p < k) : RowsOk n k (beh path rs w f t p) := by
  unfold DL.beh
  split
  · rename_i e
    exact h.set ((h.get hf).laid (h.get (ht (.inl e))))
  · split
    · rename_i e
      exact h.set ((h.get (ht (.inr e))).laid (h.get hf))
    · split
      · exact h
      · refine h.set ?_
        split
        · exact ⟨by simp, fun s hs => by rw [List.mem_singleton.mp hs]; exact hp⟩
        · exact ⟨List.nodup_nil, fun s hs => by cases hs⟩
theorem row_at {rs : List (List Sc)} {i : Nat} (h : i < rs.length) : ixL (rs.map rowD) (i : Int) = .ret (rowD (rs.getD i [])) := by
  rw [ixL_nat (by rw [List.length_map]; exact h), List.getElem_map, List.getD_eq_getElem?_getD, List.getElem?_eq_getElem h]; rfl
theorem set_row {rs : List (List Sc)} {i : Nat} {r : List Sc} : (rs.map rowD).set i (rowD r) = (rs.set i r).map rowD := by rw [List.map_set]
theorem a_lists_behind {n k path p : Nat} {rs : List (List Sc)} (hr : RowsOk n k rs) (hk : k ≤ 1000) (hn : n ≤ 1000) (hp : p < k) {w : Str} {f t : Nat} (hf : f < n) (hw : (w = "over" ∨ w = "under") ∧ t < n ∧ f ≠ t ∨ (w = "write" ∨ w = "throw") ∧ t ≤ 3)
    (h : QD fu (rowsD (beh path rs w f t p))) : (F_lists_behind [rowsD rs, .tuple [.str w, .int (f : Nat), .int (t : Nat)], .int (path : Nat), .int (p : Nat)]).go fu QD E := by
  have hl : (rs.map rowD).length = n := by rw [List.length_map]; exact hr.len
  refine g_def rfl ?_
  unfold B_lists_behind
  unfold rowsD beh at *
  walk_at "v"
  have putR : ∀ {i : Nat} {r : List Sc} {fu : Nat} {QD : Nat → D → Prop} {E : Nat → Er → Prop}, i < n → QD fu (.tuple ((rs.set i r).map rowD)) → (F_put [.tuple (rs.map rowD), .int (i : Nat), rowD r]).go fu QD E := fun hi q =>
    a_put (by rw [hl]; exact hi) (by rw [hl]; omega) (by rw [set_row]; exact q)
  refine v_cb (fun e1 => ?_) (fun e1 => ?_)
  · have e1 := of_decide_eq_true e1
    rw [if_pos e1] at h
    have ht : t < n := by
      rcases hw with ⟨_, q, _⟩ | ⟨q, _⟩
      · exact q
      · subst e1; exact absurd q (by decide +kernel)
    walk_at "v"
    refine g_ret1 (row_at (by rw [hr.len]; exact hf)) ?_
    walk_at "v"
    refine g_ret1 (row_at (by rw [hr.len]; exact ht)) ?_
    walk_at "v"
    refine a_laid_over (hr.get hf) (hr.get ht) hk ?_
    walk_at "v"
    refine putR ht ?_
    walk_at "v"
    exact h
  have e1 := of_decide_eq_false e1
  rw [if_neg e1] at h
  walk_at "v"
  refine v_cb (fun e2 => ?_) (fun e2 => ?_)
  · have e2 := of_decide_eq_true e2
    rw [if_pos e2] at h
    have ht : t < n := by
      rcases hw with ⟨_, q, _⟩ | ⟨q, _⟩
      · exact q
      · subst e2; exact absurd q (by decide +kernel)
    walk_at "v"
    refine g_ret1 (row_at (by rw [hr.len]; exact ht)) ?_
    walk_at "v"
    refine g_ret1 (row_at (by rw [hr.len]; exact hf)) ?_
    walk_at "v"
    refine a_laid_over (hr.get ht) (hr.get hf) hk ?_
    walk_at "v"
    refine putR ht ?_
    walk_at "v"
    exact h
  have e2 := of_decide_eq_false e2
  rw [if_neg e2] at h
  walk_at "v"
  by_cases e3 : t = path
  · subst e3
    rw [if_neg (by simp)] at h
    refine v_cb (fun e => ?_) (fun e => ?_)
    · simp at e
    walk_at "v"
    refine v_cb (fun e4 => ?_) (fun e4 => ?_)
    · have e4 := of_decide_eq_true e4
      rw [if_pos e4] at h
      walk_at "v"
      refine putR (r := [.w p]) hf ?_
      walk_at "v"
      exact h
    · have e4 := of_decide_eq_false e4
      rw [if_neg e4] at h
      walk_at "v"
      refine putR (r := []) hf ?_
      walk_at "v"
      exact h
  · rw [if_pos e3] at h
    refine v_cb (fun e => ?_) (fun e => ?_)
    · walk_at "v"
      exact h
    · simp at e; omega
def firsts (n : Nat) : List (List Sc) := (List.range n).map fun i => [.f i]
theorem firsts_ok {n k : Nat} (h : n ≤ k) : RowsOk n k (firsts n) := ⟨by simp [firsts], fun r hr => by
  obtain ⟨i, hi, rfl⟩ := List.mem_map.mp hr
  exact ⟨by simp, fun s hs => by rw [List.mem_singleton.mp hs]; have := List.mem_range.mp hi; show i < k; omega⟩⟩
theorem rngD_nat (m : Nat) : rngD 0 (m : Int) = (List.range m).map fun i => PyData.int (i : Nat) := by
  unfold rngD
  rw [show ((m : Int) - 0).toNat = m by omega]
  refine List.map_congr_left fun i _ => ?_
  show PyData.int (0 + (i : Int)) = _
  rw [Int.zero_add]
theorem filter_true {α : Type} (l : List α) : l.filter (fun _ => true) = l := List.filter_eq_self.mpr fun _ _ => rfl
/-- a comprehension over a range -/
theorem g_compR {E : Nat → Er → Prop} (g : Nat → D) {body : D → R (Option D)} {m : Nat} {fu : Nat} {QL : Nat → List D → Prop} (hb : ∀ i, i < m → ∀ fu (QX : Nat → Option D → Prop), QX fu (some (g i)) → (body (.int (i : Nat))).go fu QX E) (h : QL fu ((List.range m).map g)) : (compL body (rngD 0 (m : Int))).go fu QL E := by
  rw [rngD_nat]
  refine g_compF (fun i : Nat => PyData.int (i : Nat)) (fun _ => true) g (fun s hs fu QX hq => hb s (List.mem_range.mp hs) fu QX (by rw [if_pos rfl] at hq; exact hq)) ?_
  rw [filter_true]; exact h
theorem g_compM {E : Nat → Er → Prop} {α : Type} (enc : α → D) (g : α → D) {body : D → R (Option D)} {l : List α} {fu : Nat} {QL : Nat → List D → Prop} (hb : ∀ s ∈ l, ∀ fu (QX : Nat → Option D → Prop), QX fu (some (g s)) → (body (enc s)).go fu QX E) (h : QL fu (l.map g)) : (compL body (l.map enc)).go fu QL E := by
  refine g_compF enc (fun _ => true) g (fun s hs fu QX hq => hb s hs fu QX (by rw [if_pos rfl] at hq; exact hq)) ?_
  rw [filter_true]; exact h
theorem rng_ok {m : Nat} (h : m ≤ 1000000) : rngOk 0 (m : Int) = true := by unfold rngOk; exact decide_eq_true (by omega)
theorem a_first_lists (hn : n ≤ 1000) (h : QD fu (rowsD (firsts n))) : (F_first_lists [.int (n : Nat)]).go fu QD E := by
  refine g_def rfl ?_
  unfold B_first_lists
  unfold rowsD firsts at *
  walk_at "v"
  refine g_comp ?_
  walk_at "v"
  refine ⟨0, n, .inl ⟨rfl, rfl⟩, rng_ok (by omega), by rw [rngD_nat, List.length_map, List.length_range]; omega, g_compR (fun i => rowD [.f i]) (fun i hi fu QX hq => g_item ?_) ?_⟩
  · walk_at "v"
    exact hq
  · walk_at "v"
    rw [List.map_map] at h
    exact h
def deedD (d : Str × Nat × Nat) : D := .tuple [.str d.1, .int (d.2.1 : Nat), .int (d.2.2 : Nat)]
def DeedOk (n : Nat) (d : Str × Nat × Nat) : Prop := d.2.1 < n ∧ ((d.1 = "over" ∨ d.1 = "under") ∧ d.2.2 < n ∧ d.2.1 ≠ d.2.2 ∨ (d.1 = "write" ∨ d.1 = "throw") ∧ d.2.2 ≤ 3)
/-- the rows behind the first k deeds -/
def thru (n path : Nat) (ds : List (Str × Nat × Nat)) : Nat → List (List Sc)
  | 0 => firsts n
  | k + 1 => match ds[k]? with
    | some d => beh path (thru n path ds k) d.1 d.2.1 d.2.2 k
    | none => thru n path ds k
theorem thru_ok {n path : Nat} {ds : List (Str × Nat × Nat)} (hd : ∀ d ∈ ds, DeedOk n d) : ∀ k, RowsOk n (n + ds.length) (thru n path ds k)
  | 0 => firsts_ok (by omega)
  | k + 1 => by
    unfold thru
    cases e : ds[k]? with
    | none => exact thru_ok hd k
    | some d =>
      have hk := (List.getElem?_eq_some_iff.mp e).1
      have q := hd d (List.mem_of_getElem? e)
      refine (thru_ok hd k).beh q.1 (fun hw => ?_) (by omega)
      rcases q.2 with ⟨_, q, _⟩ | ⟨q, _⟩
      · exact q
      · rcases hw with e1 | e1 <;> rw [e1] at q <;> exact absurd q (by decide +kernel)
def alongD (n path : Nat) (ds : List (Str × Nat × Nat)) (k : Nat) : List D := (List.range (k + 1)).map fun j => rowsD (thru n path ds j)
theorem along_last {n path : Nat} {ds : List (Str × Nat × Nat)} {k : Nat} : (alongD n path ds k).getLast? = some (rowsD (thru n path ds k)) := by
  unfold alongD
  rw [List.range_succ, List.map_append, List.map_singleton, List.getLast?_append]; rfl
theorem along_succ {n path : Nat} {ds : List (Str × Nat × Nat)} {k : Nat} : alongD n path ds k ++ [rowsD (thru n path ds (k + 1))] = alongD n path ds (k + 1) := by
  unfold alongD
  rw [List.range_succ (n := k + 1), List.map_append, List.map_singleton]
theorem v_enum {fa : Env → R D} (h : (fa env).wp fu (fun fu x => ∃ ds, (x = .list ds ∨ x = .tuple ds) ∧ QL fu (enumD ds)) E) : (enumF fa env).wp fu QL E :=
  bndI (R.wp_mono h (fun fu x ⟨ds, e, h⟩ => by rcases e with e | e <;> subst e <;> exact h) fun _ _ h => h)
theorem g_enum {fa : Env → R D} (h : (fa env).go fu (fun fu x => ∃ ds, (x = .list ds ∨ x = .tuple ds) ∧ QL fu (enumD ds)) E) : (enumF fa env).go fu QL E := by
  simp only [R.go_eq] at *
  exact v_enum h
theorem enum_map {α : Type} (enc : α → D) (l : List α) {k : Nat} {d : D} (h : (enumD (l.map enc))[k]? = some d) : ∃ a, l[k]? = some a ∧ d = .tuple [.int (k : Nat), enc a] := by
  unfold enumD at h
  rw [List.getElem?_mapIdx, List.getElem?_map] at h
  cases e : l[k]? with
  | none => rw [e] at h; cases h
  | some a => rw [e] at h; cases h; exact ⟨a, rfl, rfl⟩
theorem b_lists_through {n path : Nat} {ds : List (Str × Nat × Nat)} (hn : n ≤ 6) (hl : ds.length ≤ 30) (hd : ∀ d ∈ ds, DeedOk n d) {QO : Nat → Out → Prop} (h : QO fu (.rl (alongD n path ds ds.length))) : (B_lists_through (startE 6 [.int (n : Nat), .tuple (ds.map deedD), .int (path : Nat)])).go fu QO E := by
  unfold B_lists_through
  walk_at "v"
  refine a_first_lists (by omega) ?_
  walk_at "v"
  refine g_enum ?_
  walk_at "v"
  refine ⟨_, .inr rfl, ?_⟩
  have hlen : (enumD (ds.map deedD)).length = ds.length := by unfold enumD; simp
  refine g_loopI (fun k fu' e => ∃ (x4 x5 : Option DV), e = [some (.val (.int (n : Nat))), some (.val (.tuple (ds.map deedD))), some (.val (.int (path : Nat))), some (.own (alongD n path ds k)), x4, x5] ∧ fu' = fu) _ 0 _ _ ⟨none, none, rfl, rfl⟩ ?_ ?_
  · rintro k d e fu' hk hdk ⟨x4, x5, rfl, rfl⟩
    obtain ⟨q, hq, rfl⟩ := enum_map deedD ds (by simpa using hdk)
    have hkl := (List.getElem?_eq_some_iff.mp hq).1
    have hqd := hd q (List.mem_of_getElem? hq)
    refine g_body ?_
    walk_at "v"
    refine g_ret1 (ixL_last along_last) ?_
    walk_at "v"
    refine a_lists_behind (thru_ok hd k) (by omega) (by omega) (by omega) hqd.1 hqd.2 ?_
    walk_at "v"
    have e : thru n path ds (k + 1) = beh path (thru n path ds k) q.1 q.2.1 q.2.2 k := by rw [thru, hq]
    refine ⟨by unfold alongD; simp; omega, some (.val (.int (k : Nat))), some (.val (deedD q)), ?_, rfl⟩
    rw [← along_succ, e]; rfl
  · rintro e fu' ⟨x4, x5, rfl, rfl⟩
    rw [hlen]
    walk_at "v"
    rw [Nat.zero_add]
    exact h
theorem a_lists_through {n path : Nat} {ds : List (Str × Nat × Nat)} (hn : n ≤ 6) (hl : ds.length ≤ 30) (hd : ∀ d ∈ ds, DeedOk n d) (h : QD fu (.list (alongD n path ds ds.length))) : (F_lists_through [.int (n : Nat), .tuple (ds.map deedD), .int (path : Nat)]).go fu QD E :=
  g_def rfl (b_lists_through hn hl hd (g_dfL h))
theorem al_lists_through {n path : Nat} {ds : List (Str × Nat × Nat)} (hn : n ≤ 6) (hl : ds.length ≤ 30) (hd : ∀ d ∈ ds, DeedOk n d) (h : QL fu (alongD n path ds ds.length)) : (FL_lists_through [.int (n : Nat), .tuple (ds.map deedD), .int (path : Nat)]).go fu QL E :=
  g_defL rfl (b_lists_through hn hl hd (g_dlL h))
def contD (c : List Nat) : D := .tuple (c.map fun i => .int (i : Nat))
def there (c : List Nat) (s : Sc) : Bool := isW s || decide (s.nr ∈ c)
def papD : Option Sc → D
  | some s => s.d
  | none => .none
theorem in_cont (c : List Nat) (i : Nat) : inV (toV (.int (i : Nat))) ((c.map fun i => PyData.int (i : Nat)).map toV) = decide (i ∈ c) := by
  unfold inV
  rw [List.map_map, List.any_map]
  by_cases h : i ∈ c
  · rw [decide_eq_true h]
    exact List.any_eq_true.mpr ⟨i, h, by simp [toV, eqV]⟩
  · rw [decide_eq_false h]
    refine List.any_eq_false.mpr fun x hx => ?_
    have : x ≠ i := fun e => h (e ▸ hx)
    simp [toV, eqV]
    omega
theorem a_first_there {c : List Nat} {r : List Sc} (h : QD fu (papD (r.find? (there c)))) : (F_first_there [rowD r, contD c]).go fu QD E := by
  refine g_def rfl ?_
  unfold B_first_there
  unfold rowD contD at *
  walk_at "v"
  refine g_loopI (fun k fu' e => ∃ (x2 : Option DV), e = [some (.val (.tuple (r.map Sc.d))), some (.val (.tuple (c.map fun i => .int (i : Nat)))), x2] ∧ fu' = fu ∧ (r.take k).find? (there c) = none) _ 0 _ _ ⟨none, rfl, rfl, rfl⟩ ?_ ?_
  · rintro k d e fu' hk hdk ⟨x2, rfl, rfl, hno⟩
    rw [Nat.sub_zero, List.getElem?_map] at hdk
    cases hs : r[k]? with
    | none => rw [hs] at hdk; cases hdk
    | some s =>
      rw [hs] at hdk
      cases hdk
      have hkl := (List.getElem?_eq_some_iff.mp hs).1
      have hcut : r.take (k + 1) = r.take k ++ [s] := by rw [List.take_succ, hs]; rfl
      have fin : there c s = true → QD fu' s.d := fun ht => by
        have : r.find? (there c) = some s := by
          rw [← List.take_append_drop (k + 1) r, hcut, List.find?_append, List.find?_append, hno]
          simp [ht]
        rw [this] at h
        exact h
      have go : there c s = false → (r.take (k + 1)).find? (there c) = none := fun ht => by
        rw [hcut, List.find?_append, hno]
        simp [ht]
      unfold there at fin go
      rw [Sc.d_eq] at fin ⊢
      refine g_body ?_
      walk_at "v"
      refine g_ret1 (eq_tokW s) ?_
      refine ⟨_, rfl, ?_⟩
      cases hw : isW s with
      | true =>
        rw [hw] at fin
        walk_at "v"
        exact fin rfl
      | false =>
        rw [hw] at fin go
        walk_at "v"
        refine g_inT (by show (true && _) = true; rw [Bool.true_and]; exact List.all_eq_true.mpr fun x hx => by obtain ⟨i, _, rfl⟩ := List.mem_map.mp hx; rfl) ?_
        rw [in_cont]
        by_cases hm : s.nr ∈ c
        · rw [decide_eq_true hm] at fin ⊢
          walk_at "v"
          exact fin rfl
        · rw [decide_eq_false hm] at go ⊢
          walk_at "v"
          first | exact ⟨rfl, go rfl⟩ | exact ⟨_, rfl, rfl, go rfl⟩
  · rintro e fu' ⟨x2, rfl, rfl, hno⟩
    rw [List.length_map, Nat.zero_add, List.take_length] at hno
    rw [hno] at h
    walk_at "v"
    exact h
def papsD (ps : List (Option Sc)) : D := .tuple (ps.map papD)
def papersOf (c : List Nat) (rs : List (List Sc)) : List (Option Sc) := rs.map fun r => r.find? (there c)
theorem a_papers_of {c : List Nat} {rs : List (List Sc)} (hl : rs.length ≤ 1000) (h : QD fu (papsD (papersOf c rs))) : (F_papers_of [rowsD rs, contD c]).go fu QD E := by
  refine g_def rfl ?_
  unfold B_papers_of
  unfold rowsD papsD papersOf at *
  walk_at "v"
  refine g_comp ?_
  walk_at "v"
  refine g_compM rowD (fun r => papD (r.find? (there c))) (fun r hr fu QX hq => g_item ?_) ?_
  · walk_at "v"
    refine a_first_there ?_
    walk_at "v"
    exact hq
  · walk_at "v"
    rw [List.map_map] at h
    exact h
theorem wp_need : True := trivial
theorem a_need_path {p : Nat} (hp : p ≤ 3) (h : QD fu .none) : (F_need_path [.int (p : Nat)]).go fu QD E := by
  refine g_def rfl ?_
  unfold B_need_path
  walk_at "v"
  refine a_is_path rfl ?_
  rw [show isWh (.int (p : Nat)) 0 3 = true from by show (decide (0 ≤ (p : Int)) && decide ((p : Int) ≤ 3)) = true; rw [decide_eq_true (by omega), decide_eq_true (by omega)]; rfl]
  walk_at "v"
  exact h
theorem deed_ok {n : Nat} {d : Str × Nat × Nat} (hn : n ≤ 6) (h : DeedOk n d) : okDeed (deedD d) = true ∧ isDeed (n : Int) (deedD d) = true := by
  obtain ⟨w, f, t⟩ := d
  obtain ⟨h1, h2⟩ := h
  have h1 : f < n := h1
  refine ⟨rfl, ?_⟩
  have e1 : isFold n (.int (f : Nat)) = true := by
    show (decide (0 ≤ (f : Int)) && decide ((f : Int) ≤ n - 1)) = true
    rw [decide_eq_true (by omega), decide_eq_true (by omega)]; rfl
  show (isFold n (.int (f : Nat)) && (if isWord (.str w) ["over", "under"] then isFold n (.int (t : Nat)) && neInt (.int (f : Nat)) (.int (t : Nat)) else isWord (.str w) ["write", "throw"] && isWh (.int (t : Nat)) 0 3)) = true
  rcases h2 with ⟨hw, h3, h4⟩ | ⟨hw, h3⟩
  · have h3 : t < n := h3
    have h4 : f ≠ t := h4
    have e2 : isFold n (.int (t : Nat)) = true := by
      show (decide (0 ≤ (t : Int)) && decide ((t : Int) ≤ n - 1)) = true
      rw [decide_eq_true (by omega), decide_eq_true (by omega)]; rfl
    have e3 : isWord (.str w) ["over", "under"] = true := by rcases hw with h | h <;> (have h : w = _ := h; subst h; decide +kernel)
    have e4 : neInt (.int (f : Nat)) (.int (t : Nat)) = true := by
      show (!decide ((f : Int) = t)) = true
      rw [decide_eq_false (by omega)]; rfl
    rw [e1, e2, e3, e4]; rfl
  · have h3 : t ≤ 3 := h3
    have e2 : isWh (.int (t : Nat)) 0 3 = true := by
      show (decide (0 ≤ (t : Int)) && decide ((t : Int) ≤ 3)) = true
      rw [decide_eq_true (by omega), decide_eq_true (by omega)]; rfl
    have e3 : isWord (.str w) ["over", "under"] = false := by rcases hw with h | h <;> (have h : w = _ := h; subst h; decide +kernel)
    have e4 : isWord (.str w) ["write", "throw"] = true := by rcases hw with h | h <;> (have h : w = _ := h; subst h; decide +kernel)
    rw [e1, e2, e3, e4]; rfl
theorem script_ok {n : Nat} {ds : List (Str × Nat × Nat)} (hn : n ≤ 6) (hl : ds.length ≤ 30) (hd : ∀ d ∈ ds, DeedOk n d) : okScript (.tuple (ds.map deedD)) = true ∧ isScript (n : Int) (.tuple (ds.map deedD)) = true := by
  constructor
  · show (plainD (.tuple (ds.map deedD)) && ((ds.map deedD).all okDeed && decide ((ds.map deedD).length ≤ 1000))) = true
    rw [List.all_eq_true.mpr fun d hd' => by obtain ⟨q, hq, rfl⟩ := List.mem_map.mp hd'; exact (deed_ok hn (hd q hq)).1, decide_eq_true (by rw [List.length_map]; omega)]; rfl
  · show (decide (((ds.map deedD).length : Int) ≤ 30) && ((ds.map deedD).map (isDeed n)).all id) = true
    have e : ((ds.map deedD).map (isDeed n)).all id = true := by
      rw [List.all_map]
      exact List.all_eq_true.mpr fun d hd' => by obtain ⟨q, hq, rfl⟩ := List.mem_map.mp hd'; exact (deed_ok hn (hd q hq)).2
    rw [decide_eq_true (by rw [List.length_map]; omega), e]; rfl
/-- size, script and path that are right -/
structure Work (n path : Nat) (ds : List (Str × Nat × Nat)) : Prop where
  n1 : 1 ≤ n
  n6 : n ≤ 6
  p3 : path ≤ 3
  l30 : ds.length ≤ 30
  deeds : ∀ d ∈ ds, DeedOk n d
theorem a_is_script_yes {n path : Nat} {ds : List (Str × Nat × Nat)} (W : Work n path ds) (h : QD fu (.bool true)) : (F_is_script [.int (n : Nat), .tuple (ds.map deedD)]).go fu QD E := by
  obtain ⟨q1, q2⟩ := script_ok W.n6 W.l30 W.deeds
  refine a_is_script q1 rfl (fun m em _ _ => by cases em; rw [q2]; exact h) fun hno => ?_
  have h1 := W.n1
  have h6 := W.n6
  have : (decide (1 ≤ (n : Int)) && decide ((n : Int) ≤ 6)) = false := hno
  rw [decide_eq_true (by omega), decide_eq_true (by omega)] at this
  cases this
theorem a_need_work {n path : Nat} {ds : List (Str × Nat × Nat)} (W : Work n path ds) (h : QD fu .none) : (F_need_work [.int (n : Nat), .tuple (ds.map deedD), .int (path : Nat)]).go fu QD E := by
  refine g_def rfl ?_
  unfold B_need_work
  walk_at "v"
  refine a_is_script_yes W ?_
  walk_at "v"
  refine a_need_path W.p3 ?_
  walk_at "v"
  exact h
/-- the rows behind the whole script -/
def rowsAt (n path : Nat) (ds : List (Str × Nat × Nat)) : List (List Sc) := thru n path ds ds.length
theorem a_lists_of {n path : Nat} {ds : List (Str × Nat × Nat)} (W : Work n path ds) (h : QD fu (rowsD (rowsAt n path ds))) : (F_lists_of [.int (n : Nat), .tuple (ds.map deedD), .int (path : Nat)]).go fu QD E := by
  refine g_def rfl ?_
  unfold B_lists_of
  walk_at "v"
  refine a_need_work W ?_
  walk_at "v"
  refine a_lists_through W.n6 W.l30 W.deeds ?_
  walk_at "v"
  refine g_ret1 (ixL_last along_last) ?_
  walk_at "v"
  exact h
theorem b_lists_along {n path : Nat} {ds : List (Str × Nat × Nat)} (W : Work n path ds) {QO : Nat → Out → Prop} (h : QO fu (.rl (alongD n path ds ds.length))) : (B_lists_along (startE 3 [.int (n : Nat), .tuple (ds.map deedD), .int (path : Nat)])).go fu QO E := by
  unfold B_lists_along
  walk_at "v"
  refine a_need_work W ?_
  walk_at "v"
  refine al_lists_through W.n6 W.l30 W.deeds ?_
  walk_at "v"
  exact h
theorem a_lists_along {n path : Nat} {ds : List (Str × Nat × Nat)} (W : Work n path ds) (h : QD fu (.list (alongD n path ds ds.length))) : (F_lists_along [.int (n : Nat), .tuple (ds.map deedD), .int (path : Nat)]).go fu QD E :=
  g_def rfl (b_lists_along W (g_dfL h))
theorem al_lists_along {n path : Nat} {ds : List (Str × Nat × Nat)} (W : Work n path ds) (h : QL fu (alongD n path ds ds.length)) : (FL_lists_along [.int (n : Nat), .tuple (ds.map deedD), .int (path : Nat)]).go fu QL E :=
  g_defL rfl (b_lists_along W (g_dlL h))
/-- ascending folders -/
def ContOk (n : Nat) (c : List Nat) : Prop := c.length ≤ 1000 ∧ (∀ x ∈ c, x < n) ∧ c.Pairwise (· < ·)
theorem a_is_rising {c : List Nat} (hl : c.length ≤ 1000) (hc : c.Pairwise (· < ·)) (h : QD fu (.bool true)) : (F_is_rising [contD c]).go fu QD E := by
  refine g_def rfl ?_
  unfold B_is_rising
  unfold contD
  walk_at "v"
  refine g_comp ?_
  walk_at "v"
  have e : rngD 0 ((((c.map fun i => PyData.int (i : Nat)).length : Nat) : Int) - 1) = rngD 0 ((c.length - 1 : Nat) : Int) := by
    unfold rngD
    rw [List.length_map, show ((c.length : Int) - 1 - 0).toNat = (((c.length - 1 : Nat) : Int) - 0).toNat by omega]
  refine ⟨0, _, .inl ⟨rfl, rfl⟩, by unfold rngOk; rw [List.length_map]; exact decide_eq_true (by omega), ?_⟩
  rw [e]
  refine ⟨by rw [rngD_nat, List.length_map, List.length_range]; omega, g_compR (fun i => .bool true) (fun i hi fu QX hq => g_item ?_) ?_⟩
  · have h1 : i < (c.map fun i => PyData.int (i : Nat)).length := by rw [List.length_map]; omega
    have h2 : i + 1 < (c.map fun i => PyData.int (i : Nat)).length := by rw [List.length_map]; omega
    walk_at "v"
    refine g_ret1 (ixL_nat h1) ?_
    walk_at "v"
    rw [show ((i : Int) + 1) = ((i + 1 : Nat) : Int) by omega]
    refine g_ret1 (ixL_nat h2) ?_
    rw [List.getElem_map, List.getElem_map]
    walk_at "v"
    have := List.pairwise_iff_getElem.mp hc i (i + 1) (by omega) (by omega) (by omega)
    rw [decide_eq_true (by omega)]
    exact hq
  · walk_at "v"
    refine g_allB (bs := (List.range (c.length - 1)).map fun _ => true) (by rw [List.map_map]; rfl) ?_
    rw [show ((List.range (c.length - 1)).map fun _ => true).all id = true from by rw [List.all_map]; exact List.all_eq_true.mpr fun _ _ => rfl]
    walk_at "v"
    exact h
theorem a_is_contents {c : List Nat} (hn : n ≤ 6) (hc : ContOk n c) (h : QD fu (.bool true)) : (F_is_contents [.int (n : Nat), contD c]).go fu QD E := by
  refine g_def rfl ?_
  unfold B_is_contents
  obtain ⟨hl, hb, hp⟩ := hc
  have hr := fun fu QD E h => @a_is_rising fu E QD c hl hp h
  unfold contD at *
  walk_at "v"
  refine g_comp ?_
  walk_at "v"
  refine g_compM (fun i : Nat => PyData.int (i : Nat)) (fun i => .bool true) (fun i hi fu QX hq => g_item ?_) ?_
  · walk_at "v"
    refine a_is_folder rfl ?_
    have := hb i hi
    rw [show isFold (n : Int) (.int (i : Nat)) = true from by show (decide (0 ≤ (i : Int)) && decide ((i : Int) ≤ n - 1)) = true; rw [decide_eq_true (by omega), decide_eq_true (by omega)]; rfl]
    walk_at "v"
    exact hq
  · walk_at "v"
    refine g_allB (bs := c.map fun _ => true) (by rw [List.map_map]; rfl) ?_
    rw [show (c.map fun _ => true).all id = true from by rw [List.all_map]; exact List.all_eq_true.mpr fun _ _ => rfl]
    walk_at "v"
    refine hr _ _ _ ?_
    walk_at "v"
    exact h
theorem a_need_contents {c : List Nat} (hn : n ≤ 6) (hc : ContOk n c) (h : QD fu .none) : (F_need_contents [.int (n : Nat), contD c]).go fu QD E := by
  refine g_def rfl ?_
  unfold B_need_contents
  walk_at "v"
  refine a_is_contents hn hc ?_
  walk_at "v"
  exact h
theorem a_papers_at {n path : Nat} {ds : List (Str × Nat × Nat)} {c : List Nat} (W : Work n path ds) (hc : ContOk n c) (h : QD fu (papsD (papersOf c (rowsAt n path ds)))) : (F_papers_at [.int (n : Nat), .tuple (ds.map deedD), .int (path : Nat), contD c]).go fu QD E := by
  have hr := thru_ok W.deeds (path := path) ds.length
  have h6 := W.n6
  refine g_def rfl ?_
  unfold B_papers_at
  walk_at "v"
  refine a_need_work W ?_
  walk_at "v"
  refine a_need_contents W.n6 hc ?_
  walk_at "v"
  refine a_lists_through W.n6 W.l30 W.deeds ?_
  walk_at "v"
  refine g_ret1 (ixL_last along_last) ?_
  walk_at "v"
  refine a_papers_of (by rw [hr.len]; omega) ?_
  walk_at "v"
  exact h
end
end DL
namespace DL
open PySem PySem.Spec PyProof.Rows L2
theorem shaped_of {d : D} (h1 : PyData.canLay0 d = true) (h2 : PyData.depth d ≤ 60) : SeqAt.shaped d = true := by
  unfold SeqAt.shaped
  rw [h1, decide_eq_true (by omega)]; rfl
theorem canLay_tup {ds : List D} (h : ∀ d ∈ ds, PyData.canLay0 d = true) : PyData.canLay0 (.tuple ds) = true := by
  simp only [PyData.canLay0]; exact canLayAll_of h
theorem canLay_lst {ds : List D} (h : ∀ d ∈ ds, PyData.canLay0 d = true) : PyData.canLay0 (.list ds) = true := by
  simp only [PyData.canLay0]; exact canLayAll_of h
theorem depth_tup {ds : List D} {k : Nat} (h : ∀ d ∈ ds, PyData.depth d ≤ k) : PyData.depth (.tuple ds) ≤ k + 1 := by
  have := depthAll_of h
  simp only [PyData.depth]; omega
theorem depth_lst {ds : List D} {k : Nat} (h : ∀ d ∈ ds, PyData.depth d ≤ k) : PyData.depth (.list ds) ≤ k + 1 := by
  have := depthAll_of h
  simp only [PyData.depth]; omega
theorem canLay_row (r : List Sc) : PyData.canLay0 (rowD r) = true := canLay_tup fun d hd => by
  obtain ⟨s, _, rfl⟩ := List.mem_map.mp hd
  exact canLay_sc s
theorem depth_row (r : List Sc) : PyData.depth (rowD r) ≤ 2 := depth_tup fun d hd => by
  obtain ⟨s, _, rfl⟩ := List.mem_map.mp hd
  exact depth_sc s
theorem canLay_rows (rs : List (List Sc)) : PyData.canLay0 (rowsD rs) = true := canLay_tup fun d hd => by
  obtain ⟨s, _, rfl⟩ := List.mem_map.mp hd
  exact canLay_row s
theorem depth_rows (rs : List (List Sc)) : PyData.depth (rowsD rs) ≤ 3 := depth_tup fun d hd => by
  obtain ⟨s, _, rfl⟩ := List.mem_map.mp hd
  exact depth_row s
theorem shaped_rows (rs : List (List Sc)) : SeqAt.shaped (rowsD rs) = true := shaped_of (canLay_rows rs) (by have := depth_rows rs; omega)
theorem shaped_along (n path : Nat) (ds : List (Str × Nat × Nat)) (k : Nat) : SeqAt.shaped (.list (alongD n path ds k)) = true := by
  refine shaped_of (canLay_lst fun d hd => ?_) ?_
  · obtain ⟨j, _, rfl⟩ := List.mem_map.mp hd
    exact canLay_rows _
  · have := depth_lst (k := 3) (ds := alongD n path ds k) fun d hd => by
      obtain ⟨j, _, rfl⟩ := List.mem_map.mp hd
      exact depth_rows _
    omega
theorem ne_sameD {d : D} (h : SeqAt.shaped d = true) (hs : strEq d d = none) : gNe d d = .ret (.bool false) := by
  unfold gNe
  rw [hs]
  show guard' (SeqAt.shaped d && SeqAt.shaped d) (R.ret (PyData.bool (!PyData.eqv d d))) = _
  rw [h, SeqAt.eqv_refl _ (SeqAt.canLay_of_shaped h)]; rfl
theorem ne_rows (rs : List (List Sc)) : gNe (rowsD rs) (rowsD rs) = .ret (.bool false) := ne_sameD (shaped_rows rs) rfl
theorem ne_along (n path : Nat) (ds : List (Str × Nat × Nat)) (k : Nat) : gNe (.list (alongD n path ds k)) (.list (alongD n path ds k)) = .ret (.bool false) := ne_sameD (shaped_along n path ds k) rfl
def wlB : List Sc → Bool
  | [] => true
  | s :: r => if isW s = true then r.isEmpty else wlB r
theorem endsW_cons (s : Sc) (a : List Sc) : endsW (s :: a) = if a.isEmpty = true then isW s else endsW a := by
  cases a with
  | nil => rfl
  | cons t a => unfold endsW; rw [List.getLast?_cons_cons]; rfl
theorem wl_now : ∀ {a : List Sc}, wlB a = true → endsW a = false → ∀ s ∈ a, isW s = false
  | [], _, _, s, h => by cases h
  | t :: a, h, e, s, hs => by
    unfold wlB at h
    rw [endsW_cons] at e
    cases q : isW t with
    | true =>
      rw [if_pos q] at h
      rw [if_pos h, q] at e; cases e
    | false =>
      rw [if_neg (by rw [q]; decide)] at h
      rcases List.mem_cons.mp hs with rfl | hs
      · exact q
      · refine wl_now h ?_ s hs
        cases a with
        | nil => cases hs
        | cons u a => rw [if_neg (by simp)] at e; exact e
theorem wl_app : ∀ {a b : List Sc}, (∀ s ∈ a, isW s = false) → wlB (a ++ b) = wlB b
  | [], _, _ => rfl
  | t :: a, b, h => by
    show (if isW t = true then (a ++ b).isEmpty else wlB (a ++ b)) = _
    rw [if_neg (by rw [h t List.mem_cons_self]; decide)]
    exact wl_app fun s hs => h s (List.mem_cons_of_mem _ hs)
theorem wl_filter {p : Sc → Bool} : ∀ {b : List Sc}, wlB b = true → wlB (b.filter p) = true
  | [], _ => rfl
  | s :: b, h => by
    unfold wlB at h
    cases q : isW s with
    | true =>
      rw [if_pos q] at h
      obtain rfl := List.isEmpty_iff.mp h
      by_cases hp : p s = true
      · rw [List.filter_cons_of_pos hp]; show (if isW s = true then true else _) = true; rw [if_pos q]
      · rw [List.filter_cons_of_neg hp]; rfl
    | false =>
      rw [if_neg (by rw [q]; decide)] at h
      by_cases hp : p s = true
      · rw [List.filter_cons_of_pos hp]
        show (if isW s = true then _ else wlB (b.filter p)) = true
        rw [if_neg (by rw [q]; decide)]; exact wl_filter h
      · rw [List.filter_cons_of_neg hp]; exact wl_filter h
theorem wl_laid {a b : List Sc} (ha : wlB a = true) (hb : wlB b = true) : wlB (laid a b) = true := by
  unfold laid
  split
  · exact ha
  · rename_i h
    rw [wl_app (wl_now ha (by cases e : endsW a with | true => exact absurd e h | false => rfl))]
    exact wl_filter hb
theorem wl_get {rs : List (List Sc)} (h : ∀ r ∈ rs, wlB r = true) (i : Nat) : wlB (rs.getD i []) = true := by
  rw [List.getD_eq_getElem?_getD]
  cases e : rs[i]? with
  | none => rfl
  | some r => exact h r (List.mem_of_getElem? e)
theorem wl_set {rs : List (List Sc)} (h : ∀ r ∈ rs, wlB r = true) {i : Nat} {r : List Sc} (hr : wlB r = true) : ∀ x ∈ rs.set i r, wlB x = true :=
  fun x hx => (List.mem_or_eq_of_mem_set hx).elim (h x) fun e => e ▸ hr
theorem wl_beh {path : Nat} {rs : List (List Sc)} {w : Str} {f t p : Nat} (h : ∀ r ∈ rs, wlB r = true) : ∀ r ∈ beh path rs w f t p, wlB r = true := by
  unfold beh
  split
  · exact wl_set h (wl_laid (wl_get h _) (wl_get h _))
  · split
    · exact wl_set h (wl_laid (wl_get h _) (wl_get h _))
    · split
      · exact h
      · refine wl_set h ?_
        split <;> rfl
theorem thru_wl {n path : Nat} {ds : List (Str × Nat × Nat)} : ∀ k, ∀ r ∈ thru n path ds k, wlB r = true
  | 0, r, h => by
    obtain ⟨i, _, rfl⟩ := List.mem_map.mp h
    rfl
  | k + 1, r, h => by
    unfold thru at h
    cases e : ds[k]? with
    | none => rw [e] at h; exact thru_wl k r h
    | some d => rw [e] at h; exact wl_beh (thru_wl k) r h
def stp (q : List Sc × Bool) (s : Sc) : List Sc × Bool := if (!decide (s ∈ q.1) && !q.2) = true then (q.1 ++ [s], isW s) else q
theorem stp_on {row : List Sc} {s : Sc} (h : s ∉ row) : stp (row, false) s = (row ++ [s], isW s) := by
  unfold stp; rw [if_pos (by rw [decide_eq_false h]; rfl)]
theorem stp_in {row : List Sc} {s : Sc} (h : s ∈ row) : stp (row, false) s = (row, false) := by
  unfold stp; rw [if_neg (by rw [decide_eq_true h]; simp)]
theorem stp_end {row : List Sc} {s : Sc} : stp (row, true) s = (row, true) := by
  unfold stp; rw [if_neg (by rw [Bool.and_comm]; simp)]
theorem fold_end : ∀ (b : List Sc) (row : List Sc), b.foldl stp (row, true) = (row, true)
  | [], _ => rfl
  | s :: b, row => by rw [List.foldl_cons, stp_end]; exact fold_end b row
theorem fold_b : ∀ (b row : List Sc), wlB b = true → b.Nodup → (b.foldl stp (row, false)).1 = row ++ b.filter fun s => !decide (s ∈ row)
  | [], row, _, _ => by simp
  | s :: b, row, h, hn => by
    obtain ⟨hs, hn'⟩ := List.nodup_cons.mp hn
    rw [List.foldl_cons]
    unfold wlB at h
    by_cases hm : s ∈ row
    · rw [stp_in hm, List.filter_cons_of_neg (by rw [decide_eq_true hm]; decide)]
      refine fold_b b row ?_ hn'
      cases q : isW s with
      | true => rw [if_pos q] at h; obtain rfl := List.isEmpty_iff.mp h; rfl
      | false => rw [if_neg (by rw [q]; decide)] at h; exact h
    · rw [stp_on hm, List.filter_cons_of_pos (by rw [decide_eq_false hm]; rfl)]
      cases q : isW s with
      | true =>
        rw [if_pos q] at h
        obtain rfl := List.isEmpty_iff.mp h
        rfl
      | false =>
        rw [if_neg (by rw [q]; decide)] at h
        rw [fold_b b (row ++ [s]) h hn', List.append_assoc]
        show row ++ (s :: _) = _
        congr 2
        refine List.filter_congr fun x hx => ?_
        have : x ≠ s := fun e => hs (e ▸ hx)
        by_cases hr : x ∈ row <;> simp [hr, this]
theorem fold_a : ∀ (a row : List Sc), wlB a = true → a.Nodup → (∀ s ∈ a, s ∉ row) → a.foldl stp (row, false) = (row ++ a, endsW a)
  | [], row, _, _, _ => by simp [endsW]
  | s :: a, row, h, hn, hd => by
    obtain ⟨hs, hn'⟩ := List.nodup_cons.mp hn
    rw [List.foldl_cons, stp_on (hd s List.mem_cons_self), endsW_cons]
    unfold wlB at h
    cases q : isW s with
    | true =>
      rw [if_pos q] at h
      obtain rfl := List.isEmpty_iff.mp h
      rfl
    | false =>
      rw [if_neg (by rw [q]; decide)] at h
      rw [fold_a a (row ++ [s]) h hn' fun x hx hm => ?_]
      · rw [List.append_assoc]
        cases a with
        | nil => rfl
        | cons t a => rfl
      · rcases List.mem_append.mp hm with hm | hm
        · exact hd x (List.mem_cons_of_mem _ hx) hm
        · exact hs (List.mem_singleton.mp hm ▸ hx)
theorem fold_laid {a b : List Sc} (ha : wlB a = true) (hb : wlB b = true) (na : a.Nodup) (nb : b.Nodup) : ((a ++ b).foldl stp ([], false)).1 = laid a b := by
  rw [List.foldl_append, fold_a a [] ha na (fun _ _ h => by cases h)]
  unfold laid
  show (b.foldl stp (a, endsW a)).1 = _
  cases e : endsW a with
  | true => rw [fold_end, if_pos rfl]
  | false => rw [fold_b b a hb nb, if_neg (by decide)]
theorem stp_len {q : List Sc × Bool} {s : Sc} : (stp q s).1.length ≤ q.1.length + 1 := by
  unfold stp
  split
  · simp
  · omega
theorem fold_len : ∀ (l : List Sc) (q : List Sc × Bool), (l.foldl stp q).1.length ≤ q.1.length + l.length
  | [], q => by simp
  | s :: l, q => by
    rw [List.foldl_cons]
    have := fold_len l (stp q s)
    have h2 := stp_len (q := q) (s := s)
    simp only [List.length_cons]
    omega
end DL
namespace DL
open PySem PySem.Spec PyProof.Rows L2
def topS (i : Nat) : Stmt := PySem.Challenge.pw_officepapers_k25_papers_for_first_conten.main.body.getD i (.Pass ⟨0, 0, 0, 0⟩)
abbrev s_is_whole : Stmt := topS 9
abbrev N_is_whole : List Str := ["thing", "low", "high"]
theorem sc_is_whole : FnScope N_is_whole ["thing", "low", "high"] (defScope s_is_whole) := ⟨rfl, rfl, rfl, by decide +kernel, rfl, by decide +kernel, by decide +kernel⟩
abbrev s_is_word : Stmt := topS 10
abbrev N_is_word : List Str := ["thing", "words"]
theorem sc_is_word : FnScope N_is_word ["thing", "words"] (defScope s_is_word) := ⟨rfl, rfl, rfl, by decide +kernel, rfl, by decide +kernel, by decide +kernel⟩
abbrev s_is_rising : Stmt := topS 11
abbrev N_is_rising : List Str := ["things", "at"]
theorem sc_is_rising : FnScope N_is_rising ["things"] (defScope s_is_rising) := ⟨rfl, rfl, rfl, by decide +kernel, rfl, by decide +kernel, by decide +kernel⟩
abbrev s_is_folder : Stmt := topS 12
abbrev N_is_folder : List Str := ["size", "thing"]
theorem sc_is_folder : FnScope N_is_folder ["size", "thing"] (defScope s_is_folder) := ⟨rfl, rfl, rfl, by decide +kernel, rfl, by decide +kernel, by decide +kernel⟩
abbrev s_is_path : Stmt := topS 13
abbrev N_is_path : List Str := ["thing"]
theorem sc_is_path : FnScope N_is_path ["thing"] (defScope s_is_path) := ⟨rfl, rfl, rfl, by decide +kernel, rfl, by decide +kernel, by decide +kernel⟩
abbrev s_is_contents : Stmt := topS 14
abbrev N_is_contents : List Str := ["size", "thing", "folder"]
theorem sc_is_contents : FnScope N_is_contents ["size", "thing"] (defScope s_is_contents) := ⟨rfl, rfl, rfl, by decide +kernel, rfl, by decide +kernel, by decide +kernel⟩
abbrev s_need_size : Stmt := topS 15
abbrev N_need_size : List Str := ["thing"]
theorem sc_need_size : FnScope N_need_size ["thing"] (defScope s_need_size) := ⟨rfl, rfl, rfl, by decide +kernel, rfl, by decide +kernel, by decide +kernel⟩
abbrev s_need_path : Stmt := topS 16
abbrev N_need_path : List Str := ["thing"]
theorem sc_need_path : FnScope N_need_path ["thing"] (defScope s_need_path) := ⟨rfl, rfl, rfl, by decide +kernel, rfl, by decide +kernel, by decide +kernel⟩
abbrev s_need_contents : Stmt := topS 17
abbrev N_need_contents : List Str := ["size", "thing"]
theorem sc_need_contents : FnScope N_need_contents ["size", "thing"] (defScope s_need_contents) := ⟨rfl, rfl, rfl, by decide +kernel, rfl, by decide +kernel, by decide +kernel⟩
abbrev s_is_paper_deed : Stmt := topS 25
abbrev N_is_paper_deed : List Str := ["size", "thing"]
theorem sc_is_paper_deed : FnScope N_is_paper_deed ["size", "thing"] (defScope s_is_paper_deed) := ⟨rfl, rfl, rfl, by decide +kernel, rfl, by decide +kernel, by decide +kernel⟩
abbrev s_is_script : Stmt := topS 22
abbrev N_is_script : List Str := ["size", "thing", "deed"]
theorem sc_is_script : FnScope N_is_script ["size", "thing"] (defScope s_is_script) := ⟨rfl, rfl, rfl, by decide +kernel, rfl, by decide +kernel, by decide +kernel⟩
abbrev s_need_work : Stmt := topS 33
abbrev N_need_work : List Str := ["size", "script", "path"]
theorem sc_need_work : FnScope N_need_work ["size", "script", "path"] (defScope s_need_work) := ⟨rfl, rfl, rfl, by decide +kernel, rfl, by decide +kernel, by decide +kernel⟩
abbrev s_first_lists : Stmt := topS 26
abbrev N_first_lists : List Str := ["size", "folder"]
theorem sc_first_lists : FnScope N_first_lists ["size"] (defScope s_first_lists) := ⟨rfl, rfl, rfl, by decide +kernel, rfl, by decide +kernel, by decide +kernel⟩
abbrev s_put : Stmt := topS 31
abbrev N_put : List Str := ["lists", "folder", "sources"]
theorem sc_put : FnScope N_put ["lists", "folder", "sources"] (defScope s_put) := ⟨rfl, rfl, rfl, by decide +kernel, rfl, by decide +kernel, by decide +kernel⟩
abbrev s_laid_over : Stmt := topS 32
abbrev N_laid_over : List Str := ["ahead", "behind", "source"]
theorem sc_laid_over : FnScope N_laid_over ["ahead", "behind"] (defScope s_laid_over) := ⟨rfl, rfl, rfl, by decide +kernel, rfl, by decide +kernel, by decide +kernel⟩
abbrev s_lists_behind : Stmt := topS 27
abbrev N_lists_behind : List Str := ["lists", "deed", "path", "place", "word", "folder", "target"]
theorem sc_lists_behind : FnScope N_lists_behind ["lists", "deed", "path", "place"] (defScope s_lists_behind) := ⟨rfl, rfl, rfl, by decide +kernel, rfl, by decide +kernel, by decide +kernel⟩
abbrev s_lists_through : Stmt := topS 28
abbrev N_lists_through : List Str := ["size", "script", "path", "along", "place", "deed"]
theorem sc_lists_through : FnScope N_lists_through ["size", "script", "path"] (defScope s_lists_through) := ⟨rfl, rfl, rfl, by decide +kernel, rfl, by decide +kernel, by decide +kernel⟩
abbrev s_lists_of : Stmt := topS 23
abbrev N_lists_of : List Str := ["size", "script", "path"]
theorem sc_lists_of : FnScope N_lists_of ["size", "script", "path"] (defScope s_lists_of) := ⟨rfl, rfl, rfl, by decide +kernel, rfl, by decide +kernel, by decide +kernel⟩
abbrev s_first_there : Stmt := topS 29
abbrev N_first_there : List Str := ["sources", "contents", "source"]
theorem sc_first_there : FnScope N_first_there ["sources", "contents"] (defScope s_first_there) := ⟨rfl, rfl, rfl, by decide +kernel, rfl, by decide +kernel, by decide +kernel⟩
abbrev s_papers_of : Stmt := topS 30
abbrev N_papers_of : List Str := ["lists", "contents", "sources"]
theorem sc_papers_of : FnScope N_papers_of ["lists", "contents"] (defScope s_papers_of) := ⟨rfl, rfl, rfl, by decide +kernel, rfl, by decide +kernel, by decide +kernel⟩
abbrev s_papers_at : Stmt := topS 24
abbrev N_papers_at : List Str := ["size", "script", "path", "contents"]
theorem sc_papers_at : FnScope N_papers_at ["size", "script", "path", "contents"] (defScope s_papers_at) := ⟨rfl, rfl, rfl, by decide +kernel, rfl, by decide +kernel, by decide +kernel⟩
abbrev s_law_open : Stmt := topS 35
abbrev N_law_open : List Str := ["_law_script_here", "_law_k", "_law_cell", "_law_seed"]
theorem sc_law_open : FnScope N_law_open ["_law_script_here", "_law_k"] (defScope s_law_open) := ⟨rfl, rfl, rfl, by decide +kernel, rfl, by decide +kernel, by decide +kernel⟩
abbrev s_law_draw : Stmt := topS 36
abbrev N_law_draw : List Str := ["_law_deck", "_law_many", "_law_taken", "_law_stir"]
theorem sc_law_draw : FnScope N_law_draw ["_law_deck", "_law_many"] (defScope s_law_draw) := ⟨rfl, rfl, rfl, by decide +kernel, rfl, by decide +kernel, by decide +kernel⟩
abbrev s_law_size : Stmt := topS 37
abbrev N_law_size : List Str := ["_law_deck"]
theorem sc_law_size : FnScope N_law_size ["_law_deck"] (defScope s_law_size) := ⟨rfl, rfl, rfl, by decide +kernel, rfl, by decide +kernel, by decide +kernel⟩
abbrev s_law_script : Stmt := topS 38
abbrev N_law_script : List Str := ["_law_deck", "_law_size_here", "_law_most", "_law_words", "_law_found", "_law_turn", "_law_word", "_law_folder", "_law_path"]
theorem sc_law_script : FnScope N_law_script ["_law_deck", "_law_size_here", "_law_most", "_law_words"] (defScope s_law_script) := ⟨rfl, rfl, rfl, by decide +kernel, rfl, by decide +kernel, by decide +kernel⟩
abbrev s_law_papers : Stmt := topS 39
abbrev N_law_papers : List Str := ["_law_size_here", "_law_script_here", "_law_path", "_law_contents_here", "_law_papers_here", "_law_found", "_law_place", "_law_word", "_law_folder", "_law_other"]
theorem sc_law_papers : FnScope N_law_papers ["_law_size_here", "_law_script_here", "_law_path", "_law_contents_here"] (defScope s_law_papers) := ⟨rfl, rfl, rfl, by decide +kernel, rfl, by decide +kernel, by decide +kernel⟩
abbrev s_law_contents : Stmt := topS 40
abbrev N_law_contents : List Str := ["_law_size_here", "_law_found", "_law_folder", "_law_contents_here"]
theorem sc_law_contents : FnScope N_law_contents ["_law_size_here"] (defScope s_law_contents) := ⟨rfl, rfl, rfl, by decide +kernel, rfl, by decide +kernel, by decide +kernel⟩
abbrev s_law_first : Stmt := topS 41
abbrev N_law_first : List Str := ["_law_row", "_law_contents_here", "_law_source"]
theorem sc_law_first : FnScope N_law_first ["_law_row", "_law_contents_here"] (defScope s_law_first) := ⟨rfl, rfl, rfl, by decide +kernel, rfl, by decide +kernel, by decide +kernel⟩
abbrev s_law : Stmt := topS 42
abbrev N_law : List Str := ["_law_script_here", "_law_k", "_law_deck", "_law_size_here", "_law_deeds", "_law_path", "_law_rows", "_law_kept", "_law_contents_here", "_law_due", "_law_found", "_law_row"]
theorem sc_law : FnScope N_law ["_law_script_here"] (defScope s_law) := ⟨rfl, rfl, rfl, by decide +kernel, rfl, by decide +kernel, by decide +kernel⟩
structure Tx (K : PySem.W.Frag) (mg : Str → Option Value) (ad : Nat → Addr) (fdd : Nat → FuncData) : Prop where
  m_CHANGES : KtAt K mg "CHANGES" ["write", "throw"]
  m_COPIES : KtAt K mg "COPIES" ["over", "under"]
  m_LAST_PATH : ∃ u, mg "LAST_PATH" = some u ∧ RelV (.int (3)) u
  m_MOST_DEEDS : ∃ u, mg "MOST_DEEDS" = some u ∧ RelV (.int (30)) u
  m_MOST_FOLDERS : ∃ u, mg "MOST_FOLDERS" = some u ∧ RelV (.int (6)) u
  m_abs : mg "abs" = none
  m_all : mg "all" = none
  m_bool : mg "bool" = none
  m_enumerate : mg "enumerate" = none
  m_int : mg "int" = none
  m_isinstance : mg "isinstance" = none
  m_len : mg "len" = none
  m_max : mg "max" = none
  m_min : mg "min" = none
  m_range : mg "range" = none
  m_repr : mg "repr" = none
  m_str : mg "str" = none
  m_tuple : mg "tuple" = none
  F_is_whole : Fun K "is_whole" "is_whole" s_is_whole (ad 9) (fdd 9)
  g_is_whole : mg "is_whole" = some (.ref (ad 9))
  b_is_whole : Binds K (fdd 9) ["thing", "low", "high"] []
  F_is_word : Fun K "is_word" "is_word" s_is_word (ad 10) (fdd 10)
  g_is_word : mg "is_word" = some (.ref (ad 10))
  b_is_word : Binds K (fdd 10) ["thing", "words"] []
  F_is_rising : Fun K "is_rising" "is_rising" s_is_rising (ad 11) (fdd 11)
  g_is_rising : mg "is_rising" = some (.ref (ad 11))
  b_is_rising : Binds K (fdd 11) ["things"] []
  F_is_folder : Fun K "is_folder" "is_folder" s_is_folder (ad 12) (fdd 12)
  g_is_folder : mg "is_folder" = some (.ref (ad 12))
  b_is_folder : Binds K (fdd 12) ["size", "thing"] []
  F_is_path : Fun K "is_path" "is_path" s_is_path (ad 13) (fdd 13)
  g_is_path : mg "is_path" = some (.ref (ad 13))
  b_is_path : Binds K (fdd 13) ["thing"] []
  F_is_contents : Fun K "is_contents" "is_contents" s_is_contents (ad 14) (fdd 14)
  g_is_contents : mg "is_contents" = some (.ref (ad 14))
  b_is_contents : Binds K (fdd 14) ["size", "thing"] []
  F_need_size : Fun K "need_size" "need_size" s_need_size (ad 15) (fdd 15)
  g_need_size : mg "need_size" = some (.ref (ad 15))
  b_need_size : Binds K (fdd 15) ["thing"] []
  F_need_path : Fun K "need_path" "need_path" s_need_path (ad 16) (fdd 16)
  g_need_path : mg "need_path" = some (.ref (ad 16))
  b_need_path : Binds K (fdd 16) ["thing"] []
  F_need_contents : Fun K "need_contents" "need_contents" s_need_contents (ad 17) (fdd 17)
  g_need_contents : mg "need_contents" = some (.ref (ad 17))
  b_need_contents : Binds K (fdd 17) ["size", "thing"] []
  F_is_paper_deed : Fun K "is_paper_deed" "is_paper_deed" s_is_paper_deed (ad 25) (fdd 25)
  g_is_paper_deed : mg "is_paper_deed" = some (.ref (ad 25))
  b_is_paper_deed : Binds K (fdd 25) ["size", "thing"] []
  F_is_script : Fun K "is_script" "is_script" s_is_script (ad 22) (fdd 22)
  g_is_script : mg "is_script" = some (.ref (ad 22))
  b_is_script : Binds K (fdd 22) ["size", "thing"] []
  F_need_work : Fun K "_need_work" "_need_work" s_need_work (ad 33) (fdd 33)
  g_need_work : mg "_need_work" = some (.ref (ad 33))
  b_need_work : Binds K (fdd 33) ["size", "script", "path"] []
  F_first_lists : Fun K "first_lists" "first_lists" s_first_lists (ad 26) (fdd 26)
  g_first_lists : mg "first_lists" = some (.ref (ad 26))
  b_first_lists : Binds K (fdd 26) ["size"] []
  F_put : Fun K "_put" "_put" s_put (ad 31) (fdd 31)
  g_put : mg "_put" = some (.ref (ad 31))
  b_put : Binds K (fdd 31) ["lists", "folder", "sources"] []
  F_laid_over : Fun K "_laid_over" "_laid_over" s_laid_over (ad 32) (fdd 32)
  g_laid_over : mg "_laid_over" = some (.ref (ad 32))
  b_laid_over : Binds K (fdd 32) ["ahead", "behind"] []
  F_lists_behind : Fun K "lists_behind" "lists_behind" s_lists_behind (ad 27) (fdd 27)
  g_lists_behind : mg "lists_behind" = some (.ref (ad 27))
  b_lists_behind : Binds K (fdd 27) ["lists", "deed", "path", "place"] []
  F_lists_through : Fun K "lists_through" "lists_through" s_lists_through (ad 28) (fdd 28)
  g_lists_through : mg "lists_through" = some (.ref (ad 28))
  b_lists_through : Binds K (fdd 28) ["size", "script", "path"] []
  F_lists_of : Fun K "lists_of" "lists_of" s_lists_of (ad 23) (fdd 23)
  g_lists_of : mg "lists_of" = some (.ref (ad 23))
  b_lists_of : Binds K (fdd 23) ["size", "script", "path"] []
  F_first_there : Fun K "first_there" "first_there" s_first_there (ad 29) (fdd 29)
  g_first_there : mg "first_there" = some (.ref (ad 29))
  b_first_there : Binds K (fdd 29) ["sources", "contents"] []
  F_papers_of : Fun K "papers_of" "papers_of" s_papers_of (ad 30) (fdd 30)
  g_papers_of : mg "papers_of" = some (.ref (ad 30))
  b_papers_of : Binds K (fdd 30) ["lists", "contents"] []
  F_papers_at : Fun K "papers_at" "papers_at" s_papers_at (ad 24) (fdd 24)
  g_papers_at : mg "papers_at" = some (.ref (ad 24))
  b_papers_at : Binds K (fdd 24) ["size", "script", "path", "contents"] []
  F_law_open : Fun K "_law_open" "_law_open" s_law_open (ad 35) (fdd 35)
  g_law_open : mg "_law_open" = some (.ref (ad 35))
  b_law_open : Binds K (fdd 35) ["_law_script_here", "_law_k"] []
  F_law_draw : Fun K "_law_draw" "_law_draw" s_law_draw (ad 36) (fdd 36)
  g_law_draw : mg "_law_draw" = some (.ref (ad 36))
  b_law_draw : Binds K (fdd 36) ["_law_deck", "_law_many"] []
  F_law_size : Fun K "_law_size" "_law_size" s_law_size (ad 37) (fdd 37)
  g_law_size : mg "_law_size" = some (.ref (ad 37))
  b_law_size : Binds K (fdd 37) ["_law_deck"] []
  F_law_script : Fun K "_law_script" "_law_script" s_law_script (ad 38) (fdd 38)
  g_law_script : mg "_law_script" = some (.ref (ad 38))
  b_law_script : Binds K (fdd 38) ["_law_deck", "_law_size_here", "_law_most", "_law_words"] []
  F_law_papers : Fun K "_law_papers" "_law_papers" s_law_papers (ad 39) (fdd 39)
  g_law_papers : mg "_law_papers" = some (.ref (ad 39))
  b_law_papers : Binds K (fdd 39) ["_law_size_here", "_law_script_here", "_law_path", "_law_contents_here"] []
  F_law_contents : Fun K "_law_contents" "_law_contents" s_law_contents (ad 40) (fdd 40)
  g_law_contents : mg "_law_contents" = some (.ref (ad 40))
  b_law_contents : Binds K (fdd 40) ["_law_size_here"] []
  F_law_first : Fun K "_law_first" "_law_first" s_law_first (ad 41) (fdd 41)
  g_law_first : mg "_law_first" = some (.ref (ad 41))
  b_law_first : Binds K (fdd 41) ["_law_row", "_law_contents_here"] []
  F_law : Fun K "law" "law" s_law (ad 42) (fdd 42)
  g_law : mg "law" = some (.ref (ad 42))
  b_law : Binds K (fdd 42) ["_law_script_here"] []
  x_BadContents : ExF K mg "BadContents" (ad 5)
  x_BadPath : ExF K mg "BadPath" (ad 3)
  x_BadScript : ExF K mg "BadScript" (ad 4)
  x_BadSize : ExF K mg "BadSize" (ad 2)
  kb_papers_at_0_size_script_path_contents : KBinds K (fdd 24) ["size", "script", "path", "contents"] ["size", "script", "path", "contents"] (gP [(false, 0), (false, 1), (false, 2), (false, 3)]) (gP [(false, 0), (false, 1), (false, 2), (false, 3)])
abbrev F_law_draw := F_draw
abbrev F_law_open := F_open
def B_law_size : Env → R Out :=
  (retS (bin gIx (lstD (dispL (consA (bin gAdd (cD (.int 1)) (callF 2 F_law_draw (consA (varD 0) (consA (cD (.int 4)) nilA)))) (consA (bin gAdd (cD (.int 5)) (callF 2 F_law_draw (consA (varD 0) (consA (cD (.int 2)) nilA)))) nilA)))) (callD gInt (consA (bin gEq (callF 2 F_law_draw (consA (varD 0) (consA (cD (.int 6)) nilA))) (cD (.int 5))) nilA))))
def F_law_size : List D → R D := defF 1 B_law_size
def B_law_script : Env → R Out :=
  (seqS (setS 2 (bin gIx (lstD (dispL (consA (varD 2) (consA (callD gMin (consA (cD (.int 30)) (consA (bin gMulA (cD (.int 3)) (varD 2)) nilA))) nilA)))) (callD gInt (consA (bin gEq (callF 2 F_law_draw (consA (varD 0) (consA (cD (.int 8)) nilA))) (cD (.int 7))) nilA))))
    (seqS (setO 4 (dispL nilA))
    (seqS (forS (rngI (consA (callF 2 F_law_draw (consA (varD 0) (consA (bin gAdd (varD 2) (cD (.int 1))) nilA))) nilA)) (tName 5)
    (seqS (setS 6 (bin gIx (varD 3) (callF 2 F_law_draw (consA (varD 0) (consA (callD gLen (consA (varD 3) nilA)) nilA)))))
    (seqS (setS 7 (callF 2 F_law_draw (consA (varD 0) (consA (varD 1) nilA))))
    (ifS (orT (blT (bin gInA (varD 6) (lstD (dispL (consA (cD (.str "write")) (consA (cD (.str "throw")) nilA)))))) (blT (bin gEq (varD 1) (cD (.int 1)))))
    (seqS (setS 8 (bin gIx (lstD (dispL (consA (cD (.int 0)) (consA (cD (.int 1)) (consA (cD (.int 0)) (consA (cD (.int 1)) (consA (cD (.int 2)) (consA (cD (.int 3)) nilA)))))))) (callF 2 F_law_draw (consA (varD 0) (consA (cD (.int 6)) nilA)))))
    (appS 4 (tupD (consA (bin gIx (lstD (dispL (consA (cD (.str "throw")) (consA (varD 6) nilA)))) (callD gInt (consA (bin gInA (varD 6) (lstD (dispL (consA (cD (.str "write")) (consA (cD (.str "throw")) nilA))))) nilA))) (consA (varD 7) (consA (varD 8) nilA))))))
    (appS 4 (tupD (consA (varD 6) (consA (varD 7) (consA (bin gMod (callD gInt (consA (bin gAdd (bin gAdd (varD 7) (cD (.int 1))) (callF 2 F_law_draw (consA (varD 0) (consA (bin gSub (varD 1) (cD (.int 1))) nilA)))) nilA)) (varD 1)) nilA)))))))))
    (retS (ownTup 4)))))
def F_law_script : List D → R D := defF 9 B_law_script
def B_law_papers : Env → R Out :=
  (seqS (setO 4 (compD (rngI (consA (varD 0) nilA)) (tName 8) yesT (bin gIx (lstD (dispL (consA (cD .none) (consA (tupD (consA (cD (.str "first")) (consA (varD 8) nilA))) nilA)))) (callD gInt (consA (bin gInA (varD 8) (varD 3)) nilA))) [8]))
    (seqS (setO 5 (dispL (consA (ownTup 4) nilA)))
    (seqS (forS (rngI (consA (callD gLen (consA (varD 1) nilA)) nilA)) (tName 6)
    (seqS (asgS (bin gIx (varD 1) (varD 6)) (tTup 3 (tCons (tName 7) (tCons (tName 8) (tCons (tName 9) tNil)))))
    (seqS (ifS (andT (blT (bin gEq (varD 7) (cD (.str "over")))) (blT (bin gIsNot (ownIx 4 (varD 8)) (cD .none))))
    (putS 4 (ownIx 4 (varD 8)) (varD 9))
    passS)
    (seqS (ifS (andT (blT (bin gEq (varD 7) (cD (.str "under")))) (blT (bin gIs (ownIx 4 (varD 9)) (cD .none))))
    (putS 4 (ownIx 4 (varD 8)) (varD 9))
    passS)
    (seqS (ifS (andT (blT (bin gEq (varD 7) (cD (.str "write")))) (blT (bin gEq (varD 9) (varD 2))))
    (putS 4 (tupD (consA (cD (.str "written")) (consA (varD 6) nilA))) (varD 8))
    passS)
    (seqS (ifS (andT (blT (bin gEq (varD 7) (cD (.str "throw")))) (blT (bin gEq (varD 9) (varD 2))))
    (putS 4 (cD .none) (varD 8))
    passS)
    (appS 5 (ownTup 4))))))))
    (retO 5))))
def F_law_papers : List D → R D := defF 10 B_law_papers
def FL_law_papers : List D → R (List D) := defL 10 B_law_papers
def B_law_contents : Env → R Out :=
  (seqS (setS 1 (lstD (dispL (consA (tupD nilA) nilA))))
    (seqS (forS (rngI (consA (varD 0) nilA)) (tName 2)
    (setS 1 (bin gAdd (varD 1) (lstD (compD (iterF (varD 1)) (tName 3) yesT (bin gAdd (varD 3) (tupD (consA (varD 2) nilA))) [3])))))
    (retS (varD 1))))
def F_law_contents : List D → R D := defF 4 B_law_contents
def B_law_first : Env → R Out :=
  (seqS (forS (iterF (varD 0)) (tName 2)
    (ifS (orT (blT (bin gEq (bin gIx (varD 2) (cD (.int 0))) (cD (.str "written")))) (blT (bin gInA (bin gIx (varD 2) (cD (.int 1))) (varD 1))))
    (retS (varD 2))
    passS))
    (retS (cD .none)))
def F_law_first : List D → R D := defF 3 B_law_first
def B_law : Env → R Out :=
  (seqS (forS (rngI (consA (callD gMax (consA (cD (.int 1)) (consA (callD gMin (consA (cD (.int 5)) (consA (callD gLen (consA (varD 0) nilA)) nilA))) nilA))) nilA)) (tName 1)
    (seqS (setS 2 (callF 2 F_law_open (consA (varD 0) (consA (varD 1) nilA))))
    (seqS (setS 3 (callF 1 F_law_size (consA (varD 2) nilA)))
    (seqS (setS 4 (callF 4 F_law_script (consA (varD 2) (consA (varD 3) (consA (cD (.int 8)) (consA (lstD (dispL (consA (cD (.str "over")) (consA (cD (.str "over")) (consA (cD (.str "under")) (consA (cD (.str "under")) (consA (cD (.str "write")) (consA (cD (.str "throw")) nilA)))))))) nilA))))))
    (seqS (setS 5 (callF 2 F_law_draw (consA (varD 2) (consA (cD (.int 4)) nilA))))
    (seqS (setS 6 (callF 3 F_lists_of (consA (varD 3) (consA (varD 4) (consA (varD 5) nilA)))))
    (seqS (setS 7 (callD gRepr (consA (varD 4) nilA)))
    (seqS (forS (iterF (callF 1 F_law_contents (consA (varD 3) nilA))) (tName 8)
    (seqS (setS 9 (bin gIx (callF 4 F_law_papers (consA (varD 3) (consA (varD 4) (consA (varD 5) (consA (varD 8) nilA))))) (un gNeg (cD (.int 1)))))
    (seqS (setS 10 (callF 4 F_papers_at (consA (varD 3) (consA (varD 4) (consA (varD 5) (consA (varD 8) nilA))))))
    (seqS (ifS (orT (notT (truT (isiD "tuple" (varD 10)))) (blT (bin gNe (varD 10) (varD 9))))
    (retS (cD (.bool false)))
    passS)
    (ifS (blT (bin gNe (varD 10) (callD gTuple (consA (lstD (compD (iterF (varD 6)) (tName 11) yesT (callF 2 F_law_first (consA (varD 11) (consA (varD 8) nilA))) [11])) nilA))))
    (retS (cD (.bool false)))
    passS)))))
    (seqS (ifS (blT (bin gNe (callK 4 F_papers_at [(false, 0), (false, 1), (false, 2), (false, 3)] nilA (consA (varD 3) (consA (varD 4) (consA (varD 5) (consA (tupD (consA (cD (.int 0)) nilA)) nilA))))) (callF 4 F_papers_at (consA (varD 3) (consA (varD 4) (consA (varD 5) (consA (tupD (consA (cD (.int 0)) nilA)) nilA)))))))
    (retS (cD (.bool false)))
    passS)
    (ifS (blT (bin gNe (callD gRepr (consA (varD 4) nilA)) (varD 7)))
    (retS (cD (.bool false)))
    passS))))))))))
    (retS (cD (.bool true))))
def F_law : List D → R D := defF 12 B_law
end DL
namespace DL
open PySem PySem.Spec PyProof.Rows L2
section
variable {P : Program} {w : World} {K : PySem.W.Frag} {mg : Str → Option Value} {base : Heap} {ad : Nat → Addr} {fdd : Nat → FuncData}
theorem ok_is_whole (T : Tx K mg ad fdd) : FnG P w K mg base (L2.CX P w) 1 (ad 9) (fdd 9) ["thing", "low", "high"] (SpD K mg DP3 3 F_is_whole) :=
  fn_D T.F_is_whole sc_is_whole rfl rfl fun cdv A outer s H E S' dk hr hgu => by
    have tk : Takes (cxOf (L2.CX P w) P w K mg base N_is_whole "is_whole" (defScope s_is_whole) (ad 9) cdv A outer s H E) (fun cls d _ H => E cls d H) := takes_of rfl rfl rfl rfl
    have hpo : PassesOwn (model P w) (cxOf (L2.CX P w) P w K mg base N_is_whole "is_whole" (defScope s_is_whole) (ad 9) cdv A outer s H E).A (cxOf (L2.CX P w) P w K mg base N_is_whole "is_whole" (defScope s_is_whole) (ad 9) cdv A outer s H E).env (cxOf (L2.CX P w) P w K mg base N_is_whole "is_whole" (defScope s_is_whole) (ad 9) cdv A outer s H E).xe := passes_of (X := cxOf (L2.CX P w) P w K mg base N_is_whole "is_whole" (defScope s_is_whole) (ad 9) cdv A outer s H E) rfl
    exact (dss_one (ds_ret (de_and rfl (de_isi (T := "int") rfl (pe_callB c_isi1 (by rfl) T.m_isinstance (by decide +kernel) (pa_cons (de_var (pv 0)) (pa_cons (pe_bltn (v := .ty "int") rfl T.m_int (by decide +kernel) rfl) pa_nil)))) (de_and rfl (de_not rfl (de_isi (T := "bool") rfl (pe_callB c_isi1 (by rfl) T.m_isinstance (by decide +kernel) (pa_cons (de_var (pv 0)) (pa_cons (pe_bltn (v := .ty "bool") rfl T.m_bool (by decide +kernel) rfl) pa_nil))))) (de_one (de_chain op_leAll op_leAll (d_le _) (d_le _) (de_var (pv 1)) (de_var (pv 0)) (de_var (pv 2))))))))
theorem ok_is_word (T : Tx K mg ad fdd) : FnG P w K mg base (L2.CX P w) 1 (ad 10) (fdd 10) ["thing", "words"] (SpD K mg DP3 2 F_is_word) :=
  fn_D T.F_is_word sc_is_word rfl rfl fun cdv A outer s H E S' dk hr hgu => by
    have tk : Takes (cxOf (L2.CX P w) P w K mg base N_is_word "is_word" (defScope s_is_word) (ad 10) cdv A outer s H E) (fun cls d _ H => E cls d H) := takes_of rfl rfl rfl rfl
    have hpo : PassesOwn (model P w) (cxOf (L2.CX P w) P w K mg base N_is_word "is_word" (defScope s_is_word) (ad 10) cdv A outer s H E).A (cxOf (L2.CX P w) P w K mg base N_is_word "is_word" (defScope s_is_word) (ad 10) cdv A outer s H E).env (cxOf (L2.CX P w) P w K mg base N_is_word "is_word" (defScope s_is_word) (ad 10) cdv A outer s H E).xe := passes_of (X := cxOf (L2.CX P w) P w K mg base N_is_word "is_word" (defScope s_is_word) (ad 10) cdv A outer s H E) rfl
    exact (dss_one (ds_ret (de_and rfl (de_isi (T := "str") rfl (pe_callB c_isi1 (by rfl) T.m_isinstance (by decide +kernel) (pa_cons (de_var (pv 0)) (pa_cons (pe_bltn (v := .ty "str") rfl T.m_str (by decide +kernel) rfl) pa_nil)))) (de_one (de_cmp (op_inAll (hu65d hr)) (d_inA _) (de_var (pv 0)) (de_var (pv 1)) (by rfl))))))
theorem ok_is_rising (T : Tx K mg ad fdd) : FnG P w K mg base (L2.CX P w) 1 (ad 11) (fdd 11) ["things"] (SpD K mg DP3 1 F_is_rising) :=
  fn_D T.F_is_rising sc_is_rising rfl rfl fun cdv A outer s H E S' dk hr hgu => by
    have tk : Takes (cxOf (L2.CX P w) P w K mg base N_is_rising "is_rising" (defScope s_is_rising) (ad 11) cdv A outer s H E) (fun cls d _ H => E cls d H) := takes_of rfl rfl rfl rfl
    have hpo : PassesOwn (model P w) (cxOf (L2.CX P w) P w K mg base N_is_rising "is_rising" (defScope s_is_rising) (ad 11) cdv A outer s H E).A (cxOf (L2.CX P w) P w K mg base N_is_rising "is_rising" (defScope s_is_rising) (ad 11) cdv A outer s H E).env (cxOf (L2.CX P w) P w K mg base N_is_rising "is_rising" (defScope s_is_rising) (ad 11) cdv A outer s H E).xe := passes_of (X := cxOf (L2.CX P w) P w K mg base N_is_rising "is_rising" (defScope s_is_rising) (ad 11) cdv A outer s H E) rfl
    exact (dss_one (ds_ret (de_callB (cr_all rfl) (d_all _) (by rfl) T.m_all (by decide +kernel) (da_cons (de_lst (dl_lc (vs := [1]) (pe_lc (own := [("at", 1)]) rfl sc_is_rising.nd (di_rng1 (n := "") (pi_range1 (by rfl) T.m_range (da_cons (de_op op_sub (d_sub _) (de_callB c_lenV (d_len _) (by rfl) T.m_len (by decide +kernel) (da_cons (de_var (pv 0)) da_nil)) (de_int pe_int)) da_nil)) (len_cons len_nil)) (blkOk_by (own := [("at", 1)]) (N := N_is_rising) (sc := defScope s_is_rising) (by decide +kernel)) (fun _ _ _ _ _ => (pg_name (i := 1) sc_is_rising.nd rfl (by first | exact Or.inl rfl | exact Or.inr rfl))) (fun _ _ _ _ _ => dts_nil) (fun _ _ _ _ _ => (de_cmp (op_ltAll hr.units0) (d_lt _) (de_ix ix_seq (d_ix _) (de_var (pv 0)) (de_var (pv 1)) (fun _ _ => rfl)) (de_ix ix_seq (d_ix _) (de_var (pv 0)) (de_op op_addAll (d_add _) (de_var (pv 1)) (de_int pe_int)) (fun _ _ => rfl)) (nomark _)))) (gd_name (by decide)))) da_nil))))
theorem ok_is_folder (T : Tx K mg ad fdd) (G_is_whole : FnG P w K mg base (L2.CX P w) 1 (ad 9) (fdd 9) ["thing", "low", "high"] (SpD K mg DP3 3 F_is_whole)) : FnG P w K mg base (L2.CX P w) 2 (ad 12) (fdd 12) ["size", "thing"] (SpD K mg DP3 2 F_is_folder) :=
  fn_D T.F_is_folder sc_is_folder rfl rfl fun cdv A outer s H E S' dk hr hgu => by
    have tk : Takes (cxOf (L2.CX P w) P w K mg base N_is_folder "is_folder" (defScope s_is_folder) (ad 12) cdv A outer s H E) (fun cls d _ H => E cls d H) := takes_of rfl rfl rfl rfl
    have hpo : PassesOwn (model P w) (cxOf (L2.CX P w) P w K mg base N_is_folder "is_folder" (defScope s_is_folder) (ad 12) cdv A outer s H E).A (cxOf (L2.CX P w) P w K mg base N_is_folder "is_folder" (defScope s_is_folder) (ad 12) cdv A outer s H E).env (cxOf (L2.CX P w) P w K mg base N_is_folder "is_folder" (defScope s_is_folder) (ad 12) cdv A outer s H E).xe := passes_of (X := cxOf (L2.CX P w) P w K mg base N_is_folder "is_folder" (defScope s_is_folder) (ad 12) cdv A outer s H E) rfl
    exact (dss_one (ds_ret (de_call G_is_whole (hr.mono (by decide)) hgu (by rfl) T.g_is_whole T.F_is_whole.kp T.b_is_whole tk (da_cons (de_var (pv 1)) (da_cons (de_int pe_int) (da_cons (de_op op_sub (d_sub _) (de_var (pv 0)) (de_int pe_int)) da_nil))))))
theorem ok_is_path (T : Tx K mg ad fdd) (G_is_whole : FnG P w K mg base (L2.CX P w) 1 (ad 9) (fdd 9) ["thing", "low", "high"] (SpD K mg DP3 3 F_is_whole)) : FnG P w K mg base (L2.CX P w) 2 (ad 13) (fdd 13) ["thing"] (SpD K mg DP3 1 F_is_path) :=
  fn_D T.F_is_path sc_is_path rfl rfl fun cdv A outer s H E S' dk hr hgu => by
    have tk : Takes (cxOf (L2.CX P w) P w K mg base N_is_path "is_path" (defScope s_is_path) (ad 13) cdv A outer s H E) (fun cls d _ H => E cls d H) := takes_of rfl rfl rfl rfl
    have hpo : PassesOwn (model P w) (cxOf (L2.CX P w) P w K mg base N_is_path "is_path" (defScope s_is_path) (ad 13) cdv A outer s H E).A (cxOf (L2.CX P w) P w K mg base N_is_path "is_path" (defScope s_is_path) (ad 13) cdv A outer s H E).env (cxOf (L2.CX P w) P w K mg base N_is_path "is_path" (defScope s_is_path) (ad 13) cdv A outer s H E).xe := passes_of (X := cxOf (L2.CX P w) P w K mg base N_is_path "is_path" (defScope s_is_path) (ad 13) cdv A outer s H E) rfl
    exact (dss_one (ds_ret (de_call G_is_whole (hr.mono (by decide)) hgu (by rfl) T.g_is_whole T.F_is_whole.kp T.b_is_whole tk (da_cons (de_var (pv 0)) (da_cons (de_int pe_int) (da_cons (de_int (C8.pe_gc (v := .int (3)) rfl T.m_LAST_PATH)) da_nil))))))
theorem ok_is_contents (T : Tx K mg ad fdd) (G_is_rising : FnG P w K mg base (L2.CX P w) 1 (ad 11) (fdd 11) ["things"] (SpD K mg DP3 1 F_is_rising)) (G_is_folder : FnG P w K mg base (L2.CX P w) 2 (ad 12) (fdd 12) ["size", "thing"] (SpD K mg DP3 2 F_is_folder)) : FnG P w K mg base (L2.CX P w) 3 (ad 14) (fdd 14) ["size", "thing"] (SpD K mg DP3 2 F_is_contents) :=
  fn_D T.F_is_contents sc_is_contents rfl rfl fun cdv A outer s H E S' dk hr hgu => by
    have tk : Takes (cxOf (L2.CX P w) P w K mg base N_is_contents "is_contents" (defScope s_is_contents) (ad 14) cdv A outer s H E) (fun cls d _ H => E cls d H) := takes_of rfl rfl rfl rfl
    have hpo : PassesOwn (model P w) (cxOf (L2.CX P w) P w K mg base N_is_contents "is_contents" (defScope s_is_contents) (ad 14) cdv A outer s H E).A (cxOf (L2.CX P w) P w K mg base N_is_contents "is_contents" (defScope s_is_contents) (ad 14) cdv A outer s H E).env (cxOf (L2.CX P w) P w K mg base N_is_contents "is_contents" (defScope s_is_contents) (ad 14) cdv A outer s H E).xe := passes_of (X := cxOf (L2.CX P w) P w K mg base N_is_contents "is_contents" (defScope s_is_contents) (ad 14) cdv A outer s H E) rfl
    exact (dss_one (ds_ret (de_and rfl (de_isi (T := "tuple") rfl (pe_callB c_isi1 (by rfl) T.m_isinstance (by decide +kernel) (pa_cons (de_var (pv 1)) (pa_cons (pe_bltn (v := .ty "tuple") rfl T.m_tuple (by decide +kernel) rfl) pa_nil)))) (de_and rfl (de_callB (cr_all rfl) (d_all _) (by rfl) T.m_all (by decide +kernel) (da_cons (de_lst (dl_lc (vs := [2]) (pe_lc (own := [("folder", 2)]) rfl sc_is_contents.nd (di_any rfl (de_var (pv 1))) (blkOk_by (own := [("folder", 2)]) (N := N_is_contents) (sc := defScope s_is_contents) (by decide +kernel)) (fun _ _ _ _ _ => (pg_name (i := 2) sc_is_contents.nd rfl (by first | exact Or.inl rfl | exact Or.inr rfl))) (fun _ _ _ _ _ => dts_nil) (fun _ _ _ _ _ => (de_call G_is_folder (hr.mono (by decide)) hgu (by rfl) T.g_is_folder T.F_is_folder.kp T.b_is_folder takes0 (da_cons (de_var (pv 0)) (da_cons (de_var (pv 2)) da_nil))))) (gd_name (by decide)))) da_nil)) (de_one (de_call G_is_rising (hr.mono (by decide)) hgu (by rfl) T.g_is_rising T.F_is_rising.kp T.b_is_rising tk (da_cons (de_var (pv 1)) da_nil)))))))
theorem ok_need_size (T : Tx K mg ad fdd) (G_is_whole : FnG P w K mg base (L2.CX P w) 1 (ad 9) (fdd 9) ["thing", "low", "high"] (SpD K mg DP3 3 F_is_whole)) : FnG P w K mg base (L2.CX P w) 2 (ad 15) (fdd 15) ["thing"] (SpD K mg DP3 1 F_need_size) :=
  fn_D T.F_need_size sc_need_size rfl rfl fun cdv A outer s H E S' dk hr hgu => by
    have tk : Takes (cxOf (L2.CX P w) P w K mg base N_need_size "need_size" (defScope s_need_size) (ad 15) cdv A outer s H E) (fun cls d _ H => E cls d H) := takes_of rfl rfl rfl rfl
    have hpo : PassesOwn (model P w) (cxOf (L2.CX P w) P w K mg base N_need_size "need_size" (defScope s_need_size) (ad 15) cdv A outer s H E).A (cxOf (L2.CX P w) P w K mg base N_need_size "need_size" (defScope s_need_size) (ad 15) cdv A outer s H E).env (cxOf (L2.CX P w) P w K mg base N_need_size "need_size" (defScope s_need_size) (ad 15) cdv A outer s H E).xe := passes_of (X := cxOf (L2.CX P w) P w K mg base N_need_size "need_size" (defScope s_need_size) (ad 15) cdv A outer s H E) rfl
    exact (dss_one (ds_if (dt_not (dt_tru rfl (de_call G_is_whole (hr.mono (by decide)) hgu (by rfl) T.g_is_whole T.F_is_whole.kp T.b_is_whole tk (da_cons (de_var (pv 0)) (da_cons (de_int pe_int) (da_cons (de_int (C8.pe_gc (v := .int (6)) rfl T.m_MOST_FOLDERS)) da_nil))))))
    (dss_one (ds_raiseX T.x_BadSize rfl rfl tk (by rfl) (de_fstr (JsOk.cons (de_str pe_str) (JsOk.cons (de_fmt (de_int (C8.pe_gc (v := .int (6)) rfl T.m_MOST_FOLDERS))) JsOk.nil)))))
    dss_nil))
theorem ok_need_path (T : Tx K mg ad fdd) (G_is_path : FnG P w K mg base (L2.CX P w) 2 (ad 13) (fdd 13) ["thing"] (SpD K mg DP3 1 F_is_path)) : FnG P w K mg base (L2.CX P w) 3 (ad 16) (fdd 16) ["thing"] (SpD K mg DP3 1 F_need_path) :=
  fn_D T.F_need_path sc_need_path rfl rfl fun cdv A outer s H E S' dk hr hgu => by
    have tk : Takes (cxOf (L2.CX P w) P w K mg base N_need_path "need_path" (defScope s_need_path) (ad 16) cdv A outer s H E) (fun cls d _ H => E cls d H) := takes_of rfl rfl rfl rfl
    have hpo : PassesOwn (model P w) (cxOf (L2.CX P w) P w K mg base N_need_path "need_path" (defScope s_need_path) (ad 16) cdv A outer s H E).A (cxOf (L2.CX P w) P w K mg base N_need_path "need_path" (defScope s_need_path) (ad 16) cdv A outer s H E).env (cxOf (L2.CX P w) P w K mg base N_need_path "need_path" (defScope s_need_path) (ad 16) cdv A outer s H E).xe := passes_of (X := cxOf (L2.CX P w) P w K mg base N_need_path "need_path" (defScope s_need_path) (ad 16) cdv A outer s H E) rfl
    exact (dss_one (ds_if (dt_not (dt_tru rfl (de_call G_is_path (hr.mono (by decide)) hgu (by rfl) T.g_is_path T.F_is_path.kp T.b_is_path tk (da_cons (de_var (pv 0)) da_nil))))
    (dss_one (ds_raiseX T.x_BadPath rfl rfl tk (by rfl) (de_fstr (JsOk.cons (de_str pe_str) (JsOk.cons (de_fmt (de_int (C8.pe_gc (v := .int (3)) rfl T.m_LAST_PATH))) JsOk.nil)))))
    dss_nil))
theorem ok_need_contents (T : Tx K mg ad fdd) (G_is_contents : FnG P w K mg base (L2.CX P w) 3 (ad 14) (fdd 14) ["size", "thing"] (SpD K mg DP3 2 F_is_contents)) : FnG P w K mg base (L2.CX P w) 4 (ad 17) (fdd 17) ["size", "thing"] (SpD K mg DP3 2 F_need_contents) :=
  fn_D T.F_need_contents sc_need_contents rfl rfl fun cdv A outer s H E S' dk hr hgu => by
    have tk : Takes (cxOf (L2.CX P w) P w K mg base N_need_contents "need_contents" (defScope s_need_contents) (ad 17) cdv A outer s H E) (fun cls d _ H => E cls d H) := takes_of rfl rfl rfl rfl
    have hpo : PassesOwn (model P w) (cxOf (L2.CX P w) P w K mg base N_need_contents "need_contents" (defScope s_need_contents) (ad 17) cdv A outer s H E).A (cxOf (L2.CX P w) P w K mg base N_need_contents "need_contents" (defScope s_need_contents) (ad 17) cdv A outer s H E).env (cxOf (L2.CX P w) P w K mg base N_need_contents "need_contents" (defScope s_need_contents) (ad 17) cdv A outer s H E).xe := passes_of (X := cxOf (L2.CX P w) P w K mg base N_need_contents "need_contents" (defScope s_need_contents) (ad 17) cdv A outer s H E) rfl
    exact (dss_one (ds_if (dt_not (dt_tru rfl (de_call G_is_contents (hr.mono (by decide)) hgu (by rfl) T.g_is_contents T.F_is_contents.kp T.b_is_contents tk (da_cons (de_var (pv 0)) (da_cons (de_var (pv 1)) da_nil)))))
    (dss_one (ds_raiseX T.x_BadContents rfl rfl tk (by rfl) (de_str pe_str)))
    dss_nil))
theorem ok_is_paper_deed (T : Tx K mg ad fdd) (G_is_word : FnG P w K mg base (L2.CX P w) 1 (ad 10) (fdd 10) ["thing", "words"] (SpD K mg DP3 2 F_is_word)) (G_is_path : FnG P w K mg base (L2.CX P w) 2 (ad 13) (fdd 13) ["thing"] (SpD K mg DP3 1 F_is_path)) (G_is_folder : FnG P w K mg base (L2.CX P w) 2 (ad 12) (fdd 12) ["size", "thing"] (SpD K mg DP3 2 F_is_folder)) : FnG P w K mg base (L2.CX P w) 3 (ad 25) (fdd 25) ["size", "thing"] (SpD K mg DP3 2 F_is_paper_deed) :=
  fn_D T.F_is_paper_deed sc_is_paper_deed rfl rfl fun cdv A outer s H E S' dk hr hgu => by
    have tk : Takes (cxOf (L2.CX P w) P w K mg base N_is_paper_deed "is_paper_deed" (defScope s_is_paper_deed) (ad 25) cdv A outer s H E) (fun cls d _ H => E cls d H) := takes_of rfl rfl rfl rfl
    have hpo : PassesOwn (model P w) (cxOf (L2.CX P w) P w K mg base N_is_paper_deed "is_paper_deed" (defScope s_is_paper_deed) (ad 25) cdv A outer s H E).A (cxOf (L2.CX P w) P w K mg base N_is_paper_deed "is_paper_deed" (defScope s_is_paper_deed) (ad 25) cdv A outer s H E).env (cxOf (L2.CX P w) P w K mg base N_is_paper_deed "is_paper_deed" (defScope s_is_paper_deed) (ad 25) cdv A outer s H E).xe := passes_of (X := cxOf (L2.CX P w) P w K mg base N_is_paper_deed "is_paper_deed" (defScope s_is_paper_deed) (ad 25) cdv A outer s H E) rfl
    exact (dss_cons (ds_if (dt_not (PW.pt (dw_and (dt_tru rfl (de_isi (T := "tuple") rfl (pe_callB c_isi1 (by rfl) T.m_isinstance (by decide +kernel) (pa_cons (de_var (pv 1)) (pa_cons (pe_bltn (v := .ty "tuple") rfl T.m_tuple (by decide +kernel) rfl) pa_nil))))) (dw_and (dt_cmp (op_eqAll hr.units) (d_eq _) (de_callB c_lenV (d_len _) (by rfl) T.m_len (by decide +kernel) (da_cons (de_var (pv 1)) da_nil)) (de_int pe_int) (nomark _)) (dw_and1 (dt_tru rfl (de_call G_is_folder (hr.mono (by decide)) hgu (by rfl) T.g_is_folder T.F_is_folder.kp T.b_is_folder tk (da_cons (de_var (pv 0)) (da_cons (de_ix ix_seq (d_ix _) (de_var (pv 1)) (de_int pe_int) (fun _ _ => rfl)) da_nil)))))))))
    (dss_one (ds_ret (de_bl pe_bl)))
    dss_nil)
    (dss_cons (ds_if (dt_tru rfl (de_call G_is_word (hr.mono (by decide)) hgu (by rfl) T.g_is_word T.F_is_word.kp T.b_is_word tk (da_cons (de_ix ix_seq (d_ix _) (de_var (pv 1)) (de_int pe_int) (fun _ _ => rfl)) (da_cons (de_kt rfl (by rfl) T.m_COPIES) da_nil))))
    (dss_one (ds_ret (de_and rfl (de_call G_is_folder (hr.mono (by decide)) hgu (by rfl) T.g_is_folder T.F_is_folder.kp T.b_is_folder tk (da_cons (de_var (pv 0)) (da_cons (de_ix ix_seq (d_ix _) (de_var (pv 1)) (de_int pe_int) (fun _ _ => rfl)) da_nil))) (de_one (de_cmp (op_neAll hr.units) (d_ne _) (de_ix ix_seq (d_ix _) (de_var (pv 1)) (de_int pe_int) (fun _ _ => rfl)) (de_ix ix_seq (d_ix _) (de_var (pv 1)) (de_int pe_int) (fun _ _ => rfl)) (nomark _))))))
    dss_nil)
    (dss_one (ds_ret (de_and rfl (de_call G_is_word (hr.mono (by decide)) hgu (by rfl) T.g_is_word T.F_is_word.kp T.b_is_word tk (da_cons (de_ix ix_seq (d_ix _) (de_var (pv 1)) (de_int pe_int) (fun _ _ => rfl)) (da_cons (de_kt rfl (by rfl) T.m_CHANGES) da_nil))) (de_one (de_call G_is_path (hr.mono (by decide)) hgu (by rfl) T.g_is_path T.F_is_path.kp T.b_is_path tk (da_cons (de_ix ix_seq (d_ix _) (de_var (pv 1)) (de_int pe_int) (fun _ _ => rfl)) da_nil))))))))
theorem ok_is_script (T : Tx K mg ad fdd) (G_need_size : FnG P w K mg base (L2.CX P w) 2 (ad 15) (fdd 15) ["thing"] (SpD K mg DP3 1 F_need_size)) (G_is_paper_deed : FnG P w K mg base (L2.CX P w) 3 (ad 25) (fdd 25) ["size", "thing"] (SpD K mg DP3 2 F_is_paper_deed)) : FnG P w K mg base (L2.CX P w) 4 (ad 22) (fdd 22) ["size", "thing"] (SpD K mg DP3 2 F_is_script) :=
  fn_D T.F_is_script sc_is_script rfl rfl fun cdv A outer s H E S' dk hr hgu => by
    have tk : Takes (cxOf (L2.CX P w) P w K mg base N_is_script "is_script" (defScope s_is_script) (ad 22) cdv A outer s H E) (fun cls d _ H => E cls d H) := takes_of rfl rfl rfl rfl
    have hpo : PassesOwn (model P w) (cxOf (L2.CX P w) P w K mg base N_is_script "is_script" (defScope s_is_script) (ad 22) cdv A outer s H E).A (cxOf (L2.CX P w) P w K mg base N_is_script "is_script" (defScope s_is_script) (ad 22) cdv A outer s H E).env (cxOf (L2.CX P w) P w K mg base N_is_script "is_script" (defScope s_is_script) (ad 22) cdv A outer s H E).xe := passes_of (X := cxOf (L2.CX P w) P w K mg base N_is_script "is_script" (defScope s_is_script) (ad 22) cdv A outer s H E) rfl
    exact (dss_cons (ds_expr (de_call G_need_size (hr.mono (by decide)) hgu (by rfl) T.g_need_size T.F_need_size.kp T.b_need_size tk (da_cons (de_var (pv 0)) da_nil)))
    (dss_one (ds_ret (de_and rfl (de_isi (T := "tuple") rfl (pe_callB c_isi1 (by rfl) T.m_isinstance (by decide +kernel) (pa_cons (de_var (pv 1)) (pa_cons (pe_bltn (v := .ty "tuple") rfl T.m_tuple (by decide +kernel) rfl) pa_nil)))) (de_and rfl (de_cmp op_leAll (d_le _) (de_callB c_lenV (d_len _) (by rfl) T.m_len (by decide +kernel) (da_cons (de_var (pv 1)) da_nil)) (de_int (C8.pe_gc (v := .int (30)) rfl T.m_MOST_DEEDS)) (nomark _)) (de_one (de_callB (cr_all rfl) (d_all _) (by rfl) T.m_all (by decide +kernel) (da_cons (de_lst (dl_lc (vs := [2]) (pe_lc (own := [("deed", 2)]) rfl sc_is_script.nd (di_any rfl (de_var (pv 1))) (blkOk_by (own := [("deed", 2)]) (N := N_is_script) (sc := defScope s_is_script) (by decide +kernel)) (fun _ _ _ _ _ => (pg_name (i := 2) sc_is_script.nd rfl (by first | exact Or.inl rfl | exact Or.inr rfl))) (fun _ _ _ _ _ => dts_nil) (fun _ _ _ _ _ => (de_call G_is_paper_deed (hr.mono (by decide)) hgu (by rfl) T.g_is_paper_deed T.F_is_paper_deed.kp T.b_is_paper_deed takes0 (da_cons (de_var (pv 0)) (da_cons (de_var (pv 2)) da_nil))))) (gd_name (by decide)))) da_nil))))))))
theorem ok_need_work (T : Tx K mg ad fdd) (G_need_path : FnG P w K mg base (L2.CX P w) 3 (ad 16) (fdd 16) ["thing"] (SpD K mg DP3 1 F_need_path)) (G_is_script : FnG P w K mg base (L2.CX P w) 4 (ad 22) (fdd 22) ["size", "thing"] (SpD K mg DP3 2 F_is_script)) : FnG P w K mg base (L2.CX P w) 5 (ad 33) (fdd 33) ["size", "script", "path"] (SpD K mg DP3 3 F_need_work) :=
  fn_D T.F_need_work sc_need_work rfl rfl fun cdv A outer s H E S' dk hr hgu => by
    have tk : Takes (cxOf (L2.CX P w) P w K mg base N_need_work "_need_work" (defScope s_need_work) (ad 33) cdv A outer s H E) (fun cls d _ H => E cls d H) := takes_of rfl rfl rfl rfl
    have hpo : PassesOwn (model P w) (cxOf (L2.CX P w) P w K mg base N_need_work "_need_work" (defScope s_need_work) (ad 33) cdv A outer s H E).A (cxOf (L2.CX P w) P w K mg base N_need_work "_need_work" (defScope s_need_work) (ad 33) cdv A outer s H E).env (cxOf (L2.CX P w) P w K mg base N_need_work "_need_work" (defScope s_need_work) (ad 33) cdv A outer s H E).xe := passes_of (X := cxOf (L2.CX P w) P w K mg base N_need_work "_need_work" (defScope s_need_work) (ad 33) cdv A outer s H E) rfl
    exact (dss_cons (ds_if (dt_not (dt_tru rfl (de_call G_is_script (hr.mono (by decide)) hgu (by rfl) T.g_is_script T.F_is_script.kp T.b_is_script tk (da_cons (de_var (pv 0)) (da_cons (de_var (pv 1)) da_nil)))))
    (dss_one (ds_raiseX T.x_BadScript rfl rfl tk (by rfl) (de_fstr (JsOk.cons (de_str pe_str) (JsOk.cons (de_fmt (de_int (C8.pe_gc (v := .int (30)) rfl T.m_MOST_DEEDS))) (JsOk.cons (de_str pe_str) JsOk.nil))))))
    dss_nil)
    (dss_one (ds_expr (de_call G_need_path (hr.mono (by decide)) hgu (by rfl) T.g_need_path T.F_need_path.kp T.b_need_path tk (da_cons (de_var (pv 2)) da_nil)))))
theorem ok_first_lists (T : Tx K mg ad fdd) : FnG P w K mg base (L2.CX P w) 1 (ad 26) (fdd 26) ["size"] (SpD K mg DP3 1 F_first_lists) :=
  fn_D T.F_first_lists sc_first_lists rfl rfl fun cdv A outer s H E S' dk hr hgu => by
    have tk : Takes (cxOf (L2.CX P w) P w K mg base N_first_lists "first_lists" (defScope s_first_lists) (ad 26) cdv A outer s H E) (fun cls d _ H => E cls d H) := takes_of rfl rfl rfl rfl
    have hpo : PassesOwn (model P w) (cxOf (L2.CX P w) P w K mg base N_first_lists "first_lists" (defScope s_first_lists) (ad 26) cdv A outer s H E).A (cxOf (L2.CX P w) P w K mg base N_first_lists "first_lists" (defScope s_first_lists) (ad 26) cdv A outer s H E).env (cxOf (L2.CX P w) P w K mg base N_first_lists "first_lists" (defScope s_first_lists) (ad 26) cdv A outer s H E).xe := passes_of (X := cxOf (L2.CX P w) P w K mg base N_first_lists "first_lists" (defScope s_first_lists) (ad 26) cdv A outer s H E) rfl
    exact (dss_one (ds_ret (de_callTy c_tupOf (d_tuple _) (by rfl) T.m_tuple (by decide +kernel) (da_cons (de_lst (dl_lc (vs := [1]) (pe_lc (own := [("folder", 1)]) rfl sc_first_lists.nd (di_rng1 (n := "") (pi_range1 (by rfl) T.m_range (da_cons (de_var (pv 0)) da_nil)) (len_cons len_nil)) (blkOk_by (own := [("folder", 1)]) (N := N_first_lists) (sc := defScope s_first_lists) (by decide +kernel)) (fun _ _ _ _ _ => (pg_name (i := 1) sc_first_lists.nd rfl (by first | exact Or.inl rfl | exact Or.inr rfl))) (fun _ _ _ _ _ => dts_nil) (fun _ _ _ _ _ => (de_tup (da_cons (de_tup (da_cons (de_str pe_str) (da_cons (de_var (pv 1)) da_nil))) da_nil)))) (gd_name (by decide)))) da_nil))))
theorem ok_put (T : Tx K mg ad fdd) : FnG P w K mg base (L2.CX P w) 1 (ad 31) (fdd 31) ["lists", "folder", "sources"] (SpD K mg DP3 3 F_put) :=
  fn_D T.F_put sc_put rfl rfl fun cdv A outer s H E S' dk hr hgu => by
    have tk : Takes (cxOf (L2.CX P w) P w K mg base N_put "_put" (defScope s_put) (ad 31) cdv A outer s H E) (fun cls d _ H => E cls d H) := takes_of rfl rfl rfl rfl
    have hpo : PassesOwn (model P w) (cxOf (L2.CX P w) P w K mg base N_put "_put" (defScope s_put) (ad 31) cdv A outer s H E).A (cxOf (L2.CX P w) P w K mg base N_put "_put" (defScope s_put) (ad 31) cdv A outer s H E).env (cxOf (L2.CX P w) P w K mg base N_put "_put" (defScope s_put) (ad 31) cdv A outer s H E).xe := passes_of (X := cxOf (L2.CX P w) P w K mg base N_put "_put" (defScope s_put) (ad 31) cdv A outer s H E) rfl
    exact (dss_one (ds_ret (de_op op_addAll (d_add _) (de_op op_addAll (d_add _) (de_slice sl_all (d_sl _) (de_var (pv 0)) do_none (do_some (de_var (pv 1)))) (de_tup (da_cons (de_var (pv 2)) da_nil))) (de_slice sl_all (d_sl _) (de_var (pv 0)) (do_some (de_op op_addAll (d_add _) (de_var (pv 1)) (de_int pe_int))) do_none))))
theorem ok_laid_over (T : Tx K mg ad fdd) : FnG P w K mg base (L2.CX P w) 1 (ad 32) (fdd 32) ["ahead", "behind"] (SpD K mg DP3 2 F_laid_over) :=
  fn_D T.F_laid_over sc_laid_over rfl rfl fun cdv A outer s H E S' dk hr hgu => by
    have tk : Takes (cxOf (L2.CX P w) P w K mg base N_laid_over "_laid_over" (defScope s_laid_over) (ad 32) cdv A outer s H E) (fun cls d _ H => E cls d H) := takes_of rfl rfl rfl rfl
    have hpo : PassesOwn (model P w) (cxOf (L2.CX P w) P w K mg base N_laid_over "_laid_over" (defScope s_laid_over) (ad 32) cdv A outer s H E).A (cxOf (L2.CX P w) P w K mg base N_laid_over "_laid_over" (defScope s_laid_over) (ad 32) cdv A outer s H E).env (cxOf (L2.CX P w) P w K mg base N_laid_over "_laid_over" (defScope s_laid_over) (ad 32) cdv A outer s H E).xe := passes_of (X := cxOf (L2.CX P w) P w K mg base N_laid_over "_laid_over" (defScope s_laid_over) (ad 32) cdv A outer s H E) rfl
    exact (dss_cons (ds_if (PW.pt (dw_and (dt_tru rfl (de_var (pv 0))) (dw_and1 (dt_cmp (op_eqAll hr.units) (d_eq _) (de_ix ix_seq (d_ix _) (de_ix ix_seq (d_ix _) (de_var (pv 0)) (de_un un_neg (d_neg _) (de_int pe_int)) (fun _ _ => rfl)) (de_int pe_int) (fun _ _ => rfl)) (de_str pe_str) (nomark _)))))
    (dss_one (ds_ret (de_var (pv 0))))
    dss_nil)
    (dss_one (ds_ret (de_op op_addAll (d_add _) (de_var (pv 0)) (de_callTy c_tupOf (d_tuple _) (by rfl) T.m_tuple (by decide +kernel) (da_cons (de_lst (dl_lc (vs := [2]) (pe_lc (own := [("source", 2)]) rfl sc_laid_over.nd (di_any rfl (de_var (pv 1))) (blkOk_by (own := [("source", 2)]) (N := N_laid_over) (sc := defScope s_laid_over) (by decide +kernel)) (fun _ _ _ _ _ => (pg_name (i := 2) sc_laid_over.nd rfl (by first | exact Or.inl rfl | exact Or.inr rfl))) (fun _ _ _ _ _ => (dts_one (dt_cmp (op_notInAll (hu65d hr)) (d_notInA _) (de_var (pv 2)) (de_var (pv 0)) (by rfl)))) (fun _ _ _ _ _ => (de_var (pv 2)))) (gd_name (by decide)))) da_nil))))))
theorem ok_lists_behind (T : Tx K mg ad fdd) (G_put : FnG P w K mg base (L2.CX P w) 1 (ad 31) (fdd 31) ["lists", "folder", "sources"] (SpD K mg DP3 3 F_put)) (G_laid_over : FnG P w K mg base (L2.CX P w) 1 (ad 32) (fdd 32) ["ahead", "behind"] (SpD K mg DP3 2 F_laid_over)) : FnG P w K mg base (L2.CX P w) 2 (ad 27) (fdd 27) ["lists", "deed", "path", "place"] (SpD K mg DP3 4 F_lists_behind) :=
  fn_D T.F_lists_behind sc_lists_behind rfl rfl fun cdv A outer s H E S' dk hr hgu => by
    have tk : Takes (cxOf (L2.CX P w) P w K mg base N_lists_behind "lists_behind" (defScope s_lists_behind) (ad 27) cdv A outer s H E) (fun cls d _ H => E cls d H) := takes_of rfl rfl rfl rfl
    have hpo : PassesOwn (model P w) (cxOf (L2.CX P w) P w K mg base N_lists_behind "lists_behind" (defScope s_lists_behind) (ad 27) cdv A outer s H E).A (cxOf (L2.CX P w) P w K mg base N_lists_behind "lists_behind" (defScope s_lists_behind) (ad 27) cdv A outer s H E).env (cxOf (L2.CX P w) P w K mg base N_lists_behind "lists_behind" (defScope s_lists_behind) (ad 27) cdv A outer s H E).xe := passes_of (X := cxOf (L2.CX P w) P w K mg base N_lists_behind "lists_behind" (defScope s_lists_behind) (ad 27) cdv A outer s H E) rfl
    exact (dss_cons (ds_asg (vs := [4, 5, 6]) (gd_tup (n := 3) (gd_cons (gd_name (by decide)) (gd_cons (gd_name (by decide)) (gd_cons (gd_name (by decide)) gd_nil))) rfl) (ps_asg (de_var (pv 1)) (pg_tup rfl (pgs_cons (pg_name (i := 4) sc_lists_behind.nd rfl (by first | exact Or.inl rfl | exact Or.inr rfl)) (pgs_cons (pg_name (i := 5) sc_lists_behind.nd rfl (by first | exact Or.inl rfl | exact Or.inr rfl)) (pgs_cons (pg_name (i := 6) sc_lists_behind.nd rfl (by first | exact Or.inl rfl | exact Or.inr rfl)) pgs_nil))))))
    (dss_cons (ds_if (dt_cmp (op_eqAll hr.units) (d_eq _) (de_var (pv 4)) (de_str pe_str) (nomark _))
    (dss_one (ds_ret (de_call G_put (hr.mono (by decide)) hgu (by rfl) T.g_put T.F_put.kp T.b_put tk (da_cons (de_var (pv 0)) (da_cons (de_var (pv 6)) (da_cons (de_call G_laid_over (hr.mono (by decide)) hgu (by rfl) T.g_laid_over T.F_laid_over.kp T.b_laid_over tk (da_cons (de_ix ix_seq (d_ix _) (de_var (pv 0)) (de_var (pv 5)) (fun _ _ => rfl)) (da_cons (de_ix ix_seq (d_ix _) (de_var (pv 0)) (de_var (pv 6)) (fun _ _ => rfl)) da_nil))) da_nil))))))
    dss_nil)
    (dss_cons (ds_if (dt_cmp (op_eqAll hr.units) (d_eq _) (de_var (pv 4)) (de_str pe_str) (nomark _))
    (dss_one (ds_ret (de_call G_put (hr.mono (by decide)) hgu (by rfl) T.g_put T.F_put.kp T.b_put tk (da_cons (de_var (pv 0)) (da_cons (de_var (pv 6)) (da_cons (de_call G_laid_over (hr.mono (by decide)) hgu (by rfl) T.g_laid_over T.F_laid_over.kp T.b_laid_over tk (da_cons (de_ix ix_seq (d_ix _) (de_var (pv 0)) (de_var (pv 6)) (fun _ _ => rfl)) (da_cons (de_ix ix_seq (d_ix _) (de_var (pv 0)) (de_var (pv 5)) (fun _ _ => rfl)) da_nil))) da_nil))))))
    dss_nil)
    (dss_cons (ds_if (dt_cmp (op_neAll hr.units) (d_ne _) (de_var (pv 6)) (de_var (pv 2)) (nomark _))
    (dss_one (ds_ret (de_var (pv 0))))
    dss_nil)
    (dss_one (ds_ret (de_call G_put (hr.mono (by decide)) hgu (by rfl) T.g_put T.F_put.kp T.b_put tk (da_cons (de_var (pv 0)) (da_cons (de_var (pv 5)) (da_cons (de_if (dt_cmp (op_eqAll hr.units) (d_eq _) (de_var (pv 4)) (de_str pe_str) (nomark _)) (de_tup (da_cons (de_tup (da_cons (de_str pe_str) (da_cons (de_var (pv 3)) da_nil))) da_nil)) (de_tup da_nil)) da_nil))))))))))
theorem ok_lists_through (T : Tx K mg ad fdd) (G_first_lists : FnG P w K mg base (L2.CX P w) 1 (ad 26) (fdd 26) ["size"] (SpD K mg DP3 1 F_first_lists)) (G_lists_behind : FnG P w K mg base (L2.CX P w) 2 (ad 27) (fdd 27) ["lists", "deed", "path", "place"] (SpD K mg DP3 4 F_lists_behind)) : FnG P w K mg base (L2.CX P w) 3 (ad 28) (fdd 28) ["size", "script", "path"] (SpD K mg DP3 3 F_lists_through) :=
  fn_D T.F_lists_through sc_lists_through rfl rfl fun cdv A outer s H E S' dk hr hgu => by
    have tk : Takes (cxOf (L2.CX P w) P w K mg base N_lists_through "lists_through" (defScope s_lists_through) (ad 28) cdv A outer s H E) (fun cls d _ H => E cls d H) := takes_of rfl rfl rfl rfl
    have hpo : PassesOwn (model P w) (cxOf (L2.CX P w) P w K mg base N_lists_through "lists_through" (defScope s_lists_through) (ad 28) cdv A outer s H E).A (cxOf (L2.CX P w) P w K mg base N_lists_through "lists_through" (defScope s_lists_through) (ad 28) cdv A outer s H E).env (cxOf (L2.CX P w) P w K mg base N_lists_through "lists_through" (defScope s_lists_through) (ad 28) cdv A outer s H E).xe := passes_of (X := cxOf (L2.CX P w) P w K mg base N_lists_through "lists_through" (defScope s_lists_through) (ad 28) cdv A outer s H E) rfl
    exact (dss_cons (ds_setO (ps_set (i := 3) sc_lists_through.nd rfl (by first | exact Or.inl rfl | exact Or.inr rfl) (dl_lst (da_cons (de_call G_first_lists (hr.mono (by decide)) hgu (by rfl) T.g_first_lists T.F_first_lists.kp T.b_first_lists tk (da_cons (de_var (pv 0)) da_nil)) da_nil))))
    (dss_cons (ds_for (vs := [4, 5]) (ps_for hpo rfl (di_enum rfl (pi_enumA (by rfl) T.m_enumerate (de_var (pv 1)))) (pg_tup rfl (pgs_cons (pg_name (i := 4) sc_lists_through.nd rfl (by first | exact Or.inl rfl | exact Or.inr rfl)) (pgs_cons (pg_name (i := 5) sc_lists_through.nd rfl (by first | exact Or.inl rfl | exact Or.inr rfl)) pgs_nil)))
    (dss_one (ds_app (ps_expr (pe_bm PySem.F.plainAttrs_list PySem.F.slot_list_append PySem.F.type_list_append mt_append (pv 3) (pa_cons (de_call G_lists_behind (hr.mono (by decide)) hgu (by rfl) T.g_lists_behind T.F_lists_behind.kp T.b_lists_behind tk (da_cons (de_ownIx rfl (pe_ix ix_seq (pv 3) (de_un un_neg (d_neg _) (de_int pe_int)) (fun _ _ => rfl))) (da_cons (de_var (pv 5)) (da_cons (de_var (pv 2)) (da_cons (de_var (pv 4)) da_nil))))) pa_nil)))))) (gd_tup (n := 2) (gd_cons (gd_name (by decide)) (gd_cons (gd_name (by decide)) gd_nil)) rfl))
    (dss_one (ds_retO (pv 3)))))
theorem ok_lists_of (T : Tx K mg ad fdd) (G_need_work : FnG P w K mg base (L2.CX P w) 5 (ad 33) (fdd 33) ["size", "script", "path"] (SpD K mg DP3 3 F_need_work)) (G_lists_through : FnG P w K mg base (L2.CX P w) 3 (ad 28) (fdd 28) ["size", "script", "path"] (SpD K mg DP3 3 F_lists_through)) : FnG P w K mg base (L2.CX P w) 6 (ad 23) (fdd 23) ["size", "script", "path"] (SpD K mg DP3 3 F_lists_of) :=
  fn_D T.F_lists_of sc_lists_of rfl rfl fun cdv A outer s H E S' dk hr hgu => by
    have tk : Takes (cxOf (L2.CX P w) P w K mg base N_lists_of "lists_of" (defScope s_lists_of) (ad 23) cdv A outer s H E) (fun cls d _ H => E cls d H) := takes_of rfl rfl rfl rfl
    have hpo : PassesOwn (model P w) (cxOf (L2.CX P w) P w K mg base N_lists_of "lists_of" (defScope s_lists_of) (ad 23) cdv A outer s H E).A (cxOf (L2.CX P w) P w K mg base N_lists_of "lists_of" (defScope s_lists_of) (ad 23) cdv A outer s H E).env (cxOf (L2.CX P w) P w K mg base N_lists_of "lists_of" (defScope s_lists_of) (ad 23) cdv A outer s H E).xe := passes_of (X := cxOf (L2.CX P w) P w K mg base N_lists_of "lists_of" (defScope s_lists_of) (ad 23) cdv A outer s H E) rfl
    exact (dss_cons (ds_expr (de_call G_need_work (hr.mono (by decide)) hgu (by rfl) T.g_need_work T.F_need_work.kp T.b_need_work tk (da_cons (de_var (pv 0)) (da_cons (de_var (pv 1)) (da_cons (de_var (pv 2)) da_nil)))))
    (dss_one (ds_ret (de_ix ix_seq (d_ix _) (de_call G_lists_through (hr.mono (by decide)) hgu (by rfl) T.g_lists_through T.F_lists_through.kp T.b_lists_through tk (da_cons (de_var (pv 0)) (da_cons (de_var (pv 1)) (da_cons (de_var (pv 2)) da_nil)))) (de_un un_neg (d_neg _) (de_int pe_int)) (fun _ _ => rfl)))))
theorem ok_first_there (T : Tx K mg ad fdd) : FnG P w K mg base (L2.CX P w) 1 (ad 29) (fdd 29) ["sources", "contents"] (SpD K mg DP3 2 F_first_there) :=
  fn_D T.F_first_there sc_first_there rfl rfl fun cdv A outer s H E S' dk hr hgu => by
    have tk : Takes (cxOf (L2.CX P w) P w K mg base N_first_there "first_there" (defScope s_first_there) (ad 29) cdv A outer s H E) (fun cls d _ H => E cls d H) := takes_of rfl rfl rfl rfl
    have hpo : PassesOwn (model P w) (cxOf (L2.CX P w) P w K mg base N_first_there "first_there" (defScope s_first_there) (ad 29) cdv A outer s H E).A (cxOf (L2.CX P w) P w K mg base N_first_there "first_there" (defScope s_first_there) (ad 29) cdv A outer s H E).env (cxOf (L2.CX P w) P w K mg base N_first_there "first_there" (defScope s_first_there) (ad 29) cdv A outer s H E).xe := passes_of (X := cxOf (L2.CX P w) P w K mg base N_first_there "first_there" (defScope s_first_there) (ad 29) cdv A outer s H E) rfl
    exact (dss_cons (ds_for (vs := [2]) (ps_for hpo rfl (di_any rfl (de_var (pv 0))) (pg_name (i := 2) sc_first_there.nd rfl (by first | exact Or.inl rfl | exact Or.inr rfl))
    (dss_one (ds_if (PW.pt (dw_or (dt_cmp (op_eqAll hr.units) (d_eq _) (de_ix ix_seq (d_ix _) (de_var (pv 2)) (de_int pe_int) (fun _ _ => rfl)) (de_str pe_str) (nomark _)) (dw_or1 (dt_cmp (op_inAll (hu65d hr)) (d_inA _) (de_ix ix_seq (d_ix _) (de_var (pv 2)) (de_int pe_int) (fun _ _ => rfl)) (de_var (pv 1)) (by rfl)))))
    (dss_one (ds_ret (de_var (pv 2))))
    dss_nil))) (gd_name (by decide)))
    (dss_one (ds_ret (de_non pe_non))))
theorem ok_papers_of (T : Tx K mg ad fdd) (G_first_there : FnG P w K mg base (L2.CX P w) 1 (ad 29) (fdd 29) ["sources", "contents"] (SpD K mg DP3 2 F_first_there)) : FnG P w K mg base (L2.CX P w) 2 (ad 30) (fdd 30) ["lists", "contents"] (SpD K mg DP3 2 F_papers_of) :=
  fn_D T.F_papers_of sc_papers_of rfl rfl fun cdv A outer s H E S' dk hr hgu => by
    have tk : Takes (cxOf (L2.CX P w) P w K mg base N_papers_of "papers_of" (defScope s_papers_of) (ad 30) cdv A outer s H E) (fun cls d _ H => E cls d H) := takes_of rfl rfl rfl rfl
    have hpo : PassesOwn (model P w) (cxOf (L2.CX P w) P w K mg base N_papers_of "papers_of" (defScope s_papers_of) (ad 30) cdv A outer s H E).A (cxOf (L2.CX P w) P w K mg base N_papers_of "papers_of" (defScope s_papers_of) (ad 30) cdv A outer s H E).env (cxOf (L2.CX P w) P w K mg base N_papers_of "papers_of" (defScope s_papers_of) (ad 30) cdv A outer s H E).xe := passes_of (X := cxOf (L2.CX P w) P w K mg base N_papers_of "papers_of" (defScope s_papers_of) (ad 30) cdv A outer s H E) rfl
    exact (dss_one (ds_ret (de_callTy c_tupOf (d_tuple _) (by rfl) T.m_tuple (by decide +kernel) (da_cons (de_lst (dl_lc (vs := [2]) (pe_lc (own := [("sources", 2)]) rfl sc_papers_of.nd (di_any rfl (de_var (pv 0))) (blkOk_by (own := [("sources", 2)]) (N := N_papers_of) (sc := defScope s_papers_of) (by decide +kernel)) (fun _ _ _ _ _ => (pg_name (i := 2) sc_papers_of.nd rfl (by first | exact Or.inl rfl | exact Or.inr rfl))) (fun _ _ _ _ _ => dts_nil) (fun _ _ _ _ _ => (de_call G_first_there (hr.mono (by decide)) hgu (by rfl) T.g_first_there T.F_first_there.kp T.b_first_there takes0 (da_cons (de_var (pv 2)) (da_cons (de_var (pv 1)) da_nil))))) (gd_name (by decide)))) da_nil))))
theorem ok_papers_at (T : Tx K mg ad fdd) (G_need_work : FnG P w K mg base (L2.CX P w) 5 (ad 33) (fdd 33) ["size", "script", "path"] (SpD K mg DP3 3 F_need_work)) (G_need_contents : FnG P w K mg base (L2.CX P w) 4 (ad 17) (fdd 17) ["size", "thing"] (SpD K mg DP3 2 F_need_contents)) (G_papers_of : FnG P w K mg base (L2.CX P w) 2 (ad 30) (fdd 30) ["lists", "contents"] (SpD K mg DP3 2 F_papers_of)) (G_lists_through : FnG P w K mg base (L2.CX P w) 3 (ad 28) (fdd 28) ["size", "script", "path"] (SpD K mg DP3 3 F_lists_through)) : FnG P w K mg base (L2.CX P w) 6 (ad 24) (fdd 24) ["size", "script", "path", "contents"] (SpD K mg DP3 4 F_papers_at) :=
  fn_D T.F_papers_at sc_papers_at rfl rfl fun cdv A outer s H E S' dk hr hgu => by
    have tk : Takes (cxOf (L2.CX P w) P w K mg base N_papers_at "papers_at" (defScope s_papers_at) (ad 24) cdv A outer s H E) (fun cls d _ H => E cls d H) := takes_of rfl rfl rfl rfl
    have hpo : PassesOwn (model P w) (cxOf (L2.CX P w) P w K mg base N_papers_at "papers_at" (defScope s_papers_at) (ad 24) cdv A outer s H E).A (cxOf (L2.CX P w) P w K mg base N_papers_at "papers_at" (defScope s_papers_at) (ad 24) cdv A outer s H E).env (cxOf (L2.CX P w) P w K mg base N_papers_at "papers_at" (defScope s_papers_at) (ad 24) cdv A outer s H E).xe := passes_of (X := cxOf (L2.CX P w) P w K mg base N_papers_at "papers_at" (defScope s_papers_at) (ad 24) cdv A outer s H E) rfl
    exact (dss_cons (ds_expr (de_call G_need_work (hr.mono (by decide)) hgu (by rfl) T.g_need_work T.F_need_work.kp T.b_need_work tk (da_cons (de_var (pv 0)) (da_cons (de_var (pv 1)) (da_cons (de_var (pv 2)) da_nil)))))
    (dss_cons (ds_expr (de_call G_need_contents (hr.mono (by decide)) hgu (by rfl) T.g_need_contents T.F_need_contents.kp T.b_need_contents tk (da_cons (de_var (pv 0)) (da_cons (de_var (pv 3)) da_nil))))
    (dss_one (ds_ret (de_call G_papers_of (hr.mono (by decide)) hgu (by rfl) T.g_papers_of T.F_papers_of.kp T.b_papers_of tk (da_cons (de_ix ix_seq (d_ix _) (de_call G_lists_through (hr.mono (by decide)) hgu (by rfl) T.g_lists_through T.F_lists_through.kp T.b_lists_through tk (da_cons (de_var (pv 0)) (da_cons (de_var (pv 1)) (da_cons (de_var (pv 2)) da_nil)))) (de_un un_neg (d_neg _) (de_int pe_int)) (fun _ _ => rfl)) (da_cons (de_var (pv 3)) da_nil)))))))
theorem ok_law_size (T : Tx K mg ad fdd) (G_law_draw : FnG P w K mg base (L2.CX P w) 1 (ad 36) (fdd 36) ["_law_deck", "_law_many"] (SpD K mg DP3 2 F_law_draw)) : FnG P w K mg base (L2.CX P w) 2 (ad 37) (fdd 37) ["_law_deck"] (SpD K mg DP3 1 F_law_size) :=
  fn_D T.F_law_size sc_law_size rfl rfl fun cdv A outer s H E S' dk hr hgu => by
    have tk : Takes (cxOf (L2.CX P w) P w K mg base N_law_size "_law_size" (defScope s_law_size) (ad 37) cdv A outer s H E) (fun cls d _ H => E cls d H) := takes_of rfl rfl rfl rfl
    have hpo : PassesOwn (model P w) (cxOf (L2.CX P w) P w K mg base N_law_size "_law_size" (defScope s_law_size) (ad 37) cdv A outer s H E).A (cxOf (L2.CX P w) P w K mg base N_law_size "_law_size" (defScope s_law_size) (ad 37) cdv A outer s H E).env (cxOf (L2.CX P w) P w K mg base N_law_size "_law_size" (defScope s_law_size) (ad 37) cdv A outer s H E).xe := passes_of (X := cxOf (L2.CX P w) P w K mg base N_law_size "_law_size" (defScope s_law_size) (ad 37) cdv A outer s H E) rfl
    exact (dss_one (ds_ret (de_ix ix_seq (d_ix _) (de_lst (dl_lst (da_cons (de_op op_addAll (d_add _) (de_int pe_int) (de_call G_law_draw (hr.mono (by decide)) hgu (by rfl) T.g_law_draw T.F_law_draw.kp T.b_law_draw tk (da_cons (de_var (pv 0)) (da_cons (de_int pe_int) da_nil)))) (da_cons (de_op op_addAll (d_add _) (de_int pe_int) (de_call G_law_draw (hr.mono (by decide)) hgu (by rfl) T.g_law_draw T.F_law_draw.kp T.b_law_draw tk (da_cons (de_var (pv 0)) (da_cons (de_int pe_int) da_nil)))) da_nil)))) (de_callTy call_int1 (d_int _) (by rfl) T.m_int (by decide +kernel) (da_cons (de_cmp (op_eqAll hr.units) (d_eq _) (de_call G_law_draw (hr.mono (by decide)) hgu (by rfl) T.g_law_draw T.F_law_draw.kp T.b_law_draw tk (da_cons (de_var (pv 0)) (da_cons (de_int pe_int) da_nil))) (de_int pe_int) (nomark _)) da_nil)) (fun _ _ => rfl))))
theorem ok_law_script (T : Tx K mg ad fdd) (G_law_draw : FnG P w K mg base (L2.CX P w) 1 (ad 36) (fdd 36) ["_law_deck", "_law_many"] (SpD K mg DP3 2 F_law_draw)) : FnG P w K mg base (L2.CX P w) 2 (ad 38) (fdd 38) ["_law_deck", "_law_size_here", "_law_most", "_law_words"] (SpD K mg DP3 4 F_law_script) :=
  fn_D T.F_law_script sc_law_script rfl rfl fun cdv A outer s H E S' dk hr hgu => by
    have tk : Takes (cxOf (L2.CX P w) P w K mg base N_law_script "_law_script" (defScope s_law_script) (ad 38) cdv A outer s H E) (fun cls d _ H => E cls d H) := takes_of rfl rfl rfl rfl
    have hpo : PassesOwn (model P w) (cxOf (L2.CX P w) P w K mg base N_law_script "_law_script" (defScope s_law_script) (ad 38) cdv A outer s H E).A (cxOf (L2.CX P w) P w K mg base N_law_script "_law_script" (defScope s_law_script) (ad 38) cdv A outer s H E).env (cxOf (L2.CX P w) P w K mg base N_law_script "_law_script" (defScope s_law_script) (ad 38) cdv A outer s H E).xe := passes_of (X := cxOf (L2.CX P w) P w K mg base N_law_script "_law_script" (defScope s_law_script) (ad 38) cdv A outer s H E) rfl
    exact (dss_cons (ds_set (ps_set (i := 2) sc_law_script.nd rfl (by first | exact Or.inl rfl | exact Or.inr rfl) (de_ix ix_seq (d_ix _) (de_lst (dl_lst (da_cons (de_var (pv 2)) (da_cons (de_callB (call_min2 rfl) (d_min _) (by rfl) T.m_min (by decide +kernel) (da_cons (de_int pe_int) (da_cons (de_op op_mulAll (d_mulA _) (de_int pe_int) (de_var (pv 2))) da_nil))) da_nil)))) (de_callTy call_int1 (d_int _) (by rfl) T.m_int (by decide +kernel) (da_cons (de_cmp (op_eqAll hr.units) (d_eq _) (de_call G_law_draw (hr.mono (by decide)) hgu (by rfl) T.g_law_draw T.F_law_draw.kp T.b_law_draw tk (da_cons (de_var (pv 0)) (da_cons (de_int pe_int) da_nil))) (de_int pe_int) (nomark _)) da_nil)) (fun _ _ => rfl))))
    (dss_cons (ds_setO (ps_set (i := 4) sc_law_script.nd rfl (by first | exact Or.inl rfl | exact Or.inr rfl) (dl_lst da_nil)))
    (dss_cons (ds_for (vs := [5]) (ps_for hpo rfl (di_rng1 (n := "") (pi_range1 (by rfl) T.m_range (da_cons (de_call G_law_draw (hr.mono (by decide)) hgu (by rfl) T.g_law_draw T.F_law_draw.kp T.b_law_draw tk (da_cons (de_var (pv 0)) (da_cons (de_op op_addAll (d_add _) (de_var (pv 2)) (de_int pe_int)) da_nil))) da_nil)) (len_cons len_nil)) (pg_name (i := 5) sc_law_script.nd rfl (by first | exact Or.inl rfl | exact Or.inr rfl))
    (dss_cons (ds_set (ps_set (i := 6) sc_law_script.nd rfl (by first | exact Or.inl rfl | exact Or.inr rfl) (de_ix ix_seq (d_ix _) (de_var (pv 3)) (de_call G_law_draw (hr.mono (by decide)) hgu (by rfl) T.g_law_draw T.F_law_draw.kp T.b_law_draw tk (da_cons (de_var (pv 0)) (da_cons (de_callB c_lenV (d_len _) (by rfl) T.m_len (by decide +kernel) (da_cons (de_var (pv 3)) da_nil)) da_nil))) (fun _ _ => rfl))))
    (dss_cons (ds_set (ps_set (i := 7) sc_law_script.nd rfl (by first | exact Or.inl rfl | exact Or.inr rfl) (de_call G_law_draw (hr.mono (by decide)) hgu (by rfl) T.g_law_draw T.F_law_draw.kp T.b_law_draw tk (da_cons (de_var (pv 0)) (da_cons (de_var (pv 1)) da_nil)))))
    (dss_one (ds_if (PW.pt (dw_or (dt_cmp (op_inAll (hu65d hr)) (d_inA _) (de_var (pv 6)) (de_lst (dl_lst (da_cons (de_str pe_str) (da_cons (de_str pe_str) da_nil)))) (by rfl)) (dw_or1 (dt_cmp (op_eqAll hr.units) (d_eq _) (de_var (pv 1)) (de_int pe_int) (nomark _)))))
    (dss_cons (ds_set (ps_set (i := 8) sc_law_script.nd rfl (by first | exact Or.inl rfl | exact Or.inr rfl) (de_ix ix_seq (d_ix _) (de_lst (dl_lst (da_cons (de_int pe_int) (da_cons (de_int pe_int) (da_cons (de_int pe_int) (da_cons (de_int pe_int) (da_cons (de_int pe_int) (da_cons (de_int pe_int) da_nil)))))))) (de_call G_law_draw (hr.mono (by decide)) hgu (by rfl) T.g_law_draw T.F_law_draw.kp T.b_law_draw tk (da_cons (de_var (pv 0)) (da_cons (de_int pe_int) da_nil))) (fun _ _ => rfl))))
    (dss_one (ds_app (ps_expr (pe_bm PySem.F.plainAttrs_list PySem.F.slot_list_append PySem.F.type_list_append mt_append (pv 4) (pa_cons (de_tup (da_cons (de_ix ix_seq (d_ix _) (de_lst (dl_lst (da_cons (de_str pe_str) (da_cons (de_var (pv 6)) da_nil)))) (de_callTy call_int1 (d_int _) (by rfl) T.m_int (by decide +kernel) (da_cons (de_cmp (op_inAll (hu65d hr)) (d_inA _) (de_var (pv 6)) (de_lst (dl_lst (da_cons (de_str pe_str) (da_cons (de_str pe_str) da_nil)))) (by rfl)) da_nil)) (fun _ _ => rfl)) (da_cons (de_var (pv 7)) (da_cons (de_var (pv 8)) da_nil)))) pa_nil))))))
    (dss_one (ds_app (ps_expr (pe_bm PySem.F.plainAttrs_list PySem.F.slot_list_append PySem.F.type_list_append mt_append (pv 4) (pa_cons (de_tup (da_cons (de_var (pv 6)) (da_cons (de_var (pv 7)) (da_cons (de_op op_mod (d_mod _) (de_callTy call_int1 (d_int _) (by rfl) T.m_int (by decide +kernel) (da_cons (de_op op_addAll (d_add _) (de_op op_addAll (d_add _) (de_var (pv 7)) (de_int pe_int)) (de_call G_law_draw (hr.mono (by decide)) hgu (by rfl) T.g_law_draw T.F_law_draw.kp T.b_law_draw tk (da_cons (de_var (pv 0)) (da_cons (de_op op_sub (d_sub _) (de_var (pv 1)) (de_int pe_int)) da_nil)))) da_nil)) (de_var (pv 1))) da_nil)))) pa_nil)))))))))) (gd_name (by decide)))
    (dss_one (ds_ret (de_ownTup rfl (pe_callTy c_tupOf (by rfl) T.m_tuple (by decide +kernel) (pa_cons (pv 4) pa_nil))))))))
theorem ok_law_papers (T : Tx K mg ad fdd) : FnG P w K mg base (L2.CX P w) 1 (ad 39) (fdd 39) ["_law_size_here", "_law_script_here", "_law_path", "_law_contents_here"] (SpD K mg DP3 4 F_law_papers) :=
  fn_D T.F_law_papers sc_law_papers rfl rfl fun cdv A outer s H E S' dk hr hgu => by
    have tk : Takes (cxOf (L2.CX P w) P w K mg base N_law_papers "_law_papers" (defScope s_law_papers) (ad 39) cdv A outer s H E) (fun cls d _ H => E cls d H) := takes_of rfl rfl rfl rfl
    have hpo : PassesOwn (model P w) (cxOf (L2.CX P w) P w K mg base N_law_papers "_law_papers" (defScope s_law_papers) (ad 39) cdv A outer s H E).A (cxOf (L2.CX P w) P w K mg base N_law_papers "_law_papers" (defScope s_law_papers) (ad 39) cdv A outer s H E).env (cxOf (L2.CX P w) P w K mg base N_law_papers "_law_papers" (defScope s_law_papers) (ad 39) cdv A outer s H E).xe := passes_of (X := cxOf (L2.CX P w) P w K mg base N_law_papers "_law_papers" (defScope s_law_papers) (ad 39) cdv A outer s H E) rfl
    exact (dss_cons (ds_setO (dsl_lc (vs := [8]) (ps_setLc (i := 4) (own := [("_law_folder", 8)]) rfl sc_law_papers.nd rfl rfl (sw_true rfl rfl rfl (by decide +kernel)) (di_rng1 (n := "") (pi_range1 (by rfl) T.m_range (da_cons (de_var (pv 0)) da_nil)) (len_cons len_nil)) (blkOk_by (own := [("_law_folder", 8)]) (N := N_law_papers) (sc := defScope s_law_papers) (by decide +kernel)) (fun _ _ _ _ _ => (pg_name (i := 8) sc_law_papers.nd rfl (by first | exact Or.inl rfl | exact Or.inr rfl))) (fun _ _ _ _ _ => dts_nil) (fun _ _ _ _ _ => (de_ix ix_seq (d_ix _) (de_lst (dl_lst (da_cons (de_non pe_non) (da_cons (de_tup (da_cons (de_str pe_str) (da_cons (de_var (pv 8)) da_nil))) da_nil)))) (de_callTy call_int1 (d_int _) (by rfl) T.m_int (by decide +kernel) (da_cons (de_cmp (op_inAll (hu65d hr)) (d_inA _) (de_var (pv 8)) (de_var (pv 3)) (by rfl)) da_nil)) (fun _ _ => rfl)))) (gd_name (by decide))))
    (dss_cons (ds_setO (ps_set (i := 5) sc_law_papers.nd rfl (by first | exact Or.inl rfl | exact Or.inr rfl) (dl_lst (da_cons (de_ownTup rfl (pe_callTy c_tupOf (by rfl) T.m_tuple (by decide +kernel) (pa_cons (pv 4) pa_nil))) da_nil))))
    (dss_cons (ds_for (vs := [6]) (ps_for hpo rfl (di_rng1 (n := "") (pi_range1 (by rfl) T.m_range (da_cons (de_callB c_lenV (d_len _) (by rfl) T.m_len (by decide +kernel) (da_cons (de_var (pv 1)) da_nil)) da_nil)) (len_cons len_nil)) (pg_name (i := 6) sc_law_papers.nd rfl (by first | exact Or.inl rfl | exact Or.inr rfl))
    (dss_cons (ds_asg (vs := [7, 8, 9]) (gd_tup (n := 3) (gd_cons (gd_name (by decide)) (gd_cons (gd_name (by decide)) (gd_cons (gd_name (by decide)) gd_nil))) rfl) (ps_asg (de_ix ix_seq (d_ix _) (de_var (pv 1)) (de_var (pv 6)) (fun _ _ => rfl)) (pg_tup rfl (pgs_cons (pg_name (i := 7) sc_law_papers.nd rfl (by first | exact Or.inl rfl | exact Or.inr rfl)) (pgs_cons (pg_name (i := 8) sc_law_papers.nd rfl (by first | exact Or.inl rfl | exact Or.inr rfl)) (pgs_cons (pg_name (i := 9) sc_law_papers.nd rfl (by first | exact Or.inl rfl | exact Or.inr rfl)) pgs_nil))))))
    (dss_cons (ds_if (PW.pt (dw_and (dt_cmp (op_eqAll hr.units) (d_eq _) (de_var (pv 7)) (de_str pe_str) (nomark _)) (dw_and1 (dt_cmp op_isNotAll (d_isNot _) (de_ownIx rfl (pe_ix ix_seq (pv 4) (de_var (pv 8)) (fun _ _ => rfl))) (de_non pe_non) (nomark _)))))
    (dss_one (ds_put (ps_asg (de_ownIx rfl (pe_ix ix_seq (pv 4) (de_var (pv 8)) (fun _ _ => rfl))) (pg_sub (pv 4) (de_var (pv 9)) set_list))))
    dss_nil)
    (dss_cons (ds_if (PW.pt (dw_and (dt_cmp (op_eqAll hr.units) (d_eq _) (de_var (pv 7)) (de_str pe_str) (nomark _)) (dw_and1 (dt_cmp op_isAll (d_is _) (de_ownIx rfl (pe_ix ix_seq (pv 4) (de_var (pv 9)) (fun _ _ => rfl))) (de_non pe_non) (nomark _)))))
    (dss_one (ds_put (ps_asg (de_ownIx rfl (pe_ix ix_seq (pv 4) (de_var (pv 8)) (fun _ _ => rfl))) (pg_sub (pv 4) (de_var (pv 9)) set_list))))
    dss_nil)
    (dss_cons (ds_if (PW.pt (dw_and (dt_cmp (op_eqAll hr.units) (d_eq _) (de_var (pv 7)) (de_str pe_str) (nomark _)) (dw_and1 (dt_cmp (op_eqAll hr.units) (d_eq _) (de_var (pv 9)) (de_var (pv 2)) (nomark _)))))
    (dss_one (ds_put (ps_asg (de_tup (da_cons (de_str pe_str) (da_cons (de_var (pv 6)) da_nil))) (pg_sub (pv 4) (de_var (pv 8)) set_list))))
    dss_nil)
    (dss_cons (ds_if (PW.pt (dw_and (dt_cmp (op_eqAll hr.units) (d_eq _) (de_var (pv 7)) (de_str pe_str) (nomark _)) (dw_and1 (dt_cmp (op_eqAll hr.units) (d_eq _) (de_var (pv 9)) (de_var (pv 2)) (nomark _)))))
    (dss_one (ds_put (ps_asg (de_non pe_non) (pg_sub (pv 4) (de_var (pv 8)) set_list))))
    dss_nil)
    (dss_one (ds_app (ps_expr (pe_bm PySem.F.plainAttrs_list PySem.F.slot_list_append PySem.F.type_list_append mt_append (pv 5) (pa_cons (de_ownTup rfl (pe_callTy c_tupOf (by rfl) T.m_tuple (by decide +kernel) (pa_cons (pv 4) pa_nil))) pa_nil))))))))))) (gd_name (by decide)))
    (dss_one (ds_retO (pv 5))))))
theorem ok_law_contents (T : Tx K mg ad fdd) : FnG P w K mg base (L2.CX P w) 1 (ad 40) (fdd 40) ["_law_size_here"] (SpD K mg DP3 1 F_law_contents) :=
  fn_D T.F_law_contents sc_law_contents rfl rfl fun cdv A outer s H E S' dk hr hgu => by
    have tk : Takes (cxOf (L2.CX P w) P w K mg base N_law_contents "_law_contents" (defScope s_law_contents) (ad 40) cdv A outer s H E) (fun cls d _ H => E cls d H) := takes_of rfl rfl rfl rfl
    have hpo : PassesOwn (model P w) (cxOf (L2.CX P w) P w K mg base N_law_contents "_law_contents" (defScope s_law_contents) (ad 40) cdv A outer s H E).A (cxOf (L2.CX P w) P w K mg base N_law_contents "_law_contents" (defScope s_law_contents) (ad 40) cdv A outer s H E).env (cxOf (L2.CX P w) P w K mg base N_law_contents "_law_contents" (defScope s_law_contents) (ad 40) cdv A outer s H E).xe := passes_of (X := cxOf (L2.CX P w) P w K mg base N_law_contents "_law_contents" (defScope s_law_contents) (ad 40) cdv A outer s H E) rfl
    exact (dss_cons (ds_set (ps_set (i := 1) sc_law_contents.nd rfl (by first | exact Or.inl rfl | exact Or.inr rfl) (de_lst (dl_lst (da_cons (de_tup da_nil) da_nil)))))
    (dss_cons (ds_for (vs := [2]) (ps_for hpo rfl (di_rng1 (n := "") (pi_range1 (by rfl) T.m_range (da_cons (de_var (pv 0)) da_nil)) (len_cons len_nil)) (pg_name (i := 2) sc_law_contents.nd rfl (by first | exact Or.inl rfl | exact Or.inr rfl))
    (dss_one (ds_set (ps_set (i := 1) sc_law_contents.nd rfl (by first | exact Or.inl rfl | exact Or.inr rfl) (de_op op_addAll (d_add _) (de_var (pv 1)) (de_lst (dl_lc (vs := [3]) (pe_lc (own := [("_law_contents_here", 3)]) rfl sc_law_contents.nd (di_any rfl (de_var (pv 1))) (blkOk_by (own := [("_law_contents_here", 3)]) (N := N_law_contents) (sc := defScope s_law_contents) (by decide +kernel)) (fun _ _ _ _ _ => (pg_name (i := 3) sc_law_contents.nd rfl (by first | exact Or.inl rfl | exact Or.inr rfl))) (fun _ _ _ _ _ => dts_nil) (fun _ _ _ _ _ => (de_op op_addAll (d_add _) (de_var (pv 3)) (de_tup (da_cons (de_var (pv 2)) da_nil))))) (gd_name (by decide))))))))) (gd_name (by decide)))
    (dss_one (ds_ret (de_var (pv 1))))))
theorem ok_law_first (T : Tx K mg ad fdd) : FnG P w K mg base (L2.CX P w) 1 (ad 41) (fdd 41) ["_law_row", "_law_contents_here"] (SpD K mg DP3 2 F_law_first) :=
  fn_D T.F_law_first sc_law_first rfl rfl fun cdv A outer s H E S' dk hr hgu => by
    have tk : Takes (cxOf (L2.CX P w) P w K mg base N_law_first "_law_first" (defScope s_law_first) (ad 41) cdv A outer s H E) (fun cls d _ H => E cls d H) := takes_of rfl rfl rfl rfl
    have hpo : PassesOwn (model P w) (cxOf (L2.CX P w) P w K mg base N_law_first "_law_first" (defScope s_law_first) (ad 41) cdv A outer s H E).A (cxOf (L2.CX P w) P w K mg base N_law_first "_law_first" (defScope s_law_first) (ad 41) cdv A outer s H E).env (cxOf (L2.CX P w) P w K mg base N_law_first "_law_first" (defScope s_law_first) (ad 41) cdv A outer s H E).xe := passes_of (X := cxOf (L2.CX P w) P w K mg base N_law_first "_law_first" (defScope s_law_first) (ad 41) cdv A outer s H E) rfl
    exact (dss_cons (ds_for (vs := [2]) (ps_for hpo rfl (di_any rfl (de_var (pv 0))) (pg_name (i := 2) sc_law_first.nd rfl (by first | exact Or.inl rfl | exact Or.inr rfl))
    (dss_one (ds_if (PW.pt (dw_or (dt_cmp (op_eqAll hr.units) (d_eq _) (de_ix ix_seq (d_ix _) (de_var (pv 2)) (de_int pe_int) (fun _ _ => rfl)) (de_str pe_str) (nomark _)) (dw_or1 (dt_cmp (op_inAll (hu65d hr)) (d_inA _) (de_ix ix_seq (d_ix _) (de_var (pv 2)) (de_int pe_int) (fun _ _ => rfl)) (de_var (pv 1)) (by rfl)))))
    (dss_one (ds_ret (de_var (pv 2))))
    dss_nil))) (gd_name (by decide)))
    (dss_one (ds_ret (de_non pe_non))))
theorem ok_law (T : Tx K mg ad fdd) (G_law_open : FnG P w K mg base (L2.CX P w) 1 (ad 35) (fdd 35) ["_law_script_here", "_law_k"] (SpD K mg DP3 2 F_law_open)) (G_law_size : FnG P w K mg base (L2.CX P w) 2 (ad 37) (fdd 37) ["_law_deck"] (SpD K mg DP3 1 F_law_size)) (G_law_script : FnG P w K mg base (L2.CX P w) 2 (ad 38) (fdd 38) ["_law_deck", "_law_size_here", "_law_most", "_law_words"] (SpD K mg DP3 4 F_law_script)) (G_law_draw : FnG P w K mg base (L2.CX P w) 1 (ad 36) (fdd 36) ["_law_deck", "_law_many"] (SpD K mg DP3 2 F_law_draw)) (G_lists_of : FnG P w K mg base (L2.CX P w) 6 (ad 23) (fdd 23) ["size", "script", "path"] (SpD K mg DP3 3 F_lists_of)) (G_law_contents : FnG P w K mg base (L2.CX P w) 1 (ad 40) (fdd 40) ["_law_size_here"] (SpD K mg DP3 1 F_law_contents)) (G_papers_at : FnG P w K mg base (L2.CX P w) 6 (ad 24) (fdd 24) ["size", "script", "path", "contents"] (SpD K mg DP3 4 F_papers_at)) (G_law_papers : FnG P w K mg base (L2.CX P w) 1 (ad 39) (fdd 39) ["_law_size_here", "_law_script_here", "_law_path", "_law_contents_here"] (SpD K mg DP3 4 F_law_papers)) (G_law_first : FnG P w K mg base (L2.CX P w) 1 (ad 41) (fdd 41) ["_law_row", "_law_contents_here"] (SpD K mg DP3 2 F_law_first)) : FnG P w K mg base (L2.CX P w) 7 (ad 42) (fdd 42) ["_law_script_here"] (SpD K mg DP3 1 F_law) :=
  fn_D T.F_law sc_law rfl rfl fun cdv A outer s H E S' dk hr hgu => by
    have tk : Takes (cxOf (L2.CX P w) P w K mg base N_law "law" (defScope s_law) (ad 42) cdv A outer s H E) (fun cls d _ H => E cls d H) := takes_of rfl rfl rfl rfl
    have hpo : PassesOwn (model P w) (cxOf (L2.CX P w) P w K mg base N_law "law" (defScope s_law) (ad 42) cdv A outer s H E).A (cxOf (L2.CX P w) P w K mg base N_law "law" (defScope s_law) (ad 42) cdv A outer s H E).env (cxOf (L2.CX P w) P w K mg base N_law "law" (defScope s_law) (ad 42) cdv A outer s H E).xe := passes_of (X := cxOf (L2.CX P w) P w K mg base N_law "law" (defScope s_law) (ad 42) cdv A outer s H E) rfl
    exact (dss_cons (ds_for (vs := [1]) (ps_for hpo rfl (di_rng1 (n := "") (pi_range1 (by rfl) T.m_range (da_cons (de_callB (call_max2 rfl) (d_max _) (by rfl) T.m_max (by decide +kernel) (da_cons (de_int pe_int) (da_cons (de_callB (call_min2 rfl) (d_min _) (by rfl) T.m_min (by decide +kernel) (da_cons (de_int pe_int) (da_cons (de_callB c_lenV (d_len _) (by rfl) T.m_len (by decide +kernel) (da_cons (de_var (pv 0)) da_nil)) da_nil))) da_nil))) da_nil)) (len_cons len_nil)) (pg_name (i := 1) sc_law.nd rfl (by first | exact Or.inl rfl | exact Or.inr rfl))
    (dss_cons (ds_set (ps_set (i := 2) sc_law.nd rfl (by first | exact Or.inl rfl | exact Or.inr rfl) (de_call G_law_open (hr.mono (by decide)) hgu (by rfl) T.g_law_open T.F_law_open.kp T.b_law_open tk (da_cons (de_var (pv 0)) (da_cons (de_var (pv 1)) da_nil)))))
    (dss_cons (ds_set (ps_set (i := 3) sc_law.nd rfl (by first | exact Or.inl rfl | exact Or.inr rfl) (de_call G_law_size (hr.mono (by decide)) hgu (by rfl) T.g_law_size T.F_law_size.kp T.b_law_size tk (da_cons (de_var (pv 2)) da_nil))))
    (dss_cons (ds_set (ps_set (i := 4) sc_law.nd rfl (by first | exact Or.inl rfl | exact Or.inr rfl) (de_call G_law_script (hr.mono (by decide)) hgu (by rfl) T.g_law_script T.F_law_script.kp T.b_law_script tk (da_cons (de_var (pv 2)) (da_cons (de_var (pv 3)) (da_cons (de_int pe_int) (da_cons (de_lst (dl_lst (da_cons (de_str pe_str) (da_cons (de_str pe_str) (da_cons (de_str pe_str) (da_cons (de_str pe_str) (da_cons (de_str pe_str) (da_cons (de_str pe_str) da_nil)))))))) da_nil)))))))
    (dss_cons (ds_set (ps_set (i := 5) sc_law.nd rfl (by first | exact Or.inl rfl | exact Or.inr rfl) (de_call G_law_draw (hr.mono (by decide)) hgu (by rfl) T.g_law_draw T.F_law_draw.kp T.b_law_draw tk (da_cons (de_var (pv 2)) (da_cons (de_int pe_int) da_nil)))))
    (dss_cons (ds_set (ps_set (i := 6) sc_law.nd rfl (by first | exact Or.inl rfl | exact Or.inr rfl) (de_call G_lists_of (hr.mono (by decide)) hgu (by rfl) T.g_lists_of T.F_lists_of.kp T.b_lists_of tk (da_cons (de_var (pv 3)) (da_cons (de_var (pv 4)) (da_cons (de_var (pv 5)) da_nil))))))
    (dss_cons (ds_set (ps_set (i := 7) sc_law.nd rfl (by first | exact Or.inl rfl | exact Or.inr rfl) (de_callB (c_repr hgu hr.units) (d_repr _) (by rfl) T.m_repr (by decide +kernel) (da_cons (de_var (pv 4)) da_nil))))
    (dss_cons (ds_for (vs := [8]) (ps_for hpo rfl (di_any rfl (de_call G_law_contents (hr.mono (by decide)) hgu (by rfl) T.g_law_contents T.F_law_contents.kp T.b_law_contents tk (da_cons (de_var (pv 3)) da_nil))) (pg_name (i := 8) sc_law.nd rfl (by first | exact Or.inl rfl | exact Or.inr rfl))
    (dss_cons (ds_set (ps_set (i := 9) sc_law.nd rfl (by first | exact Or.inl rfl | exact Or.inr rfl) (de_ix ix_seq (d_ix _) (de_call G_law_papers (hr.mono (by decide)) hgu (by rfl) T.g_law_papers T.F_law_papers.kp T.b_law_papers tk (da_cons (de_var (pv 3)) (da_cons (de_var (pv 4)) (da_cons (de_var (pv 5)) (da_cons (de_var (pv 8)) da_nil))))) (de_un un_neg (d_neg _) (de_int pe_int)) (fun _ _ => rfl))))
    (dss_cons (ds_set (ps_set (i := 10) sc_law.nd rfl (by first | exact Or.inl rfl | exact Or.inr rfl) (de_call G_papers_at (hr.mono (by decide)) hgu (by rfl) T.g_papers_at T.F_papers_at.kp T.b_papers_at tk (da_cons (de_var (pv 3)) (da_cons (de_var (pv 4)) (da_cons (de_var (pv 5)) (da_cons (de_var (pv 8)) da_nil)))))))
    (dss_cons (ds_if (PW.pt (dw_or (dt_not (dt_tru rfl (de_isi (T := "tuple") rfl (pe_callB c_isi1 (by rfl) T.m_isinstance (by decide +kernel) (pa_cons (de_var (pv 10)) (pa_cons (pe_bltn (v := .ty "tuple") rfl T.m_tuple (by decide +kernel) rfl) pa_nil)))))) (dw_or1 (dt_cmp (op_neAll hr.units) (d_ne _) (de_var (pv 10)) (de_var (pv 9)) (nomark _)))))
    (dss_one (ds_ret (de_bl pe_bl)))
    dss_nil)
    (dss_one (ds_if (dt_cmp (op_neAll hr.units) (d_ne _) (de_var (pv 10)) (de_callTy c_tupOf (d_tuple _) (by rfl) T.m_tuple (by decide +kernel) (da_cons (de_lst (dl_lc (vs := [11]) (pe_lc (own := [("_law_row", 11)]) rfl sc_law.nd (di_any rfl (de_var (pv 6))) (blkOk_by (own := [("_law_row", 11)]) (N := N_law) (sc := defScope s_law) (by decide +kernel)) (fun _ _ _ _ _ => (pg_name (i := 11) sc_law.nd rfl (by first | exact Or.inl rfl | exact Or.inr rfl))) (fun _ _ _ _ _ => dts_nil) (fun _ _ _ _ _ => (de_call G_law_first (hr.mono (by decide)) hgu (by rfl) T.g_law_first T.F_law_first.kp T.b_law_first takes0 (da_cons (de_var (pv 11)) (da_cons (de_var (pv 8)) da_nil))))) (gd_name (by decide)))) da_nil)) (nomark _))
    (dss_one (ds_ret (de_bl pe_bl)))
    dss_nil)))))) (gd_name (by decide)))
    (dss_cons (ds_if (dt_cmp (op_neAll hr.units) (d_ne _) (de_callK0 (perm := [(false, 0), (false, 1), (false, 2), (false, 3)]) G_papers_at (hr.mono (by decide)) hgu (by rfl) T.g_papers_at T.F_papers_at.kp T.kb_papers_at_0_size_script_path_contents tk (dk_cons (de_var (pv 3)) (dk_cons (de_var (pv 4)) (dk_cons (de_var (pv 5)) (dk_cons (de_tup (da_cons (de_int pe_int) da_nil)) dk_nil))))) (de_call G_papers_at (hr.mono (by decide)) hgu (by rfl) T.g_papers_at T.F_papers_at.kp T.b_papers_at tk (da_cons (de_var (pv 3)) (da_cons (de_var (pv 4)) (da_cons (de_var (pv 5)) (da_cons (de_tup (da_cons (de_int pe_int) da_nil)) da_nil))))) (nomark _))
    (dss_one (ds_ret (de_bl pe_bl)))
    dss_nil)
    (dss_one (ds_if (dt_cmp (op_neAll hr.units) (d_ne _) (de_callB (c_repr hgu hr.units) (d_repr _) (by rfl) T.m_repr (by decide +kernel) (da_cons (de_var (pv 4)) da_nil)) (de_var (pv 7)) (nomark _))
    (dss_one (ds_ret (de_bl pe_bl)))
    dss_nil))))))))))) (gd_name (by decide)))
    (dss_one (ds_ret (de_bl pe_bl))))
end
end DL
namespace J
open PySem PySem.Spec PyProof.Rows L2
local macro_rules | `(tactic| walk_at "go1") => `(tactic| first
  | with_reducible refine' w_seq ?_
  | with_reducible refine' w_next ?_
  | with_reducible refine' w_brk ?_
  | with_reducible refine' w_cont ?_
  | with_reducible refine' w_asg ?_
  | with_reducible refine' w_asgG ?_
  | with_reducible refine' w_gSub ?_
  | with_reducible refine' w_ret ?_
  | with_reducible refine' w_retN ?_
  | with_reducible refine' w_drop ?_
  | with_reducible refine' w_ifS ?_
  | ((with_reducible refine' w_isAug ?_); refine w_aug rfl ?_)
  | with_reducible refine' w_ipadd ?_
  | with_reducible refine' w_ipsub ?_
  | ((with_reducible refine' w_isVar ?_); refine w_var rfl ?_)
  | with_reducible refine' w_c ?_
  | with_reducible refine' w_nil ?_
  | with_reducible refine' w_cons ?_
  | with_reducible refine' w_op ?_
  | with_reducible refine' w_un ?_
  | with_reducible refine' w_cb ?_
  | with_reducible refine' w_call ?_
  | with_reducible refine' w_callK ?_
  | with_reducible refine' w_test ?_
  | with_reducible refine' w_tB ?_
  | with_reducible refine' w_and ?_
  | with_reducible refine' w_or ?_
  | with_reducible refine' w_not ?_
  | with_reducible refine' w_andV ?_
  | with_reducible refine' w_orV ?_
  | with_reducible refine' w_notV ?_
  | with_reducible refine' w_if ?_
  | with_reducible refine' w_chain ?_
  | with_reducible refine' w_exb ?_
  | with_reducible refine' w_add ?_
  | with_reducible refine' w_sub ?_
  | with_reducible refine' w_lt ?_
  | with_reducible refine' w_le ?_
  | with_reducible refine' w_gt ?_
  | with_reducible refine' w_ge ?_
  | ((with_reducible refine' w_mod ?h ?q); (case h => first | decide | omega))
  | ((with_reducible refine' w_fdiv ?h ?h2 ?q); (case h => first | decide | omega); (case h2 => first | decide | omega))
  | ((with_reducible refine' w_mulR ?h ?q); (case h => omega))
  | ((with_reducible refine' w_mulL ?h ?q); (case h => omega))
  | with_reducible refine' w_pow_6 ?_
  | with_reducible refine' w_pow_9 ?_
  | with_reducible refine' w_pow_12 ?_
  | with_reducible refine' w_pow_14 ?_
  | with_reducible refine' w_pow_15 ?_
  | with_reducible refine' w_pow_18 ?_
  | with_reducible refine' w_neg ?_
  | ((with_reducible refine' w_eq ?h ?q); (case h => exact rfl))
  | ((with_reducible refine' w_ne ?h ?q); (case h => exact rfl))
  | with_reducible refine' w_abs ?_
  | with_reducible refine' w_int ?_
  | with_reducible refine' w_max ?_
  | with_reducible refine' w_min ?_
  | with_reducible refine' w_count ?_
  | with_reducible refine' w_m1 ?_
  | with_reducible refine' w_bm ?_
  | with_reducible refine' w_listR3 ?_
  | with_reducible refine' w_exs ?_
  | with_reducible refine' w_inS ?_
  | with_reducible refine' w_notInS ?_
  | with_reducible refine' w_for ?_
  | with_reducible refine' w_while ?_
  | with_reducible refine' w_lc ?_
  | with_reducible refine' w_iTup ?_
  | with_reducible refine' w_iList ?_
  | with_reducible refine' w_iRng1 ?_
  | with_reducible refine' w_iRng2 ?_
  | with_reducible refine' w_gName ?_
  | with_reducible refine' w_tYes ?_
  | with_reducible refine' w_tupD ?_
  | with_reducible refine' w_tupF ?_
  | with_reducible refine' w_ltS ?_
  | with_reducible refine' w_leS ?_
  | with_reducible refine' w_dget ?_
  | with_reducible refine' w_dnotin ?_
  | with_reducible refine' w_sl ?_
  | with_reducible refine' w_part ?_
  | with_reducible refine' w_noPart ?_
  | with_reducible refine' w_some ?_
  | with_reducible refine' w_lstD ?_
  )
local macro_rules | `(tactic| walk_at "go") => `(tactic| repeat (walk_at "go1"))
section
variable {H : Hp} {Q : VK} {b : Bool}
theorem w_intB (q : Q (.int (if b then 1 else 0)) H) : rInt [.bl b] H Q := .inr ⟨b, rfl, q⟩
theorem w_powK {i j v : Int} (h : CPow i j) (e : i ^ j.toNat = v) (q : Q (.int v) H) : rI CPow (fun i j => .int (i ^ j.toNat)) (.int i) (.int j) H Q := ⟨i, j, rfl, rfl, h, by show Q (.int (i ^ j.toNat)) H; rw [e]; exact q⟩
end
local macro_rules | `(tactic| walk_at "go2") => `(tactic| first
  | walk_at "go1"
  | with_reducible refine' w_intB ?_
  | refine w_powK (v := 1000000000000000000000000000000000000000) ⟨by decide, by decide, by decide⟩ (by decide +kernel) ?_)
local macro_rules | `(tactic| walk_at "goy") => `(tactic| repeat (first
  | walk_at "go2"
  | refine w_ixL (sq_of upd_same) rfl ?_
  | refine w_ixL (sq_of (by assumption)) rfl ?_
  | refine w_setL upd_same rfl ?_
  | refine w_setL (by assumption) rfl ?_))
local macro_rules | `(tactic| walk_at "gox") => `(tactic| repeat (walk_at "go2"))
theorem handAt {ns : List Int} {i : Int} (h0 : 0 ≤ i) (h1 : i < ns.length) : ∃ v : Int, atI (ns.map V.int) i = some (.int v) := by
  have h2 : i.toNat < ns.length := by omega
  refine ⟨ns[i.toNat], ?_⟩
  unfold atI ixN
  rw [if_pos h0, if_pos (by rw [List.length_map]; exact h1)]
  show (ns.map V.int)[i.toNat]? = _
  rw [List.getElem?_map, List.getElem?_eq_getElem h2]; rfl
section
variable {P : Program} {w : World} {K : PySem.W.Frag} {mg : Str → Option Value} {base : Heap} {ad : Nat → Addr} {fdd : Nat → FuncData}
theorem ok_law_open (T : DL.Tx K mg ad fdd) : FnOk P w K mg base (L2.CX P w) 1 (ad 35) (fdd 35) ["_law_script_here", "_law_k"] (DL.SpD K mg DL.DP3 2 DL.F_open) := by
  refine T.F_law_open.okX DL.sc_law_open (fun vs H Q E h => h.1) (fun cdv A outer s H vs Q E hr h => ?_)
  obtain ⟨hl, S, dk, ds, fu, k0, r, q⟩ := h
  unfold DL.F_open at q
  split at q
  rotate_left
  · exact q.elim
  rename_i x kk
  cases r with
  | cons r1 r2 =>
  cases r2 with
  | cons r2 r3 =>
  cases r3
  obtain ⟨ns, a, rfl, rfl, hs, q⟩ := DL.scrGo_wp (c := ⟨K, mg, DL.DP3, S, dk, H⟩) (w := ⟨[], [], H, fu⟩) r1 q
  obtain rfl := r2.isInt
  obtain ⟨hn, q⟩ := DL.wp_guard.mp q
  obtain ⟨hn0, hn1⟩ := of_decide_eq_true hn
  have fin : ∀ (x s : Int) (p : Addr), H p = none → 0 ≤ x → 0 ≤ s → s < 2 ^ 200 → Q (.ref p) (upd H p (.lst [.int x, .int s, .int 0])) := fun x s p np h1 h2 h3 =>
    q (.ref p) ⟨[], [p], upd H p _, fu⟩ rfl (Nat.le_refl _) (DL.WOk.newdeck (c := ⟨K, mg, DL.DP3, S, dk, H⟩) k0 np (vs := [V.int x, V.int s, V.int 0]) ⟨x, s, 0, rfl, h1, h2, h3, by decide, by have := k0.fb; dsimp only at this; show 0 + (fu : Int) ≤ _; omega⟩) (.deck List.mem_cons_self)
  refine ⟨_, (pss_cons (ps_set (i := 2) DL.sc_law_open.nd rfl (by first | exact Or.inl rfl | exact Or.inr rfl) pe_int)
    (pss_cons (ps_if (pt_cmpR op_lt (pv 1) (pe_callB (show CallR _ _ (rLen K) from c_len) (by rfl) T.m_len (by decide +kernel) (pa_cons (pv 0) pa_nil)) (nomark _))
    (pss_one (ps_set (i := 2) DL.sc_law_open.nd rfl (by first | exact Or.inl rfl | exact Or.inr rfl) (pe_ix (show IxR _ (rIxL K) from ix_list) (pv 0) (pv 1) (fun _ _ => rfl))))
    pss_nil)
    (pss_cons (ps_set (i := 3) DL.sc_law_open.nd rfl (by first | exact Or.inl rfl | exact Or.inr rfl) (pe_op op_add (pe_op op_add (pe_op op_mod (pe_callTy c_int (by rfl) T.m_int (by decide +kernel) (pa_cons (pe_op op_add (pe_op op_mul pe_int (pe_callB c_abs (by rfl) T.m_abs (by decide +kernel) (pa_cons (pv 2) pa_nil))) (pe_callTy c_int (by rfl) T.m_int (by decide +kernel) (pa_cons (pe_cmpR op_lt (pv 2) pe_int (nomark _)) pa_nil))) pa_nil)) (pe_op op_add (pe_op op_pow pe_int pe_int) pe_int)) (pe_op op_mul pe_int (pv 1))) pe_int))
    (pss_one (ps_ret (pe_lst (pa_cons (pe_callB (c_max2 rfl) (by rfl) T.m_max (by decide +kernel) (pa_cons pe_int (pa_cons (pe_op op_sub (pv 2) (pe_op op_pow pe_int pe_int)) pa_nil))) (pa_cons (pv 3) (pa_cons pe_int pa_nil))))))))), ?_⟩
  dsimp only [L2.start, DL.N_law_open, cxOf]
  walk_at "gox"
  refine w_lenL hs ?_
  walk_at "gox"
  refine w_dec (fun c1 => ?_) (fun c1 => ?_)
  · walk_at "go"
    obtain ⟨v, hv⟩ := handAt (ns := ns) hn0 (by simpa using c1)
    refine w_ixL hs hv ?_
    walk_at "gox"
    walk_at "gox"
    generalize hsd : (2 * (if v < 0 then -v else v) + (if decide (v < 0) = true then 1 else 0)) % (1000000000000000000000000000000000000000 + 3) + 5 * kk + 1 = sd
    have hs0 : 0 ≤ sd ∧ sd < 2 ^ 200 := by omega
    walk_at "gox"

    refine w_new (by exact Nat.le_of_ble_eq_true rfl) fun p H3 np e3 hp hne => ?_
    have eH3 : H3 = upd H p (.lst [V.int (if v - 1000000000000000000 > 0 then v - 1000000000000000000 else 0), V.int sd, V.int 0]) := by
      funext b
      by_cases z : b = p
      · subst z; rw [hp, upd_same]; try rfl
      · rw [upd_ne z]; exact hne b z
    rw [eH3]
    exact fin _ _ _ np (by split <;> omega) hs0.1 hs0.2
  · walk_at "go"
    walk_at "gox"
    generalize hsd : (2 * (if (0 : Int) < 0 then -(0 : Int) else (0 : Int)) + (if decide ((0 : Int) < 0) = true then 1 else 0)) % (1000000000000000000000000000000000000000 + 3) + 5 * kk + 1 = sd
    have hs0 : 0 ≤ sd ∧ sd < 2 ^ 200 := by omega
    walk_at "gox"

    refine w_new (by exact Nat.le_of_ble_eq_true rfl) fun p H3 np e3 hp hne => ?_
    have eH3 : H3 = upd H p (.lst [V.int (if (0 : Int) - 1000000000000000000 > 0 then (0 : Int) - 1000000000000000000 else 0), V.int sd, V.int 0]) := by
      funext b
      by_cases z : b = p
      · subst z; rw [hp, upd_same]; try rfl
      · rw [upd_ne z]; exact hne b z
    rw [eH3]
    exact fin _ _ _ np (by split <;> omega) hs0.1 hs0.2
theorem ok_law_draw (T : DL.Tx K mg ad fdd) : FnOk P w K mg base (L2.CX P w) 1 (ad 36) (fdd 36) ["_law_deck", "_law_many"] (DL.SpD K mg DL.DP3 2 DL.F_draw) := by
  refine T.F_law_draw.okX DL.sc_law_draw (fun vs H Q E h => h.1) (fun cdv A outer s H vs Q E hr h => ?_)
  obtain ⟨hl, S, dk, ds, fu, k0, r, q⟩ := h
  unfold DL.F_draw at q
  split at q
  rotate_left
  · exact q.elim
  rename_i x n
  cases r with
  | cons r1 r2 =>
  cases r2 with
  | cons r2 r3 =>
  cases r3
  obtain ⟨q0, qq⟩ := DL.wp_guard.mp q
  clear q
  obtain ⟨q1, q2⟩ := (Bool.and_eq_true _ _).mp q0
  obtain ⟨hn0, hn1⟩ := of_decide_eq_true q2
  obtain ⟨f', hf, qq⟩ := qq
  subst hf
  have e1 := DL.isDeckD_of q1
  subst e1
  obtain rfl := r2.isInt
  obtain ⟨a, rfl, ha⟩ := r1.isDeck
  obtain ⟨_, h1, a0, sd, ct, rfl, b1, b2, b3, b4, b5⟩ := k0.deck a ha
  have h1 : H a = some (.lst [.int a0, .int sd, .int ct]) := h1
  have b5 : ct + (f' + 1 : Nat) ≤ 2 ^ 60 := b5
  have fin : ∀ (k : Int) (H' : Hp), 0 ≤ k → k < n → (∃ (x c : Int), H' a = some (.lst [.int x, .int sd, .int c]) ∧ 0 ≤ x ∧ 0 ≤ c ∧ c ≤ ct + 1) → DL.Pt a H H' → Q (.int k) H' := fun k H' hk0 hk1 ⟨x', c', e, g1, g2, g3⟩ pt =>
    qq k hk0 hk1 (.int k) ⟨[], [], H', f'⟩ rfl (Nat.le_succ _) (DL.WOk.deckmut (c := ⟨K, mg, DL.DP3, S, dk, H⟩) k0 (Nat.le_succ _) ha pt e ⟨x', sd, c', rfl, g1, b2, b3, g2, by omega⟩) (.int k)
  refine ⟨_, (pss_cons (ps_if (pt_cmpR op_gt (pe_ix (show IxR _ (rIxL K) from ix_list) (pv 0) pe_int (fun _ _ => rfl)) pe_int (nomark _))
    (pss_cons (ps_set (i := 2) DL.sc_law_draw.nd rfl (by first | exact Or.inl rfl | exact Or.inr rfl) (pe_op op_mod (pe_callTy c_int (by rfl) T.m_int (by decide +kernel) (pa_cons (pe_ix (show IxR _ (rIxL K) from ix_list) (pv 0) pe_int (fun _ _ => rfl)) pa_nil)) (pv 1)))
    (pss_cons (ps_asg (pe_op op_fdivW (pe_ix (show IxR _ (rIxL K) from ix_list) (pv 0) pe_int (fun _ _ => rfl)) (pv 1)) (pg_sub (pv 0) pe_int set_list))
    (pss_one (ps_ret (pv 2)))))
    pss_nil)
    (pss_cons (ps_asg (pe_op op_add (pe_ix (show IxR _ (rIxL K) from ix_list) (pv 0) pe_int (fun _ _ => rfl)) pe_int) (pg_sub (pv 0) pe_int set_list))
    (pss_cons (ps_set (i := 3) DL.sc_law_draw.nd rfl (by first | exact Or.inl rfl | exact Or.inr rfl) (pe_op op_mod (pe_callTy c_int (by rfl) T.m_int (by decide +kernel) (pa_cons (pe_op op_add (pe_op op_mul (pe_ix (show IxR _ (rIxL K) from ix_list) (pv 0) pe_int (fun _ _ => rfl)) (pe_op op_add pe_int (pe_op op_mul pe_int (pe_ix (show IxR _ (rIxL K) from ix_list) (pv 0) pe_int (fun _ _ => rfl))))) (pe_op op_mul (pe_op op_mul pe_int (pe_ix (show IxR _ (rIxL K) from ix_list) (pv 0) pe_int (fun _ _ => rfl))) (pe_ix (show IxR _ (rIxL K) from ix_list) (pv 0) pe_int (fun _ _ => rfl)))) pa_nil)) pe_int))
    (pss_cons (ps_set (i := 3) DL.sc_law_draw.nd rfl (by first | exact Or.inl rfl | exact Or.inr rfl) (pe_op op_mod (pe_callTy c_int (by rfl) T.m_int (by decide +kernel) (pa_cons (pe_op op_add (pe_op op_add (pe_op op_mul (pv 3) (pv 3)) (pe_op op_mul pe_int (pe_ix (show IxR _ (rIxL K) from ix_list) (pv 0) pe_int (fun _ _ => rfl)))) (pe_ix (show IxR _ (rIxL K) from ix_list) (pv 0) pe_int (fun _ _ => rfl))) pa_nil)) pe_int))
    (pss_cons (ps_set (i := 3) DL.sc_law_draw.nd rfl (by first | exact Or.inl rfl | exact Or.inr rfl) (pe_op op_mod (pe_callTy c_int (by rfl) T.m_int (by decide +kernel) (pa_cons (pe_op op_add (pe_op op_mul (pe_op op_mul (pv 3) (pv 3)) (pv 3)) (pe_op op_mul pe_int (pe_ix (show IxR _ (rIxL K) from ix_list) (pv 0) pe_int (fun _ _ => rfl)))) pa_nil)) pe_int))
    (pss_one (ps_ret (pe_op op_mod (pe_callTy c_int (by rfl) T.m_int (by decide +kernel) (pa_cons (pe_op op_fdivW (pv 3) pe_int) pa_nil)) (pv 1))))))))), ?_⟩
  dsimp only [L2.start, DL.N_law_draw, cxOf]
  walk_at "goy"
  refine w_dec (fun c0 => ?_) (fun c0 => ?_)
  · walk_at "goy"
    exact fin _ _ (Int.emod_nonneg _ (by omega)) (Int.emod_lt_of_pos _ (by omega)) ⟨a0 / n, ct, upd_same, Int.ediv_nonneg (by omega) (by omega), b4, by omega⟩ DL.Pt.put
  · walk_at "goy"
    exact fin _ _ (Int.emod_nonneg _ (by omega)) (Int.emod_lt_of_pos _ (by omega)) ⟨a0, ct + 1, upd_same, b1, by omega, by omega⟩ DL.Pt.put
end
end J
namespace DL
open PySem PySem.Spec PyProof.Rows L2
local macro_rules | `(tactic| walk_at "v1") => `(tactic| first
  | with_reducible refine' g_seq ?_
  | with_reducible refine' g_nx ?_
  | with_reducible refine' g_set ?_
  | with_reducible refine' g_c ?_
  | ((with_reducible refine' g_var (d := ?d) ?h ?k); (case h => exact rfl))
  | with_reducible refine' g_cons ?_
  | with_reducible refine' g_nil ?_
  | ((with_reducible refine' g_call ?_))
  | ((with_reducible refine' g_callK ?_))
  | ((with_reducible refine' g_callL ?_))
  | with_reducible refine' g_callD ?_
  | with_reducible refine' g_bin ?_
  | with_reducible refine' g_un ?_
  | with_reducible refine' g_ret ?_
  | with_reducible refine' g_retN ?_
  | with_reducible refine' g_retL ?_
  | with_reducible refine' g_rl ?_
  | with_reducible refine' g_dfL ?_
  | with_reducible refine' g_dlL ?_
  | with_reducible refine' g_dlX ?_
  | with_reducible refine' g_lpL ?_
  | with_reducible refine' g_trL ?_
  | with_reducible refine' g_suL ?_
  | ((with_reducible refine' g_retO (es := ?es) ?h ?k); (case h => exact rfl))
  | ((with_reducible refine' g_retOv (d := ?d) ?h ?k); (case h => exact rfl))
  | with_reducible refine' g_dfR ?_
  | with_reducible refine' g_dfN ?_
  | with_reducible refine' g_dfX ?_
  | with_reducible refine' g_rt ?_
  | with_reducible refine' g_bk ?_
  | with_reducible refine' g_ct ?_
  | with_reducible refine' g_ex ?_
  | with_reducible refine' g_lpN ?_
  | with_reducible refine' g_lpC ?_
  | with_reducible refine' g_lpB ?_
  | with_reducible refine' g_lpR ?_
  | with_reducible refine' g_lpX ?_
  | with_reducible refine' g_trN ?_
  | with_reducible refine' g_trR ?_
  | with_reducible refine' g_trX ?_
  | with_reducible refine' g_suN ?_
  | with_reducible refine' g_suR ?_
  | with_reducible refine' g_try ?_
  | with_reducible refine' g_hd0 ?_
  | ((with_reducible refine' g_hdY ?h ?k); (case h => rfl))
  | ((with_reducible refine' g_hdN ?h ?k); (case h => rfl))
  | with_reducible refine' g_raise ?_
  | with_reducible refine' g_if ?_
  | with_reducible refine' g_tru ?_
  | with_reducible refine' g_blT ?_
  | with_reducible refine' g_andT ?_
  | with_reducible refine' g_orT ?_
  | with_reducible refine' g_notT ?_
  | with_reducible refine' g_yes ?_
  | with_reducible refine' g_and ?_
  | with_reducible refine' g_or ?_
  | with_reducible refine' g_not ?_
  | with_reducible refine' g_ife ?_
  | with_reducible refine' g_chain ?_
  | with_reducible refine' g_isi ?_
  | with_reducible refine' g_truB ?_
  | with_reducible refine' g_truI ?_
  | with_reducible refine' g_truN ?_
  | with_reducible refine' g_truT ?_
  | with_reducible refine' g_truL ?_
  | with_reducible refine' g_tup ?_
  | with_reducible refine' g_disp ?_
  | with_reducible refine' g_lst ?_
  | with_reducible refine' g_list ?_
  | with_reducible refine' g_iter ?_
  | with_reducible refine' g_itT ?_
  | with_reducible refine' g_itL ?_
  | with_reducible refine' g_elT ?_
  | with_reducible refine' g_elL ?_
  | with_reducible refine' g_rng ?_
  | with_reducible refine' g_setO ?_
  | with_reducible refine' g_drop ?_
  | with_reducible refine' g_pass ?_
  | with_reducible refine' g_brk ?_
  | with_reducible refine' g_ct' ?_
  | with_reducible refine' g_asg ?_
  | with_reducible refine' g_tName ?_
  | ((with_reducible refine' g_tTup ?h ?k); (case h => rfl))
  | with_reducible refine' g_tCons ?_
  | with_reducible refine' g_tNil ?_
  | ((with_reducible refine' g_frz (e := ?e) ?h ?k); (case h => exact rfl))
  | ((with_reducible refine' g_app (es := ?es) ?h ?k); (case h => exact rfl))
  | with_reducible refine' g_put ?_
  | with_reducible refine' g_par ?_
  | ((with_reducible refine' g_aug (x := ?x) ?h ?k); (case h => exact rfl))
  | with_reducible refine' g_for ?_
  | with_reducible refine' g_sl ?_
  | with_reducible refine' g_noPart ?_
  | with_reducible refine' g_part ?_
  | with_reducible refine' g_rep ?_
  | ((with_reducible refine' g_ownLen (es := ?es) ?h ?k); (case h => exact rfl))
  | ((with_reducible refine' g_ownTup (es := ?es) ?h ?k); (case h => exact rfl))
  | ((with_reducible refine' g_ownTupV (d := ?d) ?h ?k); (case h => exact rfl))
  | ((with_reducible refine' g_ownInF (es := ?es) ?h ?k); (case h => exact rfl))
  | ((with_reducible refine' g_ownInT (es := ?es) ?h ?k); (case h => exact rfl))
  | ((with_reducible refine' g_ownEqF (es := ?es) ?h ?k); (case h => exact rfl))
  | ((with_reducible refine' g_ownEqT (es := ?es) ?h ?k); (case h => exact rfl))
  | ((with_reducible refine' g_ownIsi (es := ?es) ?h ?k); (case h => exact rfl))
  | ((with_reducible refine' g_ownIt (es := ?es) ?h ?k); (case h => exact rfl))
  | ((with_reducible refine' g_ownIx (es := ?es) ?h ?k); (case h => exact rfl))
  | with_reducible refine' g_addI ?_
  | with_reducible refine' g_addII ?_
  | with_reducible refine' g_subII ?_
  | with_reducible refine' g_sub ?_
  | ((with_reducible refine' g_mod ?h ?k); (case h => first | decide | omega))
  | ((with_reducible refine' g_div ?h ?k); (case h => first | decide | omega))
  | ((with_reducible refine' g_mul ?h ?k); (case h => first | decide | omega))
  | ((with_reducible refine' g_pow ?h ?k); (case h => decide))
  | with_reducible refine' g_neg ?_
  | with_reducible refine' g_lt ?_
  | with_reducible refine' g_le ?_
  | with_reducible refine' g_gt ?_
  | with_reducible refine' g_ge ?_
  | with_reducible refine' g_ltS ?_
  | with_reducible refine' g_leS ?_
  | with_reducible refine' g_eqI ?_
  | with_reducible refine' g_neI ?_
  | with_reducible refine' g_eqB ?_
  | with_reducible refine' g_neB ?_
  | with_reducible refine' g_eqS ?_
  | with_reducible refine' g_neS ?_
  | with_reducible refine' g_isN ?_
  | with_reducible refine' g_isNot ?_
  | with_reducible refine' g_isB ?_
  | with_reducible refine' g_lenT ?_
  | with_reducible refine' g_lenL ?_
  | with_reducible refine' g_lenScr ?_
  | with_reducible refine' g_ixL ?_
  | with_reducible refine' g_ixT ?_
  | with_reducible refine' g_ix0 ?_
  | with_reducible refine' g_ix1 ?_
  | with_reducible refine' g_ix2 ?_
  | with_reducible refine' g_ix3 ?_
  | with_reducible refine' g_maxI ?_
  | with_reducible refine' g_minI ?_
  | with_reducible refine' g_absI ?_
  | with_reducible refine' g_intI ?_
  | with_reducible refine' g_intB ?_
  | with_reducible refine' g_tupL ?_
  | with_reducible refine' g_tupT ?_
  | with_reducible refine' g_slT ?_
  | with_reducible refine' g_slL ?_
  | ((with_reducible refine' g_isiI ?h ?k); (case h => first | rfl | assumption))
  | ((with_reducible refine' g_isiB ?h ?k); (case h => first | rfl | assumption))
  | ((with_reducible refine' g_isiS ?h ?k); (case h => first | rfl | assumption))
  | ((with_reducible refine' g_isiT ?h ?k); (case h => first | rfl | assumption))
  | ((with_reducible refine' g_isiL ?h ?k); (case h => first | rfl | assumption))
  | with_reducible refine' g_fmt ?_
  | with_reducible refine' g_js0 ?_
  | with_reducible refine' g_js ?_
  | with_reducible refine' g_rr ?_
  | with_reducible refine' iteT ?_
  | with_reducible refine' iteF ?_
  | with_reducible refine' iteNF ?_
  | with_reducible refine' iteNT ?_
  | with_reducible refine' ⟨_, rfl, ?_⟩
  | ((with_reducible refine' And.intro (a := _ ≤ 16777216) ?h ?k); (case h => first | decide | (simp only [List.length_cons, List.length_nil]; omega) | (simp; omega)))
  | ((with_reducible refine' And.intro (a := List.length _ = _) ?h ?k); (case h => rfl))
  )
local macro_rules | `(tactic| walk_at "v") => `(tactic| repeat (walk_at "v1"))
local macro_rules | `(tactic| walk_at "w") => `(tactic| repeat (first
  | with_reducible refine' g_seq ?_
  | with_reducible refine' g_nx ?_))
section
variable {env : Env} {fu : Nat} {E : Nat → Er → Prop} {QD Q : Nat → D → Prop} {QB : Nat → Bool → Prop} {QL : Nat → List D → Prop} {i j lo hi : Int} {d x y z : D} {ds es : List D} {b c : Bool} {s t : Str}
theorem a_law_size (hf : 3 ≤ fu) (h : ∀ n fu', fu ≤ fu' + 3 → 1 ≤ n → n ≤ 6 → QD fu' (.int n)) : (F_law_size [deckD]).go fu QD E := by
  refine g_def rfl ?_
  unfold B_law_size
  walk_at "v"
  refine gs_draw (by omega) (by omega) (by omega) fun i1 f1 e1 a1 b1 => ?_
  walk_at "v"
  refine gs_draw (by omega) (by omega) (by omega) fun i2 f2 e2 a2 b2 => ?_
  walk_at "v"
  refine gs_draw (by omega) (by omega) (by omega) fun i3 f3 e3 a3 b3 => ?_
  walk_at "v"
  by_cases hc : i3 = 5
  · rw [decide_eq_true hc]
    refine g_ix1 ?_
    walk_at "v"
    exact h _ _ (by omega) (by omega) (by omega)
  · rw [decide_eq_false hc]
    refine g_ix0 ?_
    walk_at "v"
    exact h _ _ (by omega) (by omega) (by omega)
/-- a deed that the law made -/
def Good (n : Int) (d : D) : Prop := ∃ (w : Str) (f t : Int), d = .tuple [.str w, .int f, .int t] ∧ (w = "over" ∨ w = "under" ∨ w = "write" ∨ w = "throw") ∧ 0 ≤ f ∧ f ≤ 5 ∧ 0 ≤ t ∧ t ≤ 5 ∧ isDeed n d = true
theorem good_w {n f t : Int} (h1 : 0 ≤ f) (h2 : f < n) (h3 : 0 ≤ t) (h4 : t ≤ 3) (h5 : n ≤ 6) {w : Str} (hw : w = "write" ∨ w = "throw") : Good n (.tuple [.str w, .int f, .int t]) := by
  refine ⟨w, f, t, rfl, by rcases hw with h | h <;> simp [h], h1, by omega, h3, by omega, ?_⟩
  have e1 : isFold n (.int f) = true := by
    show (decide (0 ≤ f) && decide (f ≤ n - 1)) = true
    rw [decide_eq_true h1, decide_eq_true (by omega)]; rfl
  have e2 : isWh (.int t) 0 3 = true := by
    show (decide (0 ≤ t) && decide (t ≤ 3)) = true
    rw [decide_eq_true h3, decide_eq_true h4]; rfl
  have e3 : isWord (.str w) ["over", "under"] = false := by rcases hw with h | h <;> subst h <;> decide +kernel
  have e4 : isWord (.str w) ["write", "throw"] = true := by rcases hw with h | h <;> subst h <;> decide +kernel
  show (isFold n (.int f) && (if isWord (.str w) ["over", "under"] then isFold n (.int t) && neInt (.int f) (.int t) else isWord (.str w) ["write", "throw"] && isWh (.int t) 0 3)) = true
  rw [e1, e2, e3, e4]; rfl
theorem good_c {n f t : Int} (h1 : 0 ≤ f) (h2 : f < n) (h3 : 0 ≤ t) (h4 : t < n) (h5 : n ≤ 6) (hne : f ≠ t) {w : Str} (hw : w = "over" ∨ w = "under") : Good n (.tuple [.str w, .int f, .int t]) := by
  refine ⟨w, f, t, rfl, by rcases hw with h | h <;> simp [h], h1, by omega, h3, by omega, ?_⟩
  have e1 : isFold n (.int f) = true := by
    show (decide (0 ≤ f) && decide (f ≤ n - 1)) = true
    rw [decide_eq_true h1, decide_eq_true (by omega)]; rfl
  have e2 : isFold n (.int t) = true := by
    show (decide (0 ≤ t) && decide (t ≤ n - 1)) = true
    rw [decide_eq_true h3, decide_eq_true (by omega)]; rfl
  have e3 : isWord (.str w) ["over", "under"] = true := by rcases hw with h | h <;> subst h <;> decide +kernel
  have e4 : neInt (.int f) (.int t) = true := by
    show (!decide (f = t)) = true
    rw [decide_eq_false hne]; rfl
  show (isFold n (.int f) && (if isWord (.str w) ["over", "under"] then isFold n (.int t) && neInt (.int f) (.int t) else isWord (.str w) ["write", "throw"] && isWh (.int t) 0 3)) = true
  rw [e1, e2, e3, e4]; rfl
/-- the words of the law's scripts -/
def Words (ws : List D) : Prop := ws ≠ [] ∧ ws.length ≤ 10 ∧ ∀ d ∈ ws, ∃ w : Str, d = .str w ∧ (w = "over" ∨ w = "under" ∨ w = "write" ∨ w = "throw")
theorem inWT {w : Str} (h : w = "over" ∨ w = "under" ∨ w = "write" ∨ w = "throw") : SeqAt.shaped (.str w) = true ∧ SeqAt.shaped (.list [.str "write", .str "throw"]) = true ∧
    ([PyData.str "write", .str "throw"].any fun z => PyData.eqv z (.str w)) = decide (w = "write" ∨ w = "throw") := by
  rcases h with h | h | h | h <;> subst h <;> decide +kernel
theorem a_law_script {n m : Int} {ws : List D} (hn : 1 ≤ n ∧ n ≤ 6) (hm : 0 ≤ m ∧ m ≤ 10) (hw : Words ws) (hf : 200 ≤ fu)
    (h : ∀ ds fu', fu ≤ fu' + 200 → (ds.length : Int) ≤ 3 * m → ds.length ≤ 30 → (∀ d ∈ ds, Good n d) → QD fu' (.tuple ds)) : (F_law_script [deckD, .int n, .int m, .list ws]).go fu QD E := by
  obtain ⟨hw0, hw1, hw2⟩ := hw
  have hwl : 0 < ws.length := List.length_pos_iff.mpr hw0
  refine g_def rfl ?_
  unfold B_law_script
  walk_at "v"
  refine gs_draw (by omega) (by omega) (by omega) fun i1 f1 e1 a1 b1 => ?_
  walk_at "v"
  -- how many at most
  obtain ⟨m', em, h1, h2, h3⟩ : ∃ m' : Int, ixL [.int m, .int (if 3 * m < 30 then 3 * m else 30)] (if decide (i1 = 7) = true then 1 else 0) = .ret (.int m') ∧ 0 ≤ m' ∧ m' ≤ 3 * m ∧ m' ≤ 30 := by
    by_cases hc : i1 = 7
    · rw [decide_eq_true hc]; exact ⟨_, ixL_1 _ _ _, by split <;> omega, by split <;> omega, by split <;> omega⟩
    · rw [decide_eq_false hc]; exact ⟨_, ixL_0 _ _, by omega, by omega, by omega⟩
  refine g_ret1 em ?_
  walk_at "v"
  refine gs_draw (by omega) (by omega) (by omega) fun i2 f2 e2 a2 b2 => ?_
  walk_at "v"
  refine ⟨0, i2, .inl ⟨rfl, rfl⟩, by unfold rngOk; exact decide_eq_true (by omega), ?_⟩
  refine g_loopI (fun k fu e => ∃ (ds : List D) (x5 x6 x7 x8 : Option DV), e = [some (.val deckD), some (.val (.int n)), some (.val (.int m')), some (.val (.list ws)), some (.own ds), x5, x6, x7, x8] ∧ ds.length = k ∧ (∀ d ∈ ds, Good n d) ∧ f2 ≤ fu + 3 * k ∧ (k : Int) ≤ i2) _ 0 _ _ ⟨[], none, none, none, none, rfl, rfl, fun d hd => (by cases hd), by omega, by omega⟩ ?_ ?_
  · rintro k d e fu hk hd ⟨ds, x5, x6, x7, x8, rfl, hl, hg, hfu, hki⟩
    have hk2 : (k : Int) + 1 ≤ i2 := by
      have := (List.getElem?_eq_some_iff.mp hd).1
      unfold rngD at this
      rw [List.length_map, List.length_range] at this
      omega
    refine g_body ?_
    walk_at "v"
    refine gs_draw (by omega) (by omega) (by omega) fun i3 f3 e3 a3 b3 => ?_
    have hlt : i3.toNat < ws.length := by omega
    obtain ⟨w, ew, hww⟩ := hw2 ws[i3.toNat] (List.getElem_mem hlt)
    refine g_ixI a3 (List.getElem?_eq_getElem hlt) ?_
    rw [ew]
    walk_at "v"
    refine gs_draw (by omega) (by omega) (by omega) fun i4 f4 e4 a4 b4 => ?_
    walk_at "w"
    obtain ⟨q1, q2, q3⟩ := inWT hww
    refine g_ifOr (decide (w = "write" ∨ w = "throw")) (decide (n = 1)) (fun Q hQ => ?_) (fun Q hQ => ?_) ?_
    · walk_at "v"
      refine g_inL q1 q2 ?_
      rw [q3]
      walk_at "v"
      exact hQ
    · walk_at "v"
      exact hQ
    refine v_cb (fun hcase => ?_) (fun hcase => ?_)
    · walk_at "v"
      refine gs_draw (by omega) (by omega) (by omega) fun i5 f5 e5 a5 b5 => ?_
      have pth : ∃ p : Int, ([PyData.int 0, .int 1, .int 0, .int 1, .int 2, .int 3] : List D)[i5.toNat]? = some (.int p) ∧ 0 ≤ p ∧ p ≤ 3 := by
        have : i5 = 0 ∨ i5 = 1 ∨ i5 = 2 ∨ i5 = 3 ∨ i5 = 4 ∨ i5 = 5 := by omega
        rcases this with r | r | r | r | r | r <;> subst r <;> exact ⟨_, rfl, by decide, by decide⟩
      obtain ⟨p, ep, hp0, hp1⟩ := pth
      refine g_ixI a5 ep ?_
      walk_at "v"
      refine g_inL q1 q2 ?_
      rw [q3]
      walk_at "v"
      obtain ⟨w', ew', hw'⟩ : ∃ w' : Str, ixL [.str "throw", .str w] (if decide (w = "write" ∨ w = "throw") = true then 1 else 0) = .ret (.str w') ∧ (w' = "write" ∨ w' = "throw") := by
        by_cases hc : w = "write" ∨ w = "throw"
        · rw [decide_eq_true hc]; exact ⟨_, ixL_1 _ _ _, hc⟩
        · rw [decide_eq_false hc]; exact ⟨_, ixL_0 _ _, .inr rfl⟩
      refine g_ret1 ew' ?_
      walk_at "v"
      refine ⟨by omega, ?_⟩
      walk_at "v"
      refine ⟨_, _, _, _, _, rfl, by rw [List.length_append, hl]; rfl, fun d' hd' => ?_, by omega, by omega⟩
      rcases List.mem_append.mp hd' with hd' | hd'
      · exact hg d' hd'
      · rw [List.mem_singleton.mp hd']; exact good_w a4 (by omega) hp0 hp1 hn.2 hw'
    · have hc : ¬ (w = "write" ∨ w = "throw") ∧ ¬ n = 1 := by
        simpa only [Bool.or_eq_false_iff, decide_eq_false_iff_not] using hcase
      walk_at "v"
      refine gs_draw (by omega) (by omega) (by omega) fun i5 f5 e5 a5 b5 => ?_
      walk_at "v"
      refine ⟨by omega, ?_⟩
      walk_at "v"
      have hmod : 0 ≤ (i4 + 1 + i5) % n ∧ (i4 + 1 + i5) % n < n := ⟨Int.emod_nonneg _ (by omega), Int.emod_lt_of_pos _ (by omega)⟩
      have hne : i4 ≠ (i4 + 1 + i5) % n := by
        by_cases q : i4 + 1 + i5 < n
        · rw [Int.emod_eq_of_lt (by omega) q]; omega
        · have : (i4 + 1 + i5) % n = i4 + 1 + i5 - n := by
            rw [← Int.sub_emod_right, Int.emod_eq_of_lt (by omega) (by omega)]
          rw [this]; omega
      refine ⟨_, _, _, _, _, rfl, by rw [List.length_append, hl]; rfl, fun d' hd' => ?_, by omega, by omega⟩
      rcases List.mem_append.mp hd' with hd' | hd'
      · exact hg d' hd'
      · rw [List.mem_singleton.mp hd']
        refine good_c a4 (by omega) hmod.1 hmod.2 hn.2 hne ?_
        rcases hww with r | r | r | r
        · exact .inl r
        · exact .inr r
        · exact absurd (.inl r) hc.1
        · exact absurd (.inr r) hc.1
  · rintro e fu ⟨ds, x5, x6, x7, x8, rfl, hl, hg, hfu, hki⟩
    have hlen : (rngD 0 i2).length = i2.toNat := by unfold rngD; rw [List.length_map, List.length_range]; congr 1; omega
    rw [hlen] at hl hfu hki
    walk_at "v"
    exact h ds fu (by omega) (by omega) (by omega) hg
end
end DL
namespace DL
open PySem PySem.Spec PyProof.Rows L2
local macro_rules | `(tactic| walk_at "v1") => `(tactic| first
  | with_reducible refine' g_seq ?_
  | with_reducible refine' g_nx ?_
  | with_reducible refine' g_set ?_
  | with_reducible refine' g_c ?_
  | ((with_reducible refine' g_var (d := ?d) ?h ?k); (case h => exact rfl))
  | with_reducible refine' g_cons ?_
  | with_reducible refine' g_nil ?_
  | ((with_reducible refine' g_call ?_))
  | ((with_reducible refine' g_callK ?_))
  | ((with_reducible refine' g_callL ?_))
  | with_reducible refine' g_callD ?_
  | with_reducible refine' g_bin ?_
  | with_reducible refine' g_un ?_
  | with_reducible refine' g_ret ?_
  | with_reducible refine' g_retN ?_
  | with_reducible refine' g_retL ?_
  | with_reducible refine' g_rl ?_
  | with_reducible refine' g_dfL ?_
  | with_reducible refine' g_dlL ?_
  | with_reducible refine' g_dlX ?_
  | with_reducible refine' g_lpL ?_
  | with_reducible refine' g_trL ?_
  | with_reducible refine' g_suL ?_
  | ((with_reducible refine' g_retO (es := ?es) ?h ?k); (case h => exact rfl))
  | ((with_reducible refine' g_retOv (d := ?d) ?h ?k); (case h => exact rfl))
  | with_reducible refine' g_dfR ?_
  | with_reducible refine' g_dfN ?_
  | with_reducible refine' g_dfX ?_
  | with_reducible refine' g_rt ?_
  | with_reducible refine' g_bk ?_
  | with_reducible refine' g_ct ?_
  | with_reducible refine' g_ex ?_
  | with_reducible refine' g_lpN ?_
  | with_reducible refine' g_lpC ?_
  | with_reducible refine' g_lpB ?_
  | with_reducible refine' g_lpR ?_
  | with_reducible refine' g_lpX ?_
  | with_reducible refine' g_trN ?_
  | with_reducible refine' g_trR ?_
  | with_reducible refine' g_trX ?_
  | with_reducible refine' g_suN ?_
  | with_reducible refine' g_suR ?_
  | with_reducible refine' g_try ?_
  | with_reducible refine' g_hd0 ?_
  | ((with_reducible refine' g_hdY ?h ?k); (case h => rfl))
  | ((with_reducible refine' g_hdN ?h ?k); (case h => rfl))
  | with_reducible refine' g_raise ?_
  | with_reducible refine' g_if ?_
  | with_reducible refine' g_tru ?_
  | with_reducible refine' g_blT ?_
  | with_reducible refine' g_andT ?_
  | with_reducible refine' g_orT ?_
  | with_reducible refine' g_notT ?_
  | with_reducible refine' g_yes ?_
  | with_reducible refine' g_and ?_
  | with_reducible refine' g_or ?_
  | with_reducible refine' g_not ?_
  | with_reducible refine' g_ife ?_
  | with_reducible refine' g_chain ?_
  | with_reducible refine' g_isi ?_
  | with_reducible refine' g_truB ?_
  | with_reducible refine' g_truI ?_
  | with_reducible refine' g_truN ?_
  | with_reducible refine' g_truT ?_
  | with_reducible refine' g_truL ?_
  | with_reducible refine' g_tup ?_
  | with_reducible refine' g_disp ?_
  | with_reducible refine' g_lst ?_
  | with_reducible refine' g_list ?_
  | with_reducible refine' g_iter ?_
  | with_reducible refine' g_itT ?_
  | with_reducible refine' g_itL ?_
  | with_reducible refine' g_elT ?_
  | with_reducible refine' g_elL ?_
  | with_reducible refine' g_rng ?_
  | with_reducible refine' g_setO ?_
  | with_reducible refine' g_drop ?_
  | with_reducible refine' g_pass ?_
  | with_reducible refine' g_brk ?_
  | with_reducible refine' g_ct' ?_
  | with_reducible refine' g_asg ?_
  | with_reducible refine' g_tName ?_
  | ((with_reducible refine' g_tTup ?h ?k); (case h => rfl))
  | with_reducible refine' g_tCons ?_
  | with_reducible refine' g_tNil ?_
  | ((with_reducible refine' g_frz (e := ?e) ?h ?k); (case h => exact rfl))
  | ((with_reducible refine' g_app (es := ?es) ?h ?k); (case h => exact rfl))
  | with_reducible refine' g_put ?_
  | with_reducible refine' g_par ?_
  | ((with_reducible refine' g_aug (x := ?x) ?h ?k); (case h => exact rfl))
  | with_reducible refine' g_for ?_
  | with_reducible refine' g_sl ?_
  | with_reducible refine' g_noPart ?_
  | with_reducible refine' g_part ?_
  | with_reducible refine' g_rep ?_
  | ((with_reducible refine' g_ownLen (es := ?es) ?h ?k); (case h => exact rfl))
  | ((with_reducible refine' g_ownTup (es := ?es) ?h ?k); (case h => exact rfl))
  | ((with_reducible refine' g_ownTupV (d := ?d) ?h ?k); (case h => exact rfl))
  | ((with_reducible refine' g_ownInF (es := ?es) ?h ?k); (case h => exact rfl))
  | ((with_reducible refine' g_ownInT (es := ?es) ?h ?k); (case h => exact rfl))
  | ((with_reducible refine' g_ownEqF (es := ?es) ?h ?k); (case h => exact rfl))
  | ((with_reducible refine' g_ownEqT (es := ?es) ?h ?k); (case h => exact rfl))
  | ((with_reducible refine' g_ownIsi (es := ?es) ?h ?k); (case h => exact rfl))
  | ((with_reducible refine' g_ownIt (es := ?es) ?h ?k); (case h => exact rfl))
  | ((with_reducible refine' g_ownIx (es := ?es) ?h ?k); (case h => exact rfl))
  | with_reducible refine' g_addI ?_
  | with_reducible refine' g_addII ?_
  | with_reducible refine' g_subII ?_
  | with_reducible refine' g_sub ?_
  | ((with_reducible refine' g_mod ?h ?k); (case h => first | decide | omega))
  | ((with_reducible refine' g_div ?h ?k); (case h => first | decide | omega))
  | ((with_reducible refine' g_mul ?h ?k); (case h => first | decide | omega))
  | ((with_reducible refine' g_pow ?h ?k); (case h => decide))
  | with_reducible refine' g_neg ?_
  | with_reducible refine' g_lt ?_
  | with_reducible refine' g_le ?_
  | with_reducible refine' g_gt ?_
  | with_reducible refine' g_ge ?_
  | with_reducible refine' g_ltS ?_
  | with_reducible refine' g_leS ?_
  | with_reducible refine' g_eqI ?_
  | with_reducible refine' g_neI ?_
  | with_reducible refine' g_eqB ?_
  | with_reducible refine' g_neB ?_
  | with_reducible refine' g_eqS ?_
  | with_reducible refine' g_neS ?_
  | with_reducible refine' g_isN ?_
  | with_reducible refine' g_isNot ?_
  | with_reducible refine' g_isB ?_
  | with_reducible refine' g_lenT ?_
  | with_reducible refine' g_lenL ?_
  | with_reducible refine' g_lenScr ?_
  | with_reducible refine' g_ixL ?_
  | with_reducible refine' g_ixT ?_
  | with_reducible refine' g_ix0 ?_
  | with_reducible refine' g_ix1 ?_
  | with_reducible refine' g_ix2 ?_
  | with_reducible refine' g_ix3 ?_
  | with_reducible refine' g_maxI ?_
  | with_reducible refine' g_minI ?_
  | with_reducible refine' g_absI ?_
  | with_reducible refine' g_intI ?_
  | with_reducible refine' g_intB ?_
  | with_reducible refine' g_tupL ?_
  | with_reducible refine' g_tupT ?_
  | with_reducible refine' g_slT ?_
  | with_reducible refine' g_slL ?_
  | ((with_reducible refine' g_isiI ?h ?k); (case h => first | rfl | assumption))
  | ((with_reducible refine' g_isiB ?h ?k); (case h => first | rfl | assumption))
  | ((with_reducible refine' g_isiS ?h ?k); (case h => first | rfl | assumption))
  | ((with_reducible refine' g_isiT ?h ?k); (case h => first | rfl | assumption))
  | ((with_reducible refine' g_isiL ?h ?k); (case h => first | rfl | assumption))
  | with_reducible refine' g_fmt ?_
  | with_reducible refine' g_js0 ?_
  | with_reducible refine' g_js ?_
  | with_reducible refine' g_rr ?_
  | with_reducible refine' iteT ?_
  | with_reducible refine' iteF ?_
  | with_reducible refine' iteNF ?_
  | with_reducible refine' iteNT ?_
  | with_reducible refine' ⟨_, rfl, ?_⟩
  | ((with_reducible refine' And.intro (a := _ ≤ 16777216) ?h ?k); (case h => first | decide | (simp only [List.length_cons, List.length_nil]; omega) | (simp; omega)))
  | ((with_reducible refine' And.intro (a := List.length _ = _) ?h ?k); (case h => rfl))
  )
local macro_rules | `(tactic| walk_at "v") => `(tactic| repeat (walk_at "v1"))
local macro_rules | `(tactic| walk_at "w") => `(tactic| repeat (first
  | with_reducible refine' g_seq ?_
  | with_reducible refine' g_nx ?_))
section
variable {env : Env} {fu : Nat} {E : Nat → Er → Prop} {QO : Nat → Out → Prop} {QD Q : Nat → D → Prop} {QB : Nat → Bool → Prop} {QL : Nat → List D → Prop} {i j lo hi : Int} {d x y z : D} {ds es : List D} {b c : Bool} {s t : Str}
theorem find_ends {c : List Nat} {a : List Sc} (h : endsW a = true) : ∃ s, a.find? (there c) = some s := by
  unfold endsW at h
  split at h
  · rename_i s e
    have hm := List.mem_of_getLast? e
    have := List.find?_isSome (p := there c).mpr ⟨s, hm, by unfold there; rw [h]; rfl⟩
    exact Option.isSome_iff_exists.mp this
  · cases h
theorem find_laid (c : List Nat) (a b : List Sc) : (laid a b).find? (there c) = ((a.find? (there c)).or (b.find? (there c))) := by
  unfold laid
  split
  · rename_i h
    obtain ⟨s, e⟩ := find_ends (c := c) h
    rw [e]; rfl
  · rw [List.find?_append]
    cases e : a.find? (there c) with
    | some s => rfl
    | none =>
      show List.find? (there c) _ = b.find? (there c)
      have hno := List.find?_eq_none.mp e
      clear e
      induction b with
      | nil => rfl
      | cons s b ih =>
        by_cases hs : there c s = true
        · have hna : s ∉ a := fun hm => hno s hm hs
          rw [List.filter_cons_of_pos (by rw [decide_eq_false hna]; rfl), List.find?_cons_of_pos hs, List.find?_cons_of_pos hs]
        · rw [List.find?_cons_of_neg hs]
          by_cases hm : s ∈ a
          · rw [List.filter_cons_of_neg (by rw [decide_eq_true hm]; decide)]; exact ih
          · rw [List.filter_cons_of_pos (by rw [decide_eq_false hm]; rfl), List.find?_cons_of_neg hs]; exact ih
def pbeh (path : Nat) (ps : List (Option Sc)) (w : Str) (f t p : Nat) : List (Option Sc) :=
  if w = "over" then (if (ps.getD f none).isNone = false then ps.set t (ps.getD f none) else ps)
  else if w = "under" then (if (ps.getD t none).isNone = true then ps.set t (ps.getD f none) else ps)
  else if t ≠ path then ps
  else ps.set f (if w = "write" then some (.w p) else none)
theorem paps_get (c : List Nat) (rs : List (List Sc)) (f : Nat) : (papersOf c rs).getD f none = (rs.getD f []).find? (there c) := by
  unfold papersOf
  rw [List.getD_eq_getElem?_getD, List.getD_eq_getElem?_getD, List.getElem?_map]
  cases rs[f]? <;> rfl
theorem set_same {α : Type} {xs : List α} {t : Nat} {d : α} (h : t < xs.length) : xs.set t (xs.getD t d) = xs := by
  rw [List.getD_eq_getElem?_getD, List.getElem?_eq_getElem h]
  exact List.set_getElem_self h
theorem papers_set (c : List Nat) (rs : List (List Sc)) (t : Nat) (r : List Sc) : papersOf c (rs.set t r) = (papersOf c rs).set t (r.find? (there c)) := by
  unfold papersOf; rw [List.map_set]
theorem papers_beh {c : List Nat} {rs : List (List Sc)} {path : Nat} {w : Str} {f t p : Nat} (ht : w = "over" ∨ w = "under" → t < rs.length) : papersOf c (beh path rs w f t p) = pbeh path (papersOf c rs) w f t p := by
  have hl : (papersOf c rs).length = rs.length := by unfold papersOf; rw [List.length_map]
  unfold beh pbeh
  split
  · rename_i e
    rw [papers_set, find_laid, ← paps_get, ← paps_get]
    cases q : (papersOf c rs).getD f none with
    | some s => rfl
    | none =>
      rw [if_neg (by decide)]
      exact set_same (by rw [hl]; exact ht (.inl e))
  · split
    · rename_i e
      rw [papers_set, find_laid, ← paps_get, ← paps_get]
      cases q : (papersOf c rs).getD t none with
      | none => rfl
      | some s =>
        rw [if_neg (by simp)]
        show (papersOf c rs).set t (some s) = _
        rw [← q]
        exact set_same (by rw [hl]; exact ht (.inr e))
    · split
      · rfl
      · rw [papers_set]
        split <;> rfl
theorem pap_at {ps : List (Option Sc)} {i : Nat} (h : i < ps.length) : ixL (ps.map papD) (i : Int) = .ret (papD (ps.getD i none)) := by
  rw [ixL_nat (by rw [List.length_map]; exact h), List.getElem_map, List.getD_eq_getElem?_getD, List.getElem?_eq_getElem h]; rfl
theorem isNon_pap (o : Option Sc) : isNonD (papD o) = o.isNone := by cases o with
  | none => rfl
  | some s => cases s <;> rfl
theorem set_pap {ps : List (Option Sc)} {i : Nat} {o : Option Sc} : (ps.map papD).set i (papD o) = (ps.set i o).map papD := by rw [List.map_set]
/-- the papers along the script -/
def papAlong (n path : Nat) (ds : List (Str × Nat × Nat)) (c : List Nat) (k : Nat) : List D := (List.range (k + 1)).map fun j => papsD (papersOf c (thru n path ds j))
theorem papAlong_last {n path : Nat} {ds : List (Str × Nat × Nat)} {c : List Nat} {k : Nat} : (papAlong n path ds c k).getLast? = some (papsD (papersOf c (thru n path ds k))) := by
  unfold papAlong
  rw [List.range_succ, List.map_append, List.map_singleton, List.getLast?_append]; rfl
theorem papAlong_succ {n path : Nat} {ds : List (Str × Nat × Nat)} {c : List Nat} {k : Nat} : papAlong n path ds c k ++ [papsD (papersOf c (thru n path ds (k + 1)))] = papAlong n path ds c (k + 1) := by
  unfold papAlong
  rw [List.range_succ (n := k + 1), List.map_append, List.map_singleton]
theorem paps_first (n : Nat) (c : List Nat) : (papersOf c (firsts n)).map papD = (List.range n).map fun i => if i ∈ c then (Sc.f i).d else .none := by
  unfold papersOf firsts
  rw [List.map_map, List.map_map]
  refine List.map_congr_left fun i _ => ?_
  show papD (List.find? (there c) [Sc.f i]) = _
  by_cases h : i ∈ c
  · rw [if_pos h, List.find?_cons_of_pos (by unfold there; show (false || decide (i ∈ c)) = true; rw [decide_eq_true h]; rfl)]; rfl
  · rw [if_neg h, List.find?_cons_of_neg (by unfold there; show ¬ (false || decide (i ∈ c)) = true; rw [decide_eq_false h]; decide)]; rfl
theorem a_law_papers {n path : Nat} {ds : List (Str × Nat × Nat)} {c : List Nat} (W : Work n path ds) (h : QD fu (.list (papAlong n path ds c ds.length))) : (F_law_papers [.int (n : Nat), .tuple (ds.map deedD), .int (path : Nat), contD c]).go fu QD E := by
  have h6 := W.n6
  have hl30 := W.l30
  refine g_def rfl ?_
  unfold B_law_papers
  unfold contD
  walk_at "v"
  refine g_comp ?_
  walk_at "v"
  refine ⟨0, n, .inl ⟨rfl, rfl⟩, rng_ok (by omega), by rw [rngD_nat, List.length_map, List.length_range]; omega, g_compR (fun i => if i ∈ c then (Sc.f i).d else .none) (fun i hi fu QX hq => g_item ?_) ?_⟩
  · walk_at "v"
    refine g_inT (by show (true && _) = true; rw [Bool.true_and]; exact List.all_eq_true.mpr fun x hx => by obtain ⟨i, _, rfl⟩ := List.mem_map.mp hx; rfl) ?_
    rw [in_cont]
    walk_at "v"
    by_cases hm : i ∈ c
    · rw [if_pos hm] at hq
      rw [decide_eq_true hm]
      refine g_ix1 ?_
      walk_at "v"
      exact hq
    · rw [if_neg hm] at hq
      rw [decide_eq_false hm]
      refine g_ix0 ?_
      walk_at "v"
      exact hq
  rw [← paps_first]
  walk_at "v"
  refine ⟨0, ds.length, .inl ⟨by rw [List.length_map], rfl⟩, rng_ok (by omega), ?_⟩
  have hlen : (rngD 0 (ds.length : Int)).length = ds.length := by rw [rngD_nat, List.length_map, List.length_range]
  refine g_loopI (fun k fu' e => ∃ (x6 x7 x8 x9 : Option DV), e = [some (.val (.int (n : Nat))), some (.val (.tuple (ds.map deedD))), some (.val (.int (path : Nat))), some (.val (.tuple (c.map fun i => .int (i : Nat)))), some (.own ((papersOf c (thru n path ds k)).map papD)), some (.own (papAlong n path ds c k)), x6, x7, x8, x9] ∧ fu' = fu) _ 0 _ _ ⟨none, none, none, none, rfl, rfl⟩ ?_ ?_
  · rintro k d e fu' hk hdk ⟨x6, x7, x8, x9, rfl, rfl⟩
    rw [Nat.sub_zero, rngD_nat, List.getElem?_map] at hdk
    have hkl : k < ds.length := by
      by_cases q : k < ds.length
      · exact q
      · rw [List.getElem?_eq_none (by rw [List.length_range]; omega)] at hdk; cases hdk
    rw [List.getElem?_range hkl] at hdk
    obtain rfl : d = .int (k : Nat) := by cases hdk; rfl
    obtain ⟨q, hq⟩ : ∃ q, ds[k]? = some q := ⟨_, List.getElem?_eq_getElem hkl⟩
    have hqd := W.deeds q (List.mem_of_getElem? hq)
    have hrs := thru_ok W.deeds (path := path) k
    have hstep : papersOf c (thru n path ds (k + 1)) = pbeh path (papersOf c (thru n path ds k)) q.1 q.2.1 q.2.2 k := by
      rw [show thru n path ds (k + 1) = beh path (thru n path ds k) q.1 q.2.1 q.2.2 k by rw [thru, hq]]
      refine papers_beh fun hw => ?_
      rw [hrs.len]
      rcases hqd.2 with ⟨_, a, _⟩ | ⟨a, _⟩
      · exact a
      · rcases hw with e1 | e1 <;> rw [e1] at a <;> exact absurd a (by decide +kernel)
    have hpl : (papersOf c (thru n path ds k)).length = n := by unfold papersOf; rw [List.length_map]; exact hrs.len
    have hsucc := papAlong_succ (n := n) (path := path) (ds := ds) (c := c) (k := k)
    have hal : (papAlong n path ds c k).length < 16777216 := by unfold papAlong; simp; omega
    generalize papersOf c (thru n path ds k) = ps at hstep hpl
    rw [hstep] at hsucc ⊢
    clear hstep hrs
    generalize papAlong n path ds c (k + 1) = al1 at hsucc ⊢
    generalize papAlong n path ds c k = al at hsucc hal ⊢
    subst hsucc
    obtain ⟨w, f, t⟩ := q
    obtain ⟨hf, hw⟩ := hqd
    have hf : f < n := hf
    have hix : ixL (ds.map deedD) ((k : Nat) : Int) = .ret (.tuple [.str w, .int (f : Nat), .int (t : Nat)]) := by
      rw [ixL_nat (by rw [List.length_map]; exact hkl), List.getElem_map]
      have := List.getElem?_eq_getElem hkl
      rw [hq] at this
      rw [← Option.some.inj this]; rfl
    have hmf : f < (ps.map papD).length := by rw [List.length_map, hpl]; exact hf
    refine g_body ?_
    walk_at "v"
    refine g_ret1 hix ?_
    walk_at "v"
    have d_oo : decide (("over" : Str) = "over") = true := decide_eq_true rfl
    have d_ou : decide (("over" : Str) = "under") = false := by decide +kernel
    have d_ow : decide (("over" : Str) = "write") = false := by decide +kernel
    have d_ot : decide (("over" : Str) = "throw") = false := by decide +kernel
    have d_uo : decide (("under" : Str) = "over") = false := by decide +kernel
    have d_uu : decide (("under" : Str) = "under") = true := decide_eq_true rfl
    have d_uw : decide (("under" : Str) = "write") = false := by decide +kernel
    have d_ut : decide (("under" : Str) = "throw") = false := by decide +kernel
    have d_wo : decide (("write" : Str) = "over") = false := by decide +kernel
    have d_wu : decide (("write" : Str) = "under") = false := by decide +kernel
    have d_ww : decide (("write" : Str) = "write") = true := decide_eq_true rfl
    have d_wt : decide (("write" : Str) = "throw") = false := by decide +kernel
    have d_to : decide (("throw" : Str) = "over") = false := by decide +kernel
    have d_tu : decide (("throw" : Str) = "under") = false := by decide +kernel
    have d_tw : decide (("throw" : Str) = "write") = false := by decide +kernel
    have d_tt : decide (("throw" : Str) = "throw") = true := decide_eq_true rfl
    generalize hpb : pbeh path ps (w, f, t).1 (w, f, t).2.1 (w, f, t).2.2 k = pb
    have hpb : pbeh path ps w f t k = pb := hpb
    unfold pbeh at hpb
    rcases hw with ⟨hw, ht, hne⟩ | ⟨hw, ht3⟩
    · have ht : t < n := ht
      have hmt : t < (ps.map papD).length := by rw [List.length_map, hpl]; exact ht
      rcases hw with e | e
      · have e : w = "over" := e
        subst e
        rw [if_pos rfl] at hpb
        rw [d_oo]
        walk_at "v"
        refine g_ret1 (pap_at (by rw [hpl]; exact hf)) ?_
        walk_at "v"
        rw [isNon_pap]
        cases hn : (ps.getD f none).isNone with
        | false =>
          rw [if_pos hn] at hpb
          walk_at "v"
          refine g_ret1 (pap_at (by rw [hpl]; exact hf)) ?_
          walk_at "v"
          refine ⟨_, _, rfl, ixN_nat hmt, ?_⟩
          rw [set_pap, hpb]
          walk_at "v"
          rw [d_ou]
          walk_at "v"
          rw [d_ow]
          walk_at "v"
          rw [d_ot]
          walk_at "v"
          exact ⟨hal, some (.val (.int (k : Nat))), some (.val (.str "over")), some (.val (.int (f : Nat))), some (.val (.int (t : Nat))), rfl, rfl⟩
        | true =>
          rw [if_neg (by rw [hn]; decide)] at hpb
          subst hpb
          walk_at "v"
          rw [d_ou]
          walk_at "v"
          rw [d_ow]
          walk_at "v"
          rw [d_ot]
          walk_at "v"
          exact ⟨hal, some (.val (.int (k : Nat))), some (.val (.str "over")), some (.val (.int (f : Nat))), some (.val (.int (t : Nat))), rfl, rfl⟩
      · have e : w = "under" := e
        subst e
        rw [if_neg (by decide +kernel), if_pos rfl] at hpb
        rw [d_uo]
        walk_at "v"
        rw [d_uu]
        walk_at "v"
        refine g_ret1 (pap_at (by rw [hpl]; exact ht)) ?_
        walk_at "v"
        rw [isNon_pap]
        cases hn : (ps.getD t none).isNone with
        | true =>
          rw [if_pos hn] at hpb
          walk_at "v"
          refine g_ret1 (pap_at (by rw [hpl]; exact hf)) ?_
          walk_at "v"
          refine ⟨_, _, rfl, ixN_nat hmt, ?_⟩
          rw [set_pap, hpb]
          walk_at "v"
          rw [d_uw]
          walk_at "v"
          rw [d_ut]
          walk_at "v"
          exact ⟨hal, some (.val (.int (k : Nat))), some (.val (.str "under")), some (.val (.int (f : Nat))), some (.val (.int (t : Nat))), rfl, rfl⟩
        | false =>
          rw [if_neg (by rw [hn]; decide)] at hpb
          subst hpb
          walk_at "v"
          rw [d_uw]
          walk_at "v"
          rw [d_ut]
          walk_at "v"
          exact ⟨hal, some (.val (.int (k : Nat))), some (.val (.str "under")), some (.val (.int (f : Nat))), some (.val (.int (t : Nat))), rfl, rfl⟩
    · rcases hw with e | e
      · have e : w = "write" := e
        subst e
        rw [if_neg (by decide +kernel), if_neg (by decide +kernel)] at hpb
        rw [d_wo]
        walk_at "v"
        rw [d_wu]
        walk_at "v"
        rw [d_ww]
        walk_at "v"
        by_cases hp : t = path
        · subst hp
          rw [if_neg (by simp)] at hpb
          rw [if_pos rfl] at hpb
          rw [decide_eq_true rfl]
          walk_at "v"
          refine ⟨_, _, rfl, ixN_nat hmf, ?_⟩
          rw [show (ps.map papD).set f (.tuple [.str "written", .int (k : Nat)]) = (ps.set f (some (.w k))).map papD from set_pap (o := some (.w k)), hpb]
          walk_at "v"
          rw [d_wt]
          walk_at "v"
          exact ⟨hal, some (.val (.int (k : Nat))), some (.val (.str "write")), some (.val (.int (f : Nat))), some (.val (.int (t : Nat))), rfl, rfl⟩
        · rw [if_pos hp] at hpb
          subst hpb
          rw [decide_eq_false (by omega)]
          walk_at "v"
          rw [d_wt]
          walk_at "v"
          exact ⟨hal, some (.val (.int (k : Nat))), some (.val (.str "write")), some (.val (.int (f : Nat))), some (.val (.int (t : Nat))), rfl, rfl⟩
      · have e : w = "throw" := e
        subst e
        rw [if_neg (by decide +kernel), if_neg (by decide +kernel)] at hpb
        rw [d_to]
        walk_at "v"
        rw [d_tu]
        walk_at "v"
        rw [d_tw]
        walk_at "v"
        rw [d_tt]
        walk_at "v"
        by_cases hp : t = path
        · subst hp
          rw [if_neg (by simp)] at hpb
          rw [if_neg (by decide +kernel)] at hpb
          rw [decide_eq_true rfl]
          walk_at "v"
          refine ⟨_, _, rfl, ixN_nat hmf, ?_⟩
          rw [show (ps.map papD).set f PyData.none = (ps.set f (none)).map papD from set_pap (o := none), hpb]
          walk_at "v"
          exact ⟨hal, some (.val (.int (k : Nat))), some (.val (.str "throw")), some (.val (.int (f : Nat))), some (.val (.int (t : Nat))), rfl, rfl⟩
        · rw [if_pos hp] at hpb
          subst hpb
          rw [decide_eq_false (by omega)]
          walk_at "v"
          exact ⟨hal, some (.val (.int (k : Nat))), some (.val (.str "throw")), some (.val (.int (f : Nat))), some (.val (.int (t : Nat))), rfl, rfl⟩
  · rintro e fu' ⟨x6, x7, x8, x9, rfl, rfl⟩
    rw [hlen, Nat.zero_add]
    walk_at "v"
    exact h
end
end DL
namespace DL
open PySem PySem.Spec PyProof.Rows L2
local macro_rules | `(tactic| walk_at "v1") => `(tactic| first
  | with_reducible refine' g_seq ?_
  | with_reducible refine' g_nx ?_
  | with_reducible refine' g_set ?_
  | with_reducible refine' g_c ?_
  | ((with_reducible refine' g_var (d := ?d) ?h ?k); (case h => exact rfl))
  | with_reducible refine' g_cons ?_
  | with_reducible refine' g_nil ?_
  | ((with_reducible refine' g_call ?_))
  | ((with_reducible refine' g_callK ?_))
  | ((with_reducible refine' g_callL ?_))
  | with_reducible refine' g_callD ?_
  | with_reducible refine' g_bin ?_
  | with_reducible refine' g_un ?_
  | with_reducible refine' g_ret ?_
  | with_reducible refine' g_retN ?_
  | with_reducible refine' g_retL ?_
  | with_reducible refine' g_rl ?_
  | with_reducible refine' g_dfL ?_
  | with_reducible refine' g_dlL ?_
  | with_reducible refine' g_dlX ?_
  | with_reducible refine' g_lpL ?_
  | with_reducible refine' g_trL ?_
  | with_reducible refine' g_suL ?_
  | ((with_reducible refine' g_retO (es := ?es) ?h ?k); (case h => exact rfl))
  | ((with_reducible refine' g_retOv (d := ?d) ?h ?k); (case h => exact rfl))
  | with_reducible refine' g_dfR ?_
  | with_reducible refine' g_dfN ?_
  | with_reducible refine' g_dfX ?_
  | with_reducible refine' g_rt ?_
  | with_reducible refine' g_bk ?_
  | with_reducible refine' g_ct ?_
  | with_reducible refine' g_ex ?_
  | with_reducible refine' g_lpN ?_
  | with_reducible refine' g_lpC ?_
  | with_reducible refine' g_lpB ?_
  | with_reducible refine' g_lpR ?_
  | with_reducible refine' g_lpX ?_
  | with_reducible refine' g_trN ?_
  | with_reducible refine' g_trR ?_
  | with_reducible refine' g_trX ?_
  | with_reducible refine' g_suN ?_
  | with_reducible refine' g_suR ?_
  | with_reducible refine' g_try ?_
  | with_reducible refine' g_hd0 ?_
  | ((with_reducible refine' g_hdY ?h ?k); (case h => rfl))
  | ((with_reducible refine' g_hdN ?h ?k); (case h => rfl))
  | with_reducible refine' g_raise ?_
  | with_reducible refine' g_if ?_
  | with_reducible refine' g_tru ?_
  | with_reducible refine' g_blT ?_
  | with_reducible refine' g_andT ?_
  | with_reducible refine' g_orT ?_
  | with_reducible refine' g_notT ?_
  | with_reducible refine' g_yes ?_
  | with_reducible refine' g_and ?_
  | with_reducible refine' g_or ?_
  | with_reducible refine' g_not ?_
  | with_reducible refine' g_ife ?_
  | with_reducible refine' g_chain ?_
  | with_reducible refine' g_isi ?_
  | with_reducible refine' g_truB ?_
  | with_reducible refine' g_truI ?_
  | with_reducible refine' g_truN ?_
  | with_reducible refine' g_truT ?_
  | with_reducible refine' g_truL ?_
  | with_reducible refine' g_tup ?_
  | with_reducible refine' g_disp ?_
  | with_reducible refine' g_lst ?_
  | with_reducible refine' g_list ?_
  | with_reducible refine' g_iter ?_
  | with_reducible refine' g_itT ?_
  | with_reducible refine' g_itL ?_
  | with_reducible refine' g_elT ?_
  | with_reducible refine' g_elL ?_
  | with_reducible refine' g_rng ?_
  | with_reducible refine' g_setO ?_
  | with_reducible refine' g_drop ?_
  | with_reducible refine' g_pass ?_
  | with_reducible refine' g_brk ?_
  | with_reducible refine' g_ct' ?_
  | with_reducible refine' g_asg ?_
  | with_reducible refine' g_tName ?_
  | ((with_reducible refine' g_tTup ?h ?k); (case h => rfl))
  | with_reducible refine' g_tCons ?_
  | with_reducible refine' g_tNil ?_
  | ((with_reducible refine' g_frz (e := ?e) ?h ?k); (case h => exact rfl))
  | ((with_reducible refine' g_app (es := ?es) ?h ?k); (case h => exact rfl))
  | with_reducible refine' g_put ?_
  | with_reducible refine' g_par ?_
  | ((with_reducible refine' g_aug (x := ?x) ?h ?k); (case h => exact rfl))
  | with_reducible refine' g_for ?_
  | with_reducible refine' g_sl ?_
  | with_reducible refine' g_noPart ?_
  | with_reducible refine' g_part ?_
  | with_reducible refine' g_rep ?_
  | ((with_reducible refine' g_ownLen (es := ?es) ?h ?k); (case h => exact rfl))
  | ((with_reducible refine' g_ownTup (es := ?es) ?h ?k); (case h => exact rfl))
  | ((with_reducible refine' g_ownTupV (d := ?d) ?h ?k); (case h => exact rfl))
  | ((with_reducible refine' g_ownInF (es := ?es) ?h ?k); (case h => exact rfl))
  | ((with_reducible refine' g_ownInT (es := ?es) ?h ?k); (case h => exact rfl))
  | ((with_reducible refine' g_ownEqF (es := ?es) ?h ?k); (case h => exact rfl))
  | ((with_reducible refine' g_ownEqT (es := ?es) ?h ?k); (case h => exact rfl))
  | ((with_reducible refine' g_ownIsi (es := ?es) ?h ?k); (case h => exact rfl))
  | ((with_reducible refine' g_ownIt (es := ?es) ?h ?k); (case h => exact rfl))
  | ((with_reducible refine' g_ownIx (es := ?es) ?h ?k); (case h => exact rfl))
  | with_reducible refine' g_addI ?_
  | with_reducible refine' g_addII ?_
  | with_reducible refine' g_subII ?_
  | with_reducible refine' g_sub ?_
  | ((with_reducible refine' g_mod ?h ?k); (case h => first | decide | omega))
  | ((with_reducible refine' g_div ?h ?k); (case h => first | decide | omega))
  | ((with_reducible refine' g_mul ?h ?k); (case h => first | decide | omega))
  | ((with_reducible refine' g_pow ?h ?k); (case h => decide))
  | with_reducible refine' g_neg ?_
  | with_reducible refine' g_lt ?_
  | with_reducible refine' g_le ?_
  | with_reducible refine' g_gt ?_
  | with_reducible refine' g_ge ?_
  | with_reducible refine' g_ltS ?_
  | with_reducible refine' g_leS ?_
  | with_reducible refine' g_eqI ?_
  | with_reducible refine' g_neI ?_
  | with_reducible refine' g_eqB ?_
  | with_reducible refine' g_neB ?_
  | with_reducible refine' g_eqS ?_
  | with_reducible refine' g_neS ?_
  | with_reducible refine' g_isN ?_
  | with_reducible refine' g_isNot ?_
  | with_reducible refine' g_isB ?_
  | with_reducible refine' g_lenT ?_
  | with_reducible refine' g_lenL ?_
  | with_reducible refine' g_lenScr ?_
  | with_reducible refine' g_ixL ?_
  | with_reducible refine' g_ixT ?_
  | with_reducible refine' g_ix0 ?_
  | with_reducible refine' g_ix1 ?_
  | with_reducible refine' g_ix2 ?_
  | with_reducible refine' g_ix3 ?_
  | with_reducible refine' g_maxI ?_
  | with_reducible refine' g_minI ?_
  | with_reducible refine' g_absI ?_
  | with_reducible refine' g_intI ?_
  | with_reducible refine' g_intB ?_
  | with_reducible refine' g_tupL ?_
  | with_reducible refine' g_tupT ?_
  | with_reducible refine' g_slT ?_
  | with_reducible refine' g_slL ?_
  | ((with_reducible refine' g_isiI ?h ?k); (case h => first | rfl | assumption))
  | ((with_reducible refine' g_isiB ?h ?k); (case h => first | rfl | assumption))
  | ((with_reducible refine' g_isiS ?h ?k); (case h => first | rfl | assumption))
  | ((with_reducible refine' g_isiT ?h ?k); (case h => first | rfl | assumption))
  | ((with_reducible refine' g_isiL ?h ?k); (case h => first | rfl | assumption))
  | with_reducible refine' g_fmt ?_
  | with_reducible refine' g_js0 ?_
  | with_reducible refine' g_js ?_
  | with_reducible refine' g_rr ?_
  | with_reducible refine' iteT ?_
  | with_reducible refine' iteF ?_
  | with_reducible refine' iteNF ?_
  | with_reducible refine' iteNT ?_
  | with_reducible refine' ⟨_, rfl, ?_⟩
  | ((with_reducible refine' And.intro (a := _ ≤ 16777216) ?h ?k); (case h => first | decide | (simp only [List.length_cons, List.length_nil]; omega) | (simp; omega)))
  | ((with_reducible refine' And.intro (a := List.length _ = _) ?h ?k); (case h => rfl))
  )
local macro_rules | `(tactic| walk_at "v") => `(tactic| repeat (walk_at "v1"))
local macro_rules | `(tactic| walk_at "w") => `(tactic| repeat (first
  | with_reducible refine' g_seq ?_
  | with_reducible refine' g_nx ?_))
section
variable {env : Env} {fu : Nat} {E : Nat → Er → Prop} {QO : Nat → Out → Prop} {QD Q : Nat → D → Prop} {QB : Nat → Bool → Prop} {QL : Nat → List D → Prop} {i j lo hi : Int} {d x y z : D} {ds es : List D} {b c : Bool} {s t : Str}
structure Imp (QO' QO : Nat → Out → Prop) : Prop where
  h : ∀ fu o, QO' fu o → QO fu o
theorem g_gen {QO' : Nat → Out → Prop} {E' : Nat → Er → Prop} {m : R Out} (h : ∀ (QO : Nat → Out → Prop) (E : Nat → Er → Prop), Imp QO' QO → m.go fu QO E) : m.go fu QO' E' := h QO' E' ⟨fun _ _ h => h⟩
theorem ne_same {ds : List D} (h : SeqAt.shaped (.tuple ds) = true) : gNe (.tuple ds) (.tuple ds) = .ret (.bool false) := by
  show guard' (SeqAt.shaped (.tuple ds) && SeqAt.shaped (.tuple ds)) (R.ret (PyData.bool (!PyData.eqv (.tuple ds) (.tuple ds)))) = _
  rw [h, SeqAt.eqv_refl _ (SeqAt.canLay_of_shaped h)]; rfl
theorem shaped_paps (ps : List (Option Sc)) : SeqAt.shaped (papsD ps) = true := shapedT_of fun d hd => by
  obtain ⟨o, _, rfl⟩ := List.mem_map.mp hd
  cases o with
  | none => exact ⟨rfl, by show PyData.depth .none ≤ 60; simp [PyData.depth]⟩
  | some s => exact ⟨canLay_sc s, by have := depth_sc s; show PyData.depth s.d ≤ 60; omega⟩
theorem ne_paps (ps : List (Option Sc)) : gNe (papsD ps) (papsD ps) = .ret (.bool false) := ne_same (shaped_paps ps)
theorem good_deed {n : Int} {m : Nat} (hn : n = m) {d : D} (h : Good n d) : ∃ q, d = deedD q ∧ DeedOk m q := by
  subst hn
  obtain ⟨w, f, t, rfl, hw, h1, h2, h3, h4, h5⟩ := h
  obtain ⟨f, rfl⟩ := Int.eq_ofNat_of_zero_le h1
  obtain ⟨t, rfl⟩ := Int.eq_ofNat_of_zero_le h3
  refine ⟨(w, f, t), rfl, ?_⟩
  have h5 : (isFold m (.int (f : Nat)) && (if isWord (.str w) ["over", "under"] then isFold m (.int (t : Nat)) && neInt (.int (f : Nat)) (.int (t : Nat)) else isWord (.str w) ["write", "throw"] && isWh (.int (t : Nat)) 0 3)) = true := h5
  rw [Bool.and_eq_true] at h5
  obtain ⟨a1, a2⟩ := h5
  have a1 : (decide (0 ≤ (f : Int)) && decide ((f : Int) ≤ m - 1)) = true := a1
  simp only [Bool.and_eq_true, decide_eq_true_eq] at a1
  refine ⟨show f < m by omega, ?_⟩
  have hw' : (w = "over" ∨ w = "under") ∨ (w = "write" ∨ w = "throw") := by
    rcases hw with e | e | e | e
    · exact .inl (.inl e)
    · exact .inl (.inr e)
    · exact .inr (.inl e)
    · exact .inr (.inr e)
  rcases hw' with hw | hw
  · have e3 : isWord (.str w) ["over", "under"] = true := by rcases hw with h | h <;> subst h <;> decide +kernel
    rw [e3, if_pos rfl, Bool.and_eq_true] at a2
    obtain ⟨b1, b2⟩ := a2
    have b1 : (decide (0 ≤ (t : Int)) && decide ((t : Int) ≤ m - 1)) = true := b1
    have b2 : (!decide ((f : Int) = t)) = true := b2
    simp only [Bool.and_eq_true, decide_eq_true_eq, Bool.not_eq_true', decide_eq_false_iff_not] at b1 b2
    exact .inl ⟨hw, show t < m by omega, show f ≠ t by omega⟩
  · have e3 : isWord (.str w) ["over", "under"] = false := by rcases hw with h | h <;> subst h <;> decide +kernel
    rw [e3, if_neg (by decide), Bool.and_eq_true] at a2
    obtain ⟨b1, b2⟩ := a2
    have b2 : (decide (0 ≤ (t : Int)) && decide ((t : Int) ≤ 3)) = true := b2
    simp only [Bool.and_eq_true, decide_eq_true_eq] at b2
    exact .inr ⟨hw, show t ≤ 3 by omega⟩
theorem good_deeds {n : Int} {m : Nat} (hn : n = m) : ∀ {ds : List D}, (∀ d ∈ ds, Good n d) → ∃ qs : List (Str × Nat × Nat), ds = qs.map deedD ∧ ∀ q ∈ qs, DeedOk m q
  | [], _ => ⟨[], rfl, fun q hq => by cases hq⟩
  | d :: ds, h => by
    obtain ⟨q, rfl, h1⟩ := good_deed hn (h d List.mem_cons_self)
    obtain ⟨qs, rfl, h2⟩ := good_deeds hn fun x hx => h x (List.mem_cons_of_mem _ hx)
    refine ⟨q :: qs, rfl, fun x hx => ?_⟩
    rcases List.mem_cons.mp hx with rfl | hx
    · exact h1
    · exact h2 x hx
/-- all contents -/
def allC : Nat → List (List Nat)
  | 0 => [[]]
  | k + 1 => allC k ++ (allC k).map (· ++ [k])
theorem allC_len : ∀ k, (allC k).length = 2 ^ k
  | 0 => rfl
  | k + 1 => by
    unfold allC
    rw [List.length_append, List.length_map, allC_len k, Nat.pow_succ]; omega
theorem allC_ok : ∀ k, k ≤ 1000 → ∀ c ∈ allC k, c.length ≤ k ∧ (∀ x ∈ c, x < k) ∧ c.Pairwise (· < ·)
  | 0, _, c, h => by
    rw [List.mem_singleton.mp h]
    exact ⟨Nat.le_refl _, fun x hx => (by cases hx), List.Pairwise.nil⟩
  | k + 1, hk, c, h => by
    unfold allC at h
    rcases List.mem_append.mp h with h | h
    · obtain ⟨h1, h2, h3⟩ := allC_ok k (by omega) c h
      exact ⟨by omega, fun x hx => Nat.lt_succ_of_lt (h2 x hx), h3⟩
    · obtain ⟨c', hc, rfl⟩ := List.mem_map.mp h
      obtain ⟨h1, h2, h3⟩ := allC_ok k (by omega) c' hc
      refine ⟨by simp; omega, fun x hx => ?_, ?_⟩
      · rcases List.mem_append.mp hx with hx | hx
        · exact Nat.lt_succ_of_lt (h2 x hx)
        · rw [List.mem_singleton.mp hx]; omega
      · refine List.pairwise_append.mpr ⟨h3, by simp, fun x hx y hy => ?_⟩
        rw [List.mem_singleton.mp hy]; exact h2 x hx
theorem a_law_contents {n : Nat} (hn : n ≤ 6) (h : QD fu (.list ((allC n).map contD))) : (F_law_contents [.int (n : Nat)]).go fu QD E := by
  refine g_def rfl ?_
  unfold B_law_contents
  walk_at "v"
  refine ⟨0, n, .inl ⟨rfl, rfl⟩, rng_ok (by omega), ?_⟩
  have hlen : (rngD 0 (n : Int)).length = n := by rw [rngD_nat, List.length_map, List.length_range]
  refine g_loopI (fun k fu' e => ∃ (x2 : Option DV), e = [some (.val (.int (n : Nat))), some (.val (.list ((allC k).map contD))), x2, none] ∧ fu' = fu) _ 0 _ _ ⟨none, rfl, rfl⟩ ?_ ?_
  · rintro k d e fu' hk hdk ⟨x2, rfl, rfl⟩
    rw [Nat.sub_zero, rngD_nat, List.getElem?_map] at hdk
    have hkl : k < n := by
      by_cases q : k < n
      · exact q
      · rw [List.getElem?_eq_none (by rw [List.length_range]; omega)] at hdk; cases hdk
    rw [List.getElem?_range hkl] at hdk
    obtain rfl : d = .int (k : Nat) := by cases hdk; rfl
    have hcl := allC_len k
    have h64 : 2 ^ k ≤ 64 := by
      have : k = 0 ∨ k = 1 ∨ k = 2 ∨ k = 3 ∨ k = 4 ∨ k = 5 := by omega
      rcases this with r | r | r | r | r | r <;> subst r <;> decide
    refine g_body ?_
    walk_at "v"
    refine g_comp ?_
    walk_at "v"
    refine g_compM contD (fun c => contD (c ++ [k])) (fun c hc fu QX hq => g_item ?_) ?_
    · have hcl := (allC_ok k (by omega) c hc).1
      unfold contD at hq ⊢
      walk_at "v"
      refine g_addT (by simp; omega) ?_
      walk_at "v"
      rw [List.map_append] at hq
      exact hq
    · have e : (allC k).map (fun c => contD (c ++ [k])) = ((allC k).map (· ++ [k])).map contD := by rw [List.map_map]; rfl
      rw [e]
      refine g_addL (by simp only [List.length_map]; omega) ?_
      rw [← List.map_append]
      walk_at "v"
      first | exact ⟨rfl, rfl⟩ | exact ⟨some (.val (.int (k : Nat))), rfl, rfl⟩ | exact rfl
  · rintro e fu' ⟨x2, rfl, rfl⟩
    rw [hlen, Nat.zero_add]
    walk_at "v"
    exact h
theorem a_law_first {c : List Nat} {r : List Sc} (h : QD fu (papD (r.find? (there c)))) : (F_law_first [rowD r, contD c]).go fu QD E := by
  show (F_first_there [rowD r, contD c]).go fu QD E
  exact a_first_there h
theorem deed_repr {n : Nat} (hn : n ≤ 6) {qs : List (Str × Nat × Nat)} (hl : qs.length ≤ 30) (hq : ∀ q ∈ qs, DeedOk n q) : reprOk (.tuple (qs.map deedD)) = true := by
  have key : ∀ d ∈ qs.map deedD, fitD d = true ∧ wt d ≤ 200 ∧ PyData.depth d ≤ 2 := fun d hd => by
    obtain ⟨⟨w, f, t⟩, hm, rfl⟩ := List.mem_map.mp hd
    obtain ⟨h1, h2⟩ := hq _ hm
    have h1 : f < n := h1
    have ht : t ≤ 5 := by
      rcases h2 with ⟨_, a, _⟩ | ⟨_, a⟩
      · have a : t < n := a; omega
      · have a : t ≤ 3 := a; omega
    have hw : w = "over" ∨ w = "under" ∨ w = "write" ∨ w = "throw" := by
      rcases h2 with ⟨a | a, _⟩ | ⟨a | a, _⟩
      · exact .inl a
      · exact .inr (.inl a)
      · exact .inr (.inr (.inl a))
      · exact .inr (.inr (.inr a))
    have hf : f = 0 ∨ f = 1 ∨ f = 2 ∨ f = 3 ∨ f = 4 ∨ f = 5 := by omega
    have ht : t = 0 ∨ t = 1 ∨ t = 2 ∨ t = 3 ∨ t = 4 ∨ t = 5 := by omega
    have kw : fitD (.str w) = true ∧ wt (.str w) ≤ 60 := by rcases hw with r | r | r | r <;> subst r <;> decide +kernel
    have kf : fitD (.int (f : Nat)) = true ∧ wt (.int (f : Nat)) ≤ 6 := by rcases hf with r | r | r | r | r | r <;> subst r <;> decide +kernel
    have kt : fitD (.int (t : Nat)) = true ∧ wt (.int (t : Nat)) ≤ 6 := by rcases ht with r | r | r | r | r | r <;> subst r <;> decide +kernel
    unfold deedD
    refine ⟨?_, ?_, ?_⟩
    · simp only [fitD, fitAll] at kw kf kt ⊢
      rw [kw.1, kf.1, kt.1]; rfl
    · simp only [wt, wtAll] at kw kf kt ⊢
      omega
    · simp only [PyData.depth, PyData.depthAll]
      omega
  refine reprOk_of ?_ ?_ ?_
  · simp only [fitD]; exact fitAll_of fun x hx => (key x hx).1
  · have := depthAll_le (k := 2) fun x hx => (key x hx).2.2
    simp only [PyData.depth]; omega
  · have := wtAll_le (k := 200) fun x hx => (key x hx).2.1
    simp only [wt, List.length_map] at this ⊢; omega
theorem a_body {ns : List Int} {j : Int} (h0 : 0 ≤ j) (h1 : j ≤ 10) (x2 x3 x4 x5 x6 x7 x8 x9 x10 : Option DV) (hf : 300 ≤ fu)
    (h : ∀ (y2 y3 y4 y5 y6 y7 y8 y9 y10 : Option DV) fu', fu ≤ fu' + 300 → QO fu' (.nx [some (.val (scrD ns)), some (.val (.int j)), y2, y3, y4, y5, y6, y7, y8, y9, y10, none])) :
    ((seqS (setS 2 (callF 2 F_law_open (consA (varD 0) (consA (varD 1) nilA))))
    (seqS (setS 3 (callF 1 F_law_size (consA (varD 2) nilA)))
    (seqS (setS 4 (callF 4 F_law_script (consA (varD 2) (consA (varD 3) (consA (cD (.int 8)) (consA (lstD (dispL (consA (cD (.str "over")) (consA (cD (.str "over")) (consA (cD (.str "under")) (consA (cD (.str "under")) (consA (cD (.str "write")) (consA (cD (.str "throw")) nilA)))))))) nilA))))))
    (seqS (setS 5 (callF 2 F_law_draw (consA (varD 2) (consA (cD (.int 4)) nilA))))
    (seqS (setS 6 (callF 3 F_lists_of (consA (varD 3) (consA (varD 4) (consA (varD 5) nilA)))))
    (seqS (setS 7 (callD gRepr (consA (varD 4) nilA)))
    (seqS (forS (iterF (callF 1 F_law_contents (consA (varD 3) nilA))) (tName 8)
    (seqS (setS 9 (bin gIx (callF 4 F_law_papers (consA (varD 3) (consA (varD 4) (consA (varD 5) (consA (varD 8) nilA))))) (un gNeg (cD (.int 1)))))
    (seqS (setS 10 (callF 4 F_papers_at (consA (varD 3) (consA (varD 4) (consA (varD 5) (consA (varD 8) nilA))))))
    (seqS (ifS (orT (notT (truT (isiD "tuple" (varD 10)))) (blT (bin gNe (varD 10) (varD 9))))
    (retS (cD (.bool false)))
    passS)
    (ifS (blT (bin gNe (varD 10) (callD gTuple (consA (lstD (compD (iterF (varD 6)) (tName 11) yesT (callF 2 F_law_first (consA (varD 11) (consA (varD 8) nilA))) [11])) nilA))))
    (retS (cD (.bool false)))
    passS)))))
    (seqS (ifS (blT (bin gNe (callK 4 F_papers_at [(false, 0), (false, 1), (false, 2), (false, 3)] nilA (consA (varD 3) (consA (varD 4) (consA (varD 5) (consA (tupD (consA (cD (.int 0)) nilA)) nilA))))) (callF 4 F_papers_at (consA (varD 3) (consA (varD 4) (consA (varD 5) (consA (tupD (consA (cD (.int 0)) nilA)) nilA)))))))
    (retS (cD (.bool false)))
    passS)
    (ifS (blT (bin gNe (callD gRepr (consA (varD 4) nilA)) (varD 7)))
    (retS (cD (.bool false)))
    passS)))))))))
     [some (.val (scrD ns)), some (.val (.int j)), x2, x3, x4, x5, x6, x7, x8, x9, x10, none]).go fu QO E := by
  walk_at "v"
  refine gs_open (by omega) (by omega) ?_
  walk_at "v"
  refine a_law_size (by omega) fun n f1 e1 hn1 hn2 => ?_
  walk_at "v"
  obtain ⟨n, rfl⟩ := Int.eq_ofNat_of_zero_le (show 0 ≤ n by omega)
  refine a_law_script ⟨hn1, hn2⟩ (by decide) ⟨by simp, by decide, ?_⟩ (by omega) fun ds f2 e2 hl1 hl2 hg => ?_
  · intro d hd
    simp only [List.mem_cons, List.not_mem_nil, or_false] at hd
    rcases hd with r | r | r | r | r | r <;> subst r
    · exact ⟨_, rfl, .inl rfl⟩
    · exact ⟨_, rfl, .inl rfl⟩
    · exact ⟨_, rfl, .inr (.inl rfl)⟩
    · exact ⟨_, rfl, .inr (.inl rfl)⟩
    · exact ⟨_, rfl, .inr (.inr (.inl rfl))⟩
    · exact ⟨_, rfl, .inr (.inr (.inr rfl))⟩
  walk_at "v"
  obtain ⟨qs, rfl, hqs⟩ := good_deeds rfl hg
  rw [List.length_map] at hl2
  have hn1 : 1 ≤ n := by omega
  have hn2 : n ≤ 6 := by omega
  refine gs_draw (by omega) (by omega) (by omega) fun p f3 e3 a3 b3 => ?_
  walk_at "v"
  obtain ⟨p, rfl⟩ := Int.eq_ofNat_of_zero_le a3
  have W : Work n p qs := ⟨hn1, hn2, by omega, hl2, hqs⟩
  have hrp := deed_repr hn2 hl2 hqs
  refine a_lists_of W ?_
  walk_at "v"
  refine g_repr hrp ?_
  walk_at "v"
  refine a_law_contents hn2 ?_
  walk_at "v"
  refine g_loopI (fun k' fu' e => ∃ y8 y9 y10 : Option DV, e = [some (.val (scrD ns)), some (.val (.int (j))), some (.val deckD), some (.val (.int (n : Nat))), some (.val (.tuple (qs.map deedD))), some (.val (.int (p : Nat))), some (.val (rowsD (rowsAt n p qs))), some (.val (.str (PyData.shown (.tuple (qs.map deedD))))), y8, y9, y10, none] ∧ fu' = f3) _ 0 _ _ ⟨x8, x9, x10, rfl, rfl⟩ ?_ ?_
  · rintro k' d e fu' hk' hd' ⟨y8, y9, y10, rfl, rfl⟩
    rw [Nat.sub_zero, List.getElem?_map] at hd'
    obtain ⟨c, hc, rfl⟩ : ∃ c, (allC n)[k']? = some c ∧ d = contD c := by
      cases q : (allC n)[k']? with
      | none => rw [q] at hd'; cases hd'
      | some c => rw [q] at hd'; cases hd'; exact ⟨c, rfl, rfl⟩
    have hco := allC_ok n (by omega) c (List.mem_of_getElem? hc)
    have hcok : ContOk n c := ⟨by omega, hco.2⟩
    refine g_body ?_
    walk_at "v"
    refine a_law_papers W ?_
    walk_at "v"
    refine g_ret1 (ixL_last papAlong_last) ?_
    walk_at "v"
    refine a_papers_at W hcok ?_
    walk_at "v"
    rw [show (!isTupD (papsD (papersOf c (rowsAt n p qs)))) = false from rfl]
    walk_at "v"
    refine g_ret1 (ne_paps (papersOf c (rowsAt n p qs))) ?_
    walk_at "v"
    have hrl : (rowsAt n p qs).length ≤ 1000 := by rw [show (rowsAt n p qs).length = n from (thru_ok W.deeds qs.length).len]; omega
    unfold rowsD
    refine g_comp ?_
    walk_at "v"
    refine g_compM rowD (fun r => papD (r.find? (there c))) (fun r hr fu QX hq => g_item ?_) ?_
    · walk_at "v"
      refine a_law_first ?_
      walk_at "v"
      exact hq
    · walk_at "v"
      have e : (rowsAt n p qs).map (fun r => papD (r.find? (there c))) = (papersOf c (rowsAt n p qs)).map papD := by unfold papersOf; rw [List.map_map]; rfl
      rw [e]
      refine g_ret1 (ne_paps (papersOf c (rowsAt n p qs))) ?_
      walk_at "v"
      first
        | exact ⟨_, _, _, rfl, rfl⟩
        | exact ⟨rfl, rfl⟩
  · rintro e fu' ⟨y8, y9, y10, rfl, rfl⟩
    walk_at "v"
    have hc0 : ContOk n [0] := ⟨by decide, fun x hx => by rw [List.mem_singleton.mp hx]; omega, by simp⟩
    refine a_papers_at (c := [0]) W hc0 ?_
    walk_at "v"
    refine a_papers_at (c := [0]) W hc0 ?_
    walk_at "v"
    refine g_ret1 (ne_paps (papersOf [0] (rowsAt n p qs))) ?_
    walk_at "v"
    refine g_repr hrp ?_
    walk_at "v"
    refine v_cn (fun e => ?_) (fun e => ?_)
    · exact absurd rfl (of_decide_eq_false e)
    walk_at "v"
    exact h _ _ _ _ _ _ _ _ _ _ (by omega)
theorem law_go (ns : List Int) (h : ns.length ≤ 63) : (F_law [scrD ns]).go 576460752303423488 (fun _ d => d = .bool true) (fun _ _ => False) := by
  refine g_def rfl ?_
  unfold B_law
  walk_at "v"
  generalize hm : (if (if (ns.length : Int) < 5 then (ns.length : Int) else 5) > 1 then (if (ns.length : Int) < 5 then (ns.length : Int) else 5) else 1) = m
  have hm2 : 1 ≤ m ∧ m ≤ 5 := by clear h; rw [← hm]; split <;> split <;> omega
  clear hm
  refine ⟨0, m, .inl ⟨rfl, rfl⟩, by unfold rngOk; exact decide_eq_true (by omega), ?_⟩
  have hlen : (rngD 0 m).length = m.toNat := by unfold rngD; rw [List.length_map, List.length_range]; congr 1; omega
  refine g_loopI (fun k fu e => ∃ x1 x2 x3 x4 x5 x6 x7 x8 x9 x10 : Option DV, e = [some (.val (scrD ns)), x1, x2, x3, x4, x5, x6, x7, x8, x9, x10, none] ∧ 576460752303423488 ≤ fu + 300 * k ∧ k ≤ m.toNat) _ 0 _ _ ⟨none, none, none, none, none, none, none, none, none, none, rfl, by omega, by omega⟩ ?_ ?_
  · rintro k d e fu hk hd ⟨x1, x2, x3, x4, x5, x6, x7, x8, x9, x10, rfl, hfu, hkm⟩
    have hk2 := (List.getElem?_eq_some_iff.mp hd).1
    rw [hlen] at hk2
    obtain ⟨rfl⟩ : d = .int (0 + (k : Nat)) := by
      unfold rngD at hd
      rw [List.getElem?_map, List.getElem?_range (by omega)] at hd
      simp at hd
      rw [← hd]; simp
    refine g_body ?_
    refine g_tName ?_
    refine a_body (by omega) (by omega) _ _ _ _ _ _ _ _ _ (by omega) fun y2 y3 y4 y5 y6 y7 y8 y9 y10 fu' hf' => ?_
    exact ⟨_, _, _, _, _, _, _, _, _, _, rfl, by omega, by omega⟩
  · rintro e fu ⟨x1, x2, x3, x4, x5, x6, x7, x8, x9, x10, rfl, hfu, hkm⟩
    walk_at "v"
    rfl
theorem law_true (ns : List Int) (h : ns.length ≤ 63) : (F_law [scrD ns]).wp 576460752303423488 (fun _ d => d = .bool true) (fun _ _ => False) := R.go_wp (law_go ns h)
end
end DL
namespace DL
open PySem PySem.Spec PyProof.Rows L2
theorem kbp_kb_papers_at_0_size_script_path_contents {K : PySem.W.Frag} (fd : FuncData) (h : ∀ (s : Shared) (w0 w1 w2 w3 : Value), BindsTo s fd ⟨[], [("size", w0), ("script", w1), ("path", w2), ("contents", w3)]⟩ [("size", w0), ("script", w1), ("path", w2), ("contents", w3)]) : KBinds K fd ["size", "script", "path", "contents"] ["size", "script", "path", "contents"] (gP [(false, 0), (false, 1), (false, 2), (false, 3)]) (gP [(false, 0), (false, 1), (false, 2), (false, 3)]) := by
  refine kb_mk fd [(false, 0), (false, 1), (false, 2), (false, 3)] fun s us ws hl => ?_
  unfold gP at hl ⊢
  split at hl
  · rename_i hc
    obtain ⟨h1, h2⟩ := hc
    have h1 : us.length = 0 := h1
    have h2 : ws.length = 4 := h2
    match us, ws, h1, h2 with
    | [], [w0, w1, w2, w3], _, _ => exact h s w0 w1 w2 w3
  · cases hl
section
set_option maxHeartbeats 0
theorem all_mk {l : PySem.W.OpenLaw} {w : World} {K : PySem.W.Frag} {h : Heap} {mg : Str → Option Value} {fa : Addr} (X : K.In h) (G : h.Ns mainGlobals mg) (hfa : mg "law" = some (.ref fa))
    {f9 : Addr} {od9 an9 : Option Addr} {sl9 : Array (Option Value)} {oc9 kV9 dc9 pm9 cd9 ct9 : Value} {f10 : Addr} {od10 an10 : Option Addr} {sl10 : Array (Option Value)} {oc10 kV10 dc10 pm10 cd10 ct10 : Value} {f11 : Addr} {od11 an11 : Option Addr} {sl11 : Array (Option Value)} {oc11 kV11 dc11 pm11 cd11 ct11 : Value} {f12 : Addr} {od12 an12 : Option Addr} {sl12 : Array (Option Value)} {oc12 kV12 dc12 pm12 cd12 ct12 : Value} {f13 : Addr} {od13 an13 : Option Addr} {sl13 : Array (Option Value)} {oc13 kV13 dc13 pm13 cd13 ct13 : Value} {f14 : Addr} {od14 an14 : Option Addr} {sl14 : Array (Option Value)} {oc14 kV14 dc14 pm14 cd14 ct14 : Value} {f15 : Addr} {od15 an15 : Option Addr} {sl15 : Array (Option Value)} {oc15 kV15 dc15 pm15 cd15 ct15 : Value} {f16 : Addr} {od16 an16 : Option Addr} {sl16 : Array (Option Value)} {oc16 kV16 dc16 pm16 cd16 ct16 : Value} {f17 : Addr} {od17 an17 : Option Addr} {sl17 : Array (Option Value)} {oc17 kV17 dc17 pm17 cd17 ct17 : Value} {f25 : Addr} {od25 an25 : Option Addr} {sl25 : Array (Option Value)} {oc25 kV25 dc25 pm25 cd25 ct25 : Value} {f22 : Addr} {od22 an22 : Option Addr} {sl22 : Array (Option Value)} {oc22 kV22 dc22 pm22 cd22 ct22 : Value} {f33 : Addr} {od33 an33 : Option Addr} {sl33 : Array (Option Value)} {oc33 kV33 dc33 pm33 cd33 ct33 : Value} {f26 : Addr} {od26 an26 : Option Addr} {sl26 : Array (Option Value)} {oc26 kV26 dc26 pm26 cd26 ct26 : Value} {f31 : Addr} {od31 an31 : Option Addr} {sl31 : Array (Option Value)} {oc31 kV31 dc31 pm31 cd31 ct31 : Value} {f32 : Addr} {od32 an32 : Option Addr} {sl32 : Array (Option Value)} {oc32 kV32 dc32 pm32 cd32 ct32 : Value} {f27 : Addr} {od27 an27 : Option Addr} {sl27 : Array (Option Value)} {oc27 kV27 dc27 pm27 cd27 ct27 : Value} {f28 : Addr} {od28 an28 : Option Addr} {sl28 : Array (Option Value)} {oc28 kV28 dc28 pm28 cd28 ct28 : Value} {f23 : Addr} {od23 an23 : Option Addr} {sl23 : Array (Option Value)} {oc23 kV23 dc23 pm23 cd23 ct23 : Value} {f29 : Addr} {od29 an29 : Option Addr} {sl29 : Array (Option Value)} {oc29 kV29 dc29 pm29 cd29 ct29 : Value} {f30 : Addr} {od30 an30 : Option Addr} {sl30 : Array (Option Value)} {oc30 kV30 dc30 pm30 cd30 ct30 : Value} {f24 : Addr} {od24 an24 : Option Addr} {sl24 : Array (Option Value)} {oc24 kV24 dc24 pm24 cd24 ct24 : Value} {f35 : Addr} {od35 an35 : Option Addr} {sl35 : Array (Option Value)} {oc35 kV35 dc35 pm35 cd35 ct35 : Value} {f36 : Addr} {od36 an36 : Option Addr} {sl36 : Array (Option Value)} {oc36 kV36 dc36 pm36 cd36 ct36 : Value} {f37 : Addr} {od37 an37 : Option Addr} {sl37 : Array (Option Value)} {oc37 kV37 dc37 pm37 cd37 ct37 : Value} {f38 : Addr} {od38 an38 : Option Addr} {sl38 : Array (Option Value)} {oc38 kV38 dc38 pm38 cd38 ct38 : Value} {f39 : Addr} {od39 an39 : Option Addr} {sl39 : Array (Option Value)} {oc39 kV39 dc39 pm39 cd39 ct39 : Value} {f40 : Addr} {od40 an40 : Option Addr} {sl40 : Array (Option Value)} {oc40 kV40 dc40 pm40 cd40 ct40 : Value} {f41 : Addr} {od41 an41 : Option Addr} {sl41 : Array (Option Value)} {oc41 kV41 dc41 pm41 cd41 ct41 : Value} {f42 : Addr} {od42 an42 : Option Addr} {sl42 : Array (Option Value)} {oc42 kV42 dc42 pm42 cd42 ct42 : Value} {f5 : Addr} {f3 : Addr} {f4 : Addr} {f2 : Addr} {q_CHANGES : Addr} {n_CHANGES : Nat} {t_CHANGES_0 : Tok} {t_CHANGES_1 : Tok} {q_COPIES : Addr} {n_COPIES : Nat} {t_COPIES_0 : Tok} {t_COPIES_1 : Tok} {t_LAST_PATH : Tok} {t_MOST_DEEDS : Tok} {t_MOST_FOLDERS : Tok}
    (a9 : PySem.W.nsIn K mainGlobals "is_whole" = some (some (.ref f9))) (l9 : K.lookup f9 = some ⟨oc9, od9, .func (PySem.W.fnOf "is_whole" "is_whole" (defArgs s_is_whole) (defBody s_is_whole) (defScope s_is_whole) .none kV9 dc9 pm9 an9 cd9 ct9), sl9⟩) (c9 : PySem.W.codeIn K cd9 "is_whole" = true) (k9 : PySem.W.keepIn K (.ref f9) = true)
    (a10 : PySem.W.nsIn K mainGlobals "is_word" = some (some (.ref f10))) (l10 : K.lookup f10 = some ⟨oc10, od10, .func (PySem.W.fnOf "is_word" "is_word" (defArgs s_is_word) (defBody s_is_word) (defScope s_is_word) .none kV10 dc10 pm10 an10 cd10 ct10), sl10⟩) (c10 : PySem.W.codeIn K cd10 "is_word" = true) (k10 : PySem.W.keepIn K (.ref f10) = true)
    (a11 : PySem.W.nsIn K mainGlobals "is_rising" = some (some (.ref f11))) (l11 : K.lookup f11 = some ⟨oc11, od11, .func (PySem.W.fnOf "is_rising" "is_rising" (defArgs s_is_rising) (defBody s_is_rising) (defScope s_is_rising) .none kV11 dc11 pm11 an11 cd11 ct11), sl11⟩) (c11 : PySem.W.codeIn K cd11 "is_rising" = true) (k11 : PySem.W.keepIn K (.ref f11) = true)
    (a12 : PySem.W.nsIn K mainGlobals "is_folder" = some (some (.ref f12))) (l12 : K.lookup f12 = some ⟨oc12, od12, .func (PySem.W.fnOf "is_folder" "is_folder" (defArgs s_is_folder) (defBody s_is_folder) (defScope s_is_folder) .none kV12 dc12 pm12 an12 cd12 ct12), sl12⟩) (c12 : PySem.W.codeIn K cd12 "is_folder" = true) (k12 : PySem.W.keepIn K (.ref f12) = true)
    (a13 : PySem.W.nsIn K mainGlobals "is_path" = some (some (.ref f13))) (l13 : K.lookup f13 = some ⟨oc13, od13, .func (PySem.W.fnOf "is_path" "is_path" (defArgs s_is_path) (defBody s_is_path) (defScope s_is_path) .none kV13 dc13 pm13 an13 cd13 ct13), sl13⟩) (c13 : PySem.W.codeIn K cd13 "is_path" = true) (k13 : PySem.W.keepIn K (.ref f13) = true)
    (a14 : PySem.W.nsIn K mainGlobals "is_contents" = some (some (.ref f14))) (l14 : K.lookup f14 = some ⟨oc14, od14, .func (PySem.W.fnOf "is_contents" "is_contents" (defArgs s_is_contents) (defBody s_is_contents) (defScope s_is_contents) .none kV14 dc14 pm14 an14 cd14 ct14), sl14⟩) (c14 : PySem.W.codeIn K cd14 "is_contents" = true) (k14 : PySem.W.keepIn K (.ref f14) = true)
    (a15 : PySem.W.nsIn K mainGlobals "need_size" = some (some (.ref f15))) (l15 : K.lookup f15 = some ⟨oc15, od15, .func (PySem.W.fnOf "need_size" "need_size" (defArgs s_need_size) (defBody s_need_size) (defScope s_need_size) .none kV15 dc15 pm15 an15 cd15 ct15), sl15⟩) (c15 : PySem.W.codeIn K cd15 "need_size" = true) (k15 : PySem.W.keepIn K (.ref f15) = true)
    (a16 : PySem.W.nsIn K mainGlobals "need_path" = some (some (.ref f16))) (l16 : K.lookup f16 = some ⟨oc16, od16, .func (PySem.W.fnOf "need_path" "need_path" (defArgs s_need_path) (defBody s_need_path) (defScope s_need_path) .none kV16 dc16 pm16 an16 cd16 ct16), sl16⟩) (c16 : PySem.W.codeIn K cd16 "need_path" = true) (k16 : PySem.W.keepIn K (.ref f16) = true)
    (a17 : PySem.W.nsIn K mainGlobals "need_contents" = some (some (.ref f17))) (l17 : K.lookup f17 = some ⟨oc17, od17, .func (PySem.W.fnOf "need_contents" "need_contents" (defArgs s_need_contents) (defBody s_need_contents) (defScope s_need_contents) .none kV17 dc17 pm17 an17 cd17 ct17), sl17⟩) (c17 : PySem.W.codeIn K cd17 "need_contents" = true) (k17 : PySem.W.keepIn K (.ref f17) = true)
    (a25 : PySem.W.nsIn K mainGlobals "is_paper_deed" = some (some (.ref f25))) (l25 : K.lookup f25 = some ⟨oc25, od25, .func (PySem.W.fnOf "is_paper_deed" "is_paper_deed" (defArgs s_is_paper_deed) (defBody s_is_paper_deed) (defScope s_is_paper_deed) .none kV25 dc25 pm25 an25 cd25 ct25), sl25⟩) (c25 : PySem.W.codeIn K cd25 "is_paper_deed" = true) (k25 : PySem.W.keepIn K (.ref f25) = true)
    (a22 : PySem.W.nsIn K mainGlobals "is_script" = some (some (.ref f22))) (l22 : K.lookup f22 = some ⟨oc22, od22, .func (PySem.W.fnOf "is_script" "is_script" (defArgs s_is_script) (defBody s_is_script) (defScope s_is_script) .none kV22 dc22 pm22 an22 cd22 ct22), sl22⟩) (c22 : PySem.W.codeIn K cd22 "is_script" = true) (k22 : PySem.W.keepIn K (.ref f22) = true)
    (a33 : PySem.W.nsIn K mainGlobals "_need_work" = some (some (.ref f33))) (l33 : K.lookup f33 = some ⟨oc33, od33, .func (PySem.W.fnOf "_need_work" "_need_work" (defArgs s_need_work) (defBody s_need_work) (defScope s_need_work) .none kV33 dc33 pm33 an33 cd33 ct33), sl33⟩) (c33 : PySem.W.codeIn K cd33 "_need_work" = true) (k33 : PySem.W.keepIn K (.ref f33) = true)
    (a26 : PySem.W.nsIn K mainGlobals "first_lists" = some (some (.ref f26))) (l26 : K.lookup f26 = some ⟨oc26, od26, .func (PySem.W.fnOf "first_lists" "first_lists" (defArgs s_first_lists) (defBody s_first_lists) (defScope s_first_lists) .none kV26 dc26 pm26 an26 cd26 ct26), sl26⟩) (c26 : PySem.W.codeIn K cd26 "first_lists" = true) (k26 : PySem.W.keepIn K (.ref f26) = true)
    (a31 : PySem.W.nsIn K mainGlobals "_put" = some (some (.ref f31))) (l31 : K.lookup f31 = some ⟨oc31, od31, .func (PySem.W.fnOf "_put" "_put" (defArgs s_put) (defBody s_put) (defScope s_put) .none kV31 dc31 pm31 an31 cd31 ct31), sl31⟩) (c31 : PySem.W.codeIn K cd31 "_put" = true) (k31 : PySem.W.keepIn K (.ref f31) = true)
    (a32 : PySem.W.nsIn K mainGlobals "_laid_over" = some (some (.ref f32))) (l32 : K.lookup f32 = some ⟨oc32, od32, .func (PySem.W.fnOf "_laid_over" "_laid_over" (defArgs s_laid_over) (defBody s_laid_over) (defScope s_laid_over) .none kV32 dc32 pm32 an32 cd32 ct32), sl32⟩) (c32 : PySem.W.codeIn K cd32 "_laid_over" = true) (k32 : PySem.W.keepIn K (.ref f32) = true)
    (a27 : PySem.W.nsIn K mainGlobals "lists_behind" = some (some (.ref f27))) (l27 : K.lookup f27 = some ⟨oc27, od27, .func (PySem.W.fnOf "lists_behind" "lists_behind" (defArgs s_lists_behind) (defBody s_lists_behind) (defScope s_lists_behind) .none kV27 dc27 pm27 an27 cd27 ct27), sl27⟩) (c27 : PySem.W.codeIn K cd27 "lists_behind" = true) (k27 : PySem.W.keepIn K (.ref f27) = true)
    (a28 : PySem.W.nsIn K mainGlobals "lists_through" = some (some (.ref f28))) (l28 : K.lookup f28 = some ⟨oc28, od28, .func (PySem.W.fnOf "lists_through" "lists_through" (defArgs s_lists_through) (defBody s_lists_through) (defScope s_lists_through) .none kV28 dc28 pm28 an28 cd28 ct28), sl28⟩) (c28 : PySem.W.codeIn K cd28 "lists_through" = true) (k28 : PySem.W.keepIn K (.ref f28) = true)
    (a23 : PySem.W.nsIn K mainGlobals "lists_of" = some (some (.ref f23))) (l23 : K.lookup f23 = some ⟨oc23, od23, .func (PySem.W.fnOf "lists_of" "lists_of" (defArgs s_lists_of) (defBody s_lists_of) (defScope s_lists_of) .none kV23 dc23 pm23 an23 cd23 ct23), sl23⟩) (c23 : PySem.W.codeIn K cd23 "lists_of" = true) (k23 : PySem.W.keepIn K (.ref f23) = true)
    (a29 : PySem.W.nsIn K mainGlobals "first_there" = some (some (.ref f29))) (l29 : K.lookup f29 = some ⟨oc29, od29, .func (PySem.W.fnOf "first_there" "first_there" (defArgs s_first_there) (defBody s_first_there) (defScope s_first_there) .none kV29 dc29 pm29 an29 cd29 ct29), sl29⟩) (c29 : PySem.W.codeIn K cd29 "first_there" = true) (k29 : PySem.W.keepIn K (.ref f29) = true)
    (a30 : PySem.W.nsIn K mainGlobals "papers_of" = some (some (.ref f30))) (l30 : K.lookup f30 = some ⟨oc30, od30, .func (PySem.W.fnOf "papers_of" "papers_of" (defArgs s_papers_of) (defBody s_papers_of) (defScope s_papers_of) .none kV30 dc30 pm30 an30 cd30 ct30), sl30⟩) (c30 : PySem.W.codeIn K cd30 "papers_of" = true) (k30 : PySem.W.keepIn K (.ref f30) = true)
    (a24 : PySem.W.nsIn K mainGlobals "papers_at" = some (some (.ref f24))) (l24 : K.lookup f24 = some ⟨oc24, od24, .func (PySem.W.fnOf "papers_at" "papers_at" (defArgs s_papers_at) (defBody s_papers_at) (defScope s_papers_at) .none kV24 dc24 pm24 an24 cd24 ct24), sl24⟩) (c24 : PySem.W.codeIn K cd24 "papers_at" = true) (k24 : PySem.W.keepIn K (.ref f24) = true)
    (a35 : PySem.W.nsIn K mainGlobals "_law_open" = some (some (.ref f35))) (l35 : K.lookup f35 = some ⟨oc35, od35, .func (PySem.W.fnOf "_law_open" "_law_open" (defArgs s_law_open) (defBody s_law_open) (defScope s_law_open) .none kV35 dc35 pm35 an35 cd35 ct35), sl35⟩) (c35 : PySem.W.codeIn K cd35 "_law_open" = true) (k35 : PySem.W.keepIn K (.ref f35) = true)
    (a36 : PySem.W.nsIn K mainGlobals "_law_draw" = some (some (.ref f36))) (l36 : K.lookup f36 = some ⟨oc36, od36, .func (PySem.W.fnOf "_law_draw" "_law_draw" (defArgs s_law_draw) (defBody s_law_draw) (defScope s_law_draw) .none kV36 dc36 pm36 an36 cd36 ct36), sl36⟩) (c36 : PySem.W.codeIn K cd36 "_law_draw" = true) (k36 : PySem.W.keepIn K (.ref f36) = true)
    (a37 : PySem.W.nsIn K mainGlobals "_law_size" = some (some (.ref f37))) (l37 : K.lookup f37 = some ⟨oc37, od37, .func (PySem.W.fnOf "_law_size" "_law_size" (defArgs s_law_size) (defBody s_law_size) (defScope s_law_size) .none kV37 dc37 pm37 an37 cd37 ct37), sl37⟩) (c37 : PySem.W.codeIn K cd37 "_law_size" = true) (k37 : PySem.W.keepIn K (.ref f37) = true)
    (a38 : PySem.W.nsIn K mainGlobals "_law_script" = some (some (.ref f38))) (l38 : K.lookup f38 = some ⟨oc38, od38, .func (PySem.W.fnOf "_law_script" "_law_script" (defArgs s_law_script) (defBody s_law_script) (defScope s_law_script) .none kV38 dc38 pm38 an38 cd38 ct38), sl38⟩) (c38 : PySem.W.codeIn K cd38 "_law_script" = true) (k38 : PySem.W.keepIn K (.ref f38) = true)
    (a39 : PySem.W.nsIn K mainGlobals "_law_papers" = some (some (.ref f39))) (l39 : K.lookup f39 = some ⟨oc39, od39, .func (PySem.W.fnOf "_law_papers" "_law_papers" (defArgs s_law_papers) (defBody s_law_papers) (defScope s_law_papers) .none kV39 dc39 pm39 an39 cd39 ct39), sl39⟩) (c39 : PySem.W.codeIn K cd39 "_law_papers" = true) (k39 : PySem.W.keepIn K (.ref f39) = true)
    (a40 : PySem.W.nsIn K mainGlobals "_law_contents" = some (some (.ref f40))) (l40 : K.lookup f40 = some ⟨oc40, od40, .func (PySem.W.fnOf "_law_contents" "_law_contents" (defArgs s_law_contents) (defBody s_law_contents) (defScope s_law_contents) .none kV40 dc40 pm40 an40 cd40 ct40), sl40⟩) (c40 : PySem.W.codeIn K cd40 "_law_contents" = true) (k40 : PySem.W.keepIn K (.ref f40) = true)
    (a41 : PySem.W.nsIn K mainGlobals "_law_first" = some (some (.ref f41))) (l41 : K.lookup f41 = some ⟨oc41, od41, .func (PySem.W.fnOf "_law_first" "_law_first" (defArgs s_law_first) (defBody s_law_first) (defScope s_law_first) .none kV41 dc41 pm41 an41 cd41 ct41), sl41⟩) (c41 : PySem.W.codeIn K cd41 "_law_first" = true) (k41 : PySem.W.keepIn K (.ref f41) = true)
    (a42 : PySem.W.nsIn K mainGlobals "law" = some (some (.ref f42))) (l42 : K.lookup f42 = some ⟨oc42, od42, .func (PySem.W.fnOf "law" "law" (defArgs s_law) (defBody s_law) (defScope s_law) .none kV42 dc42 pm42 an42 cd42 ct42), sl42⟩) (c42 : PySem.W.codeIn K cd42 "law" = true) (k42 : PySem.W.keepIn K (.ref f42) = true)
    (a5 : PySem.W.nsIn K mainGlobals "BadContents" = some (some (.ref f5))) (x5 : PySem.W.excIn K f5 [.type "ValueError", .type "Exception", .type "BaseException", .type "object"] "ValueError.__new__" = true) (k5 : PySem.W.keepIn K (.ref f5) = true) (b5 : PySem.W.subIn K (.ref f5) (.type "BaseException") = some true) (t5 : PySem.W.typeIn K (.ref f5) = some (.type "type"))
    (a3 : PySem.W.nsIn K mainGlobals "BadPath" = some (some (.ref f3))) (x3 : PySem.W.excIn K f3 [.type "ValueError", .type "Exception", .type "BaseException", .type "object"] "ValueError.__new__" = true) (k3 : PySem.W.keepIn K (.ref f3) = true) (b3 : PySem.W.subIn K (.ref f3) (.type "BaseException") = some true) (t3 : PySem.W.typeIn K (.ref f3) = some (.type "type"))
    (a4 : PySem.W.nsIn K mainGlobals "BadScript" = some (some (.ref f4))) (x4 : PySem.W.excIn K f4 [.type "ValueError", .type "Exception", .type "BaseException", .type "object"] "ValueError.__new__" = true) (k4 : PySem.W.keepIn K (.ref f4) = true) (b4 : PySem.W.subIn K (.ref f4) (.type "BaseException") = some true) (t4 : PySem.W.typeIn K (.ref f4) = some (.type "type"))
    (a2 : PySem.W.nsIn K mainGlobals "BadSize" = some (some (.ref f2))) (x2 : PySem.W.excIn K f2 [.type "ValueError", .type "Exception", .type "BaseException", .type "object"] "ValueError.__new__" = true) (k2 : PySem.W.keepIn K (.ref f2) = true) (b2 : PySem.W.subIn K (.ref f2) (.type "BaseException") = some true) (t2 : PySem.W.typeIn K (.ref f2) = some (.type "type"))
    (z_CHANGES : PySem.W.nsIn K mainGlobals "CHANGES" = some (some (.ref q_CHANGES))) (y_CHANGES : K.lookup q_CHANGES = some ⟨.type "tuple", none, .seq #[Value.str "write" t_CHANGES_0, Value.str "throw" t_CHANGES_1] n_CHANGES, #[]⟩)
    (z_COPIES : PySem.W.nsIn K mainGlobals "COPIES" = some (some (.ref q_COPIES))) (y_COPIES : K.lookup q_COPIES = some ⟨.type "tuple", none, .seq #[Value.str "over" t_COPIES_0, Value.str "under" t_COPIES_1] n_COPIES, #[]⟩)
    (z_LAST_PATH : PySem.W.nsIn K mainGlobals "LAST_PATH" = some (some (Value.int (3) t_LAST_PATH)))
    (z_MOST_DEEDS : PySem.W.nsIn K mainGlobals "MOST_DEEDS" = some (some (Value.int (30) t_MOST_DEEDS)))
    (z_MOST_FOLDERS : PySem.W.nsIn K mainGlobals "MOST_FOLDERS" = some (some (Value.int (6) t_MOST_FOLDERS)))
    (z_abs : PySem.W.nsIn K mainGlobals "abs" = some none)
    (z_all : PySem.W.nsIn K mainGlobals "all" = some none)
    (z_bool : PySem.W.nsIn K mainGlobals "bool" = some none)
    (z_enumerate : PySem.W.nsIn K mainGlobals "enumerate" = some none)
    (z_int : PySem.W.nsIn K mainGlobals "int" = some none)
    (z_isinstance : PySem.W.nsIn K mainGlobals "isinstance" = some none)
    (z_len : PySem.W.nsIn K mainGlobals "len" = some none)
    (z_max : PySem.W.nsIn K mainGlobals "max" = some none)
    (z_min : PySem.W.nsIn K mainGlobals "min" = some none)
    (z_range : PySem.W.nsIn K mainGlobals "range" = some none)
    (z_repr : PySem.W.nsIn K mainGlobals "repr" = some none)
    (z_str : PySem.W.nsIn K mainGlobals "str" = some none)
    (z_tuple : PySem.W.nsIn K mainGlobals "tuple" = some none) :
    ∃ fd : FuncData, (∀ (s : Shared) (v : Value), BindsTo s fd ⟨[v], []⟩ [("_law_script_here", v)]) ∧ ∀ base : Heap, K.In base → base.Ns mainGlobals mg → FnG l.prog w K mg base (L2.CX l.prog w) 7 fa fd ["_law_script_here"] (spLaw K) := by
  have e := hfa.symm.trans (PySem.W.mg_of X G a42)
  cases e
  have F9 := fun_mk (st := s_is_whole) l9 c9 k9
  have B9 := F9.binds (ps := ["thing", "low", "high"]) fun _ _ _ _ _ _ us hl => match us, hl with | [_, _, _], _ => rfl
  have F10 := fun_mk (st := s_is_word) l10 c10 k10
  have B10 := F10.binds (ps := ["thing", "words"]) fun _ _ _ _ _ _ us hl => match us, hl with | [_, _], _ => rfl
  have F11 := fun_mk (st := s_is_rising) l11 c11 k11
  have B11 := F11.binds (ps := ["things"]) fun _ _ _ _ _ _ us hl => match us, hl with | [_], _ => rfl
  have F12 := fun_mk (st := s_is_folder) l12 c12 k12
  have B12 := F12.binds (ps := ["size", "thing"]) fun _ _ _ _ _ _ us hl => match us, hl with | [_, _], _ => rfl
  have F13 := fun_mk (st := s_is_path) l13 c13 k13
  have B13 := F13.binds (ps := ["thing"]) fun _ _ _ _ _ _ us hl => match us, hl with | [_], _ => rfl
  have F14 := fun_mk (st := s_is_contents) l14 c14 k14
  have B14 := F14.binds (ps := ["size", "thing"]) fun _ _ _ _ _ _ us hl => match us, hl with | [_, _], _ => rfl
  have F15 := fun_mk (st := s_need_size) l15 c15 k15
  have B15 := F15.binds (ps := ["thing"]) fun _ _ _ _ _ _ us hl => match us, hl with | [_], _ => rfl
  have F16 := fun_mk (st := s_need_path) l16 c16 k16
  have B16 := F16.binds (ps := ["thing"]) fun _ _ _ _ _ _ us hl => match us, hl with | [_], _ => rfl
  have F17 := fun_mk (st := s_need_contents) l17 c17 k17
  have B17 := F17.binds (ps := ["size", "thing"]) fun _ _ _ _ _ _ us hl => match us, hl with | [_, _], _ => rfl
  have F25 := fun_mk (st := s_is_paper_deed) l25 c25 k25
  have B25 := F25.binds (ps := ["size", "thing"]) fun _ _ _ _ _ _ us hl => match us, hl with | [_, _], _ => rfl
  have F22 := fun_mk (st := s_is_script) l22 c22 k22
  have B22 := F22.binds (ps := ["size", "thing"]) fun _ _ _ _ _ _ us hl => match us, hl with | [_, _], _ => rfl
  have F33 := fun_mk (st := s_need_work) l33 c33 k33
  have B33 := F33.binds (ps := ["size", "script", "path"]) fun _ _ _ _ _ _ us hl => match us, hl with | [_, _, _], _ => rfl
  have F26 := fun_mk (st := s_first_lists) l26 c26 k26
  have B26 := F26.binds (ps := ["size"]) fun _ _ _ _ _ _ us hl => match us, hl with | [_], _ => rfl
  have F31 := fun_mk (st := s_put) l31 c31 k31
  have B31 := F31.binds (ps := ["lists", "folder", "sources"]) fun _ _ _ _ _ _ us hl => match us, hl with | [_, _, _], _ => rfl
  have F32 := fun_mk (st := s_laid_over) l32 c32 k32
  have B32 := F32.binds (ps := ["ahead", "behind"]) fun _ _ _ _ _ _ us hl => match us, hl with | [_, _], _ => rfl
  have F27 := fun_mk (st := s_lists_behind) l27 c27 k27
  have B27 := F27.binds (ps := ["lists", "deed", "path", "place"]) fun _ _ _ _ _ _ us hl => match us, hl with | [_, _, _, _], _ => rfl
  have F28 := fun_mk (st := s_lists_through) l28 c28 k28
  have B28 := F28.binds (ps := ["size", "script", "path"]) fun _ _ _ _ _ _ us hl => match us, hl with | [_, _, _], _ => rfl
  have F23 := fun_mk (st := s_lists_of) l23 c23 k23
  have B23 := F23.binds (ps := ["size", "script", "path"]) fun _ _ _ _ _ _ us hl => match us, hl with | [_, _, _], _ => rfl
  have F29 := fun_mk (st := s_first_there) l29 c29 k29
  have B29 := F29.binds (ps := ["sources", "contents"]) fun _ _ _ _ _ _ us hl => match us, hl with | [_, _], _ => rfl
  have F30 := fun_mk (st := s_papers_of) l30 c30 k30
  have B30 := F30.binds (ps := ["lists", "contents"]) fun _ _ _ _ _ _ us hl => match us, hl with | [_, _], _ => rfl
  have F24 := fun_mk (st := s_papers_at) l24 c24 k24
  have B24 := F24.binds (ps := ["size", "script", "path", "contents"]) fun _ _ _ _ _ _ us hl => match us, hl with | [_, _, _, _], _ => rfl
  have F35 := fun_mk (st := s_law_open) l35 c35 k35
  have B35 := F35.binds (ps := ["_law_script_here", "_law_k"]) fun _ _ _ _ _ _ us hl => match us, hl with | [_, _], _ => rfl
  have F36 := fun_mk (st := s_law_draw) l36 c36 k36
  have B36 := F36.binds (ps := ["_law_deck", "_law_many"]) fun _ _ _ _ _ _ us hl => match us, hl with | [_, _], _ => rfl
  have F37 := fun_mk (st := s_law_size) l37 c37 k37
  have B37 := F37.binds (ps := ["_law_deck"]) fun _ _ _ _ _ _ us hl => match us, hl with | [_], _ => rfl
  have F38 := fun_mk (st := s_law_script) l38 c38 k38
  have B38 := F38.binds (ps := ["_law_deck", "_law_size_here", "_law_most", "_law_words"]) fun _ _ _ _ _ _ us hl => match us, hl with | [_, _, _, _], _ => rfl
  have F39 := fun_mk (st := s_law_papers) l39 c39 k39
  have B39 := F39.binds (ps := ["_law_size_here", "_law_script_here", "_law_path", "_law_contents_here"]) fun _ _ _ _ _ _ us hl => match us, hl with | [_, _, _, _], _ => rfl
  have F40 := fun_mk (st := s_law_contents) l40 c40 k40
  have B40 := F40.binds (ps := ["_law_size_here"]) fun _ _ _ _ _ _ us hl => match us, hl with | [_], _ => rfl
  have F41 := fun_mk (st := s_law_first) l41 c41 k41
  have B41 := F41.binds (ps := ["_law_row", "_law_contents_here"]) fun _ _ _ _ _ _ us hl => match us, hl with | [_, _], _ => rfl
  have F42 := fun_mk (st := s_law) l42 c42 k42
  have B42 := F42.binds (ps := ["_law_script_here"]) fun _ _ _ _ _ _ us hl => match us, hl with | [_], _ => rfl
  let ad : Nat → Addr := fun n => ([fa, fa, f2, f3, f4, f5, fa, fa, fa, f9, f10, f11, f12, f13, f14, f15, f16, f17, fa, fa, fa, fa, f22, f23, f24, f25, f26, f27, f28, f29, f30, f31, f32, f33, fa, f35, f36, f37, f38, f39, f40, f41, fa]).getD n fa
  let fdd : Nat → FuncData := fun n => ([PySem.W.fnOf "law" "law" (defArgs s_law) (defBody s_law) (defScope s_law) .none kV42 dc42 pm42 an42 cd42 ct42,
    PySem.W.fnOf "law" "law" (defArgs s_law) (defBody s_law) (defScope s_law) .none kV42 dc42 pm42 an42 cd42 ct42,
    PySem.W.fnOf "law" "law" (defArgs s_law) (defBody s_law) (defScope s_law) .none kV42 dc42 pm42 an42 cd42 ct42,
    PySem.W.fnOf "law" "law" (defArgs s_law) (defBody s_law) (defScope s_law) .none kV42 dc42 pm42 an42 cd42 ct42,
    PySem.W.fnOf "law" "law" (defArgs s_law) (defBody s_law) (defScope s_law) .none kV42 dc42 pm42 an42 cd42 ct42,
    PySem.W.fnOf "law" "law" (defArgs s_law) (defBody s_law) (defScope s_law) .none kV42 dc42 pm42 an42 cd42 ct42,
    PySem.W.fnOf "law" "law" (defArgs s_law) (defBody s_law) (defScope s_law) .none kV42 dc42 pm42 an42 cd42 ct42,
    PySem.W.fnOf "law" "law" (defArgs s_law) (defBody s_law) (defScope s_law) .none kV42 dc42 pm42 an42 cd42 ct42,
    PySem.W.fnOf "law" "law" (defArgs s_law) (defBody s_law) (defScope s_law) .none kV42 dc42 pm42 an42 cd42 ct42,
    PySem.W.fnOf "is_whole" "is_whole" (defArgs s_is_whole) (defBody s_is_whole) (defScope s_is_whole) .none kV9 dc9 pm9 an9 cd9 ct9,
    PySem.W.fnOf "is_word" "is_word" (defArgs s_is_word) (defBody s_is_word) (defScope s_is_word) .none kV10 dc10 pm10 an10 cd10 ct10,
    PySem.W.fnOf "is_rising" "is_rising" (defArgs s_is_rising) (defBody s_is_rising) (defScope s_is_rising) .none kV11 dc11 pm11 an11 cd11 ct11,
    PySem.W.fnOf "is_folder" "is_folder" (defArgs s_is_folder) (defBody s_is_folder) (defScope s_is_folder) .none kV12 dc12 pm12 an12 cd12 ct12,
    PySem.W.fnOf "is_path" "is_path" (defArgs s_is_path) (defBody s_is_path) (defScope s_is_path) .none kV13 dc13 pm13 an13 cd13 ct13,
    PySem.W.fnOf "is_contents" "is_contents" (defArgs s_is_contents) (defBody s_is_contents) (defScope s_is_contents) .none kV14 dc14 pm14 an14 cd14 ct14,
    PySem.W.fnOf "need_size" "need_size" (defArgs s_need_size) (defBody s_need_size) (defScope s_need_size) .none kV15 dc15 pm15 an15 cd15 ct15,
    PySem.W.fnOf "need_path" "need_path" (defArgs s_need_path) (defBody s_need_path) (defScope s_need_path) .none kV16 dc16 pm16 an16 cd16 ct16,
    PySem.W.fnOf "need_contents" "need_contents" (defArgs s_need_contents) (defBody s_need_contents) (defScope s_need_contents) .none kV17 dc17 pm17 an17 cd17 ct17,
    PySem.W.fnOf "law" "law" (defArgs s_law) (defBody s_law) (defScope s_law) .none kV42 dc42 pm42 an42 cd42 ct42,
    PySem.W.fnOf "law" "law" (defArgs s_law) (defBody s_law) (defScope s_law) .none kV42 dc42 pm42 an42 cd42 ct42,
    PySem.W.fnOf "law" "law" (defArgs s_law) (defBody s_law) (defScope s_law) .none kV42 dc42 pm42 an42 cd42 ct42,
    PySem.W.fnOf "law" "law" (defArgs s_law) (defBody s_law) (defScope s_law) .none kV42 dc42 pm42 an42 cd42 ct42,
    PySem.W.fnOf "is_script" "is_script" (defArgs s_is_script) (defBody s_is_script) (defScope s_is_script) .none kV22 dc22 pm22 an22 cd22 ct22,
    PySem.W.fnOf "lists_of" "lists_of" (defArgs s_lists_of) (defBody s_lists_of) (defScope s_lists_of) .none kV23 dc23 pm23 an23 cd23 ct23,
    PySem.W.fnOf "papers_at" "papers_at" (defArgs s_papers_at) (defBody s_papers_at) (defScope s_papers_at) .none kV24 dc24 pm24 an24 cd24 ct24,
    PySem.W.fnOf "is_paper_deed" "is_paper_deed" (defArgs s_is_paper_deed) (defBody s_is_paper_deed) (defScope s_is_paper_deed) .none kV25 dc25 pm25 an25 cd25 ct25,
    PySem.W.fnOf "first_lists" "first_lists" (defArgs s_first_lists) (defBody s_first_lists) (defScope s_first_lists) .none kV26 dc26 pm26 an26 cd26 ct26,
    PySem.W.fnOf "lists_behind" "lists_behind" (defArgs s_lists_behind) (defBody s_lists_behind) (defScope s_lists_behind) .none kV27 dc27 pm27 an27 cd27 ct27,
    PySem.W.fnOf "lists_through" "lists_through" (defArgs s_lists_through) (defBody s_lists_through) (defScope s_lists_through) .none kV28 dc28 pm28 an28 cd28 ct28,
    PySem.W.fnOf "first_there" "first_there" (defArgs s_first_there) (defBody s_first_there) (defScope s_first_there) .none kV29 dc29 pm29 an29 cd29 ct29,
    PySem.W.fnOf "papers_of" "papers_of" (defArgs s_papers_of) (defBody s_papers_of) (defScope s_papers_of) .none kV30 dc30 pm30 an30 cd30 ct30,
    PySem.W.fnOf "_put" "_put" (defArgs s_put) (defBody s_put) (defScope s_put) .none kV31 dc31 pm31 an31 cd31 ct31,
    PySem.W.fnOf "_laid_over" "_laid_over" (defArgs s_laid_over) (defBody s_laid_over) (defScope s_laid_over) .none kV32 dc32 pm32 an32 cd32 ct32,
    PySem.W.fnOf "_need_work" "_need_work" (defArgs s_need_work) (defBody s_need_work) (defScope s_need_work) .none kV33 dc33 pm33 an33 cd33 ct33,
    PySem.W.fnOf "law" "law" (defArgs s_law) (defBody s_law) (defScope s_law) .none kV42 dc42 pm42 an42 cd42 ct42,
    PySem.W.fnOf "_law_open" "_law_open" (defArgs s_law_open) (defBody s_law_open) (defScope s_law_open) .none kV35 dc35 pm35 an35 cd35 ct35,
    PySem.W.fnOf "_law_draw" "_law_draw" (defArgs s_law_draw) (defBody s_law_draw) (defScope s_law_draw) .none kV36 dc36 pm36 an36 cd36 ct36,
    PySem.W.fnOf "_law_size" "_law_size" (defArgs s_law_size) (defBody s_law_size) (defScope s_law_size) .none kV37 dc37 pm37 an37 cd37 ct37,
    PySem.W.fnOf "_law_script" "_law_script" (defArgs s_law_script) (defBody s_law_script) (defScope s_law_script) .none kV38 dc38 pm38 an38 cd38 ct38,
    PySem.W.fnOf "_law_papers" "_law_papers" (defArgs s_law_papers) (defBody s_law_papers) (defScope s_law_papers) .none kV39 dc39 pm39 an39 cd39 ct39,
    PySem.W.fnOf "_law_contents" "_law_contents" (defArgs s_law_contents) (defBody s_law_contents) (defScope s_law_contents) .none kV40 dc40 pm40 an40 cd40 ct40,
    PySem.W.fnOf "_law_first" "_law_first" (defArgs s_law_first) (defBody s_law_first) (defScope s_law_first) .none kV41 dc41 pm41 an41 cd41 ct41,
    PySem.W.fnOf "law" "law" (defArgs s_law) (defBody s_law) (defScope s_law) .none kV42 dc42 pm42 an42 cd42 ct42]).getD n (PySem.W.fnOf "law" "law" (defArgs s_law) (defBody s_law) (defScope s_law) .none kV42 dc42 pm42 an42 cd42 ct42)
  have T : Tx K mg ad fdd := {
    m_CHANGES := ⟨_, PySem.W.mg_of X G z_CHANGES, _, _, _, y_CHANGES, rfl, rfl, rfl, by rw [sizeLine_eq]; show 2 ≤ 16777216; decide, .cons ⟨_, rfl⟩ (.cons ⟨_, rfl⟩ (.nil))⟩
    m_COPIES := ⟨_, PySem.W.mg_of X G z_COPIES, _, _, _, y_COPIES, rfl, rfl, rfl, by rw [sizeLine_eq]; show 2 ≤ 16777216; decide, .cons ⟨_, rfl⟩ (.cons ⟨_, rfl⟩ (.nil))⟩
    m_LAST_PATH := ⟨_, PySem.W.mg_of X G z_LAST_PATH, ⟨_, rfl⟩⟩
    m_MOST_DEEDS := ⟨_, PySem.W.mg_of X G z_MOST_DEEDS, ⟨_, rfl⟩⟩
    m_MOST_FOLDERS := ⟨_, PySem.W.mg_of X G z_MOST_FOLDERS, ⟨_, rfl⟩⟩
    m_abs := PySem.W.mg_none_of X G z_abs
    m_all := PySem.W.mg_none_of X G z_all
    m_bool := PySem.W.mg_none_of X G z_bool
    m_enumerate := PySem.W.mg_none_of X G z_enumerate
    m_int := PySem.W.mg_none_of X G z_int
    m_isinstance := PySem.W.mg_none_of X G z_isinstance
    m_len := PySem.W.mg_none_of X G z_len
    m_max := PySem.W.mg_none_of X G z_max
    m_min := PySem.W.mg_none_of X G z_min
    m_range := PySem.W.mg_none_of X G z_range
    m_repr := PySem.W.mg_none_of X G z_repr
    m_str := PySem.W.mg_none_of X G z_str
    m_tuple := PySem.W.mg_none_of X G z_tuple
    F_is_whole := F9
    g_is_whole := PySem.W.mg_of X G a9
    b_is_whole := B9
    F_is_word := F10
    g_is_word := PySem.W.mg_of X G a10
    b_is_word := B10
    F_is_rising := F11
    g_is_rising := PySem.W.mg_of X G a11
    b_is_rising := B11
    F_is_folder := F12
    g_is_folder := PySem.W.mg_of X G a12
    b_is_folder := B12
    F_is_path := F13
    g_is_path := PySem.W.mg_of X G a13
    b_is_path := B13
    F_is_contents := F14
    g_is_contents := PySem.W.mg_of X G a14
    b_is_contents := B14
    F_need_size := F15
    g_need_size := PySem.W.mg_of X G a15
    b_need_size := B15
    F_need_path := F16
    g_need_path := PySem.W.mg_of X G a16
    b_need_path := B16
    F_need_contents := F17
    g_need_contents := PySem.W.mg_of X G a17
    b_need_contents := B17
    F_is_paper_deed := F25
    g_is_paper_deed := PySem.W.mg_of X G a25
    b_is_paper_deed := B25
    F_is_script := F22
    g_is_script := PySem.W.mg_of X G a22
    b_is_script := B22
    F_need_work := F33
    g_need_work := PySem.W.mg_of X G a33
    b_need_work := B33
    F_first_lists := F26
    g_first_lists := PySem.W.mg_of X G a26
    b_first_lists := B26
    F_put := F31
    g_put := PySem.W.mg_of X G a31
    b_put := B31
    F_laid_over := F32
    g_laid_over := PySem.W.mg_of X G a32
    b_laid_over := B32
    F_lists_behind := F27
    g_lists_behind := PySem.W.mg_of X G a27
    b_lists_behind := B27
    F_lists_through := F28
    g_lists_through := PySem.W.mg_of X G a28
    b_lists_through := B28
    F_lists_of := F23
    g_lists_of := PySem.W.mg_of X G a23
    b_lists_of := B23
    F_first_there := F29
    g_first_there := PySem.W.mg_of X G a29
    b_first_there := B29
    F_papers_of := F30
    g_papers_of := PySem.W.mg_of X G a30
    b_papers_of := B30
    F_papers_at := F24
    g_papers_at := PySem.W.mg_of X G a24
    b_papers_at := B24
    F_law_open := F35
    g_law_open := PySem.W.mg_of X G a35
    b_law_open := B35
    F_law_draw := F36
    g_law_draw := PySem.W.mg_of X G a36
    b_law_draw := B36
    F_law_size := F37
    g_law_size := PySem.W.mg_of X G a37
    b_law_size := B37
    F_law_script := F38
    g_law_script := PySem.W.mg_of X G a38
    b_law_script := B38
    F_law_papers := F39
    g_law_papers := PySem.W.mg_of X G a39
    b_law_papers := B39
    F_law_contents := F40
    g_law_contents := PySem.W.mg_of X G a40
    b_law_contents := B40
    F_law_first := F41
    g_law_first := PySem.W.mg_of X G a41
    b_law_first := B41
    F_law := F42
    g_law := PySem.W.mg_of X G a42
    b_law := B42
    x_BadContents := ⟨PySem.W.mg_of X G a5, x5, k5, b5, t5⟩
    x_BadPath := ⟨PySem.W.mg_of X G a3, x3, k3, b3, t3⟩
    x_BadScript := ⟨PySem.W.mg_of X G a4, x4, k4, b4, t4⟩
    x_BadSize := ⟨PySem.W.mg_of X G a2, x2, k2, b2, t2⟩
    kb_papers_at_0_size_script_path_contents := kbp_kb_papers_at_0_size_script_path_contents _ fun s w0 w1 w2 w3 => .of_eq rfl }
  exact ⟨PySem.W.fnOf "law" "law" (defArgs s_law) (defBody s_law) (defScope s_law) .none kV42 dc42 pm42 an42 cd42 ct42, fun s v => .of_eq rfl, fun base _ _ => by
    have G_is_whole := ok_is_whole (P := l.prog) (w := w) (base := base) T 
    have G_is_word := ok_is_word (P := l.prog) (w := w) (base := base) T 
    have G_is_rising := ok_is_rising (P := l.prog) (w := w) (base := base) T 
    have G_is_folder := ok_is_folder (P := l.prog) (w := w) (base := base) T G_is_whole
    have G_is_path := ok_is_path (P := l.prog) (w := w) (base := base) T G_is_whole
    have G_is_contents := ok_is_contents (P := l.prog) (w := w) (base := base) T G_is_rising G_is_folder
    have G_need_size := ok_need_size (P := l.prog) (w := w) (base := base) T G_is_whole
    have G_need_path := ok_need_path (P := l.prog) (w := w) (base := base) T G_is_path
    have G_need_contents := ok_need_contents (P := l.prog) (w := w) (base := base) T G_is_contents
    have G_is_paper_deed := ok_is_paper_deed (P := l.prog) (w := w) (base := base) T G_is_word G_is_path G_is_folder
    have G_is_script := ok_is_script (P := l.prog) (w := w) (base := base) T G_need_size G_is_paper_deed
    have G_need_work := ok_need_work (P := l.prog) (w := w) (base := base) T G_need_path G_is_script
    have G_first_lists := ok_first_lists (P := l.prog) (w := w) (base := base) T 
    have G_put := ok_put (P := l.prog) (w := w) (base := base) T 
    have G_laid_over := ok_laid_over (P := l.prog) (w := w) (base := base) T 
    have G_lists_behind := ok_lists_behind (P := l.prog) (w := w) (base := base) T G_put G_laid_over
    have G_lists_through := ok_lists_through (P := l.prog) (w := w) (base := base) T G_first_lists G_lists_behind
    have G_lists_of := ok_lists_of (P := l.prog) (w := w) (base := base) T G_need_work G_lists_through
    have G_first_there := ok_first_there (P := l.prog) (w := w) (base := base) T 
    have G_papers_of := ok_papers_of (P := l.prog) (w := w) (base := base) T G_first_there
    have G_papers_at := ok_papers_at (P := l.prog) (w := w) (base := base) T G_need_work G_need_contents G_papers_of G_lists_through
    have G_law_open := FnOk.toG (J.ok_law_open (P := l.prog) (w := w) (base := base) T)
    have G_law_draw := FnOk.toG (J.ok_law_draw (P := l.prog) (w := w) (base := base) T)
    have G_law_size := ok_law_size (P := l.prog) (w := w) (base := base) T G_law_draw
    have G_law_script := ok_law_script (P := l.prog) (w := w) (base := base) T G_law_draw
    have G_law_papers := ok_law_papers (P := l.prog) (w := w) (base := base) T 
    have G_law_contents := ok_law_contents (P := l.prog) (w := w) (base := base) T 
    have G_law_first := ok_law_first (P := l.prog) (w := w) (base := base) T 
    have G_law := ok_law (P := l.prog) (w := w) (base := base) T G_law_open G_law_size G_law_script G_law_draw G_lists_of G_law_contents G_papers_at G_law_papers G_law_first
    refine G_law.imp fun vs H Q E ⟨a, ns, e, hs, hl, hq⟩ => ?_
    subst e
    have hh : hide [] H = H := by funext b; unfold hide; rw [if_neg (by simp)]
    refine ⟨rfl, [], [], [scrD ns], 576460752303423488, ⟨fun a m => (by cases m), fun a m => (by cases m), fun a o e _ => e, fun a e => e, fun a m => (by cases m), fun a m => (by cases m), fun a m => (by cases m), fun a m => (by cases m), fun a m => (by cases m), fun _ _ _ _ _ hf e h => DP3.mono hf e h, by show (576460752303423488 : Nat) ≤ 1152921504606846976; decide⟩, .cons (.scr (by rw [hh]; exact hs)) .nil, R.wp_mono (law_true ns hl) (fun fu d e v w' _ _ _ r => ?_) fun _ _ h => h.elim⟩
    subst e
    rw [r.isBl]; exact hq w'.H⟩
end
end DL
open PySem PySem.W PyProof.Rows
set_option maxHeartbeats 0 in
theorem PySem.Challenge.cw_officepapers_k25_papers_for_first_conten_holds : PySem.Challenge.rw_officepapers_k25_papers_for_first_conten.Holds := by
  w_on; o_law; k_head; (case hw => w_witness2)
  k_fill
  refine DL.walk_ofG (l := PySem.Challenge.rw_officepapers_k25_papers_for_first_conten) (n := 63) (k := 7) (x := "_law_script_here") (CX := fun w => L2.CX PySem.Challenge.rw_officepapers_k25_papers_for_first_conten.prog w) (sp := fun w => DL.spLaw _) rfl (by decide) rfl ⟨rfl, by decide, by decide⟩ (fun w h Y => PySem.W.kIn_of Y) ?F (fun _ _ a ns hl _ hS => ⟨a, ns, rfl, hS, hl, fun _ => rfl⟩) (fun _ _ _ _ _ h => DL.cx_no h)
  case F =>
    intro w mg fa h KX G hmg
    refine' DL.all_mk KX G hmg ?a9 ?l9 ?c9 ?k9 ?a10 ?l10 ?c10 ?k10 ?a11 ?l11 ?c11 ?k11 ?a12 ?l12 ?c12 ?k12 ?a13 ?l13 ?c13 ?k13 ?a14 ?l14 ?c14 ?k14 ?a15 ?l15 ?c15 ?k15 ?a16 ?l16 ?c16 ?k16 ?a17 ?l17 ?c17 ?k17 ?a25 ?l25 ?c25 ?k25 ?a22 ?l22 ?c22 ?k22 ?a33 ?l33 ?c33 ?k33 ?a26 ?l26 ?c26 ?k26 ?a31 ?l31 ?c31 ?k31 ?a32 ?l32 ?c32 ?k32 ?a27 ?l27 ?c27 ?k27 ?a28 ?l28 ?c28 ?k28 ?a23 ?l23 ?c23 ?k23 ?a29 ?l29 ?c29 ?k29 ?a30 ?l30 ?c30 ?k30 ?a24 ?l24 ?c24 ?k24 ?a35 ?l35 ?c35 ?k35 ?a36 ?l36 ?c36 ?k36 ?a37 ?l37 ?c37 ?k37 ?a38 ?l38 ?c38 ?k38 ?a39 ?l39 ?c39 ?k39 ?a40 ?l40 ?c40 ?k40 ?a41 ?l41 ?c41 ?k41 ?a42 ?l42 ?c42 ?k42 ?a5 ?x5 ?k5 ?b5 ?t5 ?a3 ?x3 ?k3 ?b3 ?t3 ?a4 ?x4 ?k4 ?b4 ?t4 ?a2 ?x2 ?k2 ?b2 ?t2 ?z_CHANGES ?y_CHANGES ?z_COPIES ?y_COPIES ?z_LAST_PATH ?z_MOST_DEEDS ?z_MOST_FOLDERS ?z_abs ?z_all ?z_bool ?z_enumerate ?z_int ?z_isinstance ?z_len ?z_max ?z_min ?z_range ?z_repr ?z_str ?z_tuple
    (case a9 => k_is); (case l9 => k_is); (case c9 => k_is); (case k9 => k_is); (case a10 => k_is); (case l10 => k_is); (case c10 => k_is); (case k10 => k_is); (case a11 => k_is); (case l11 => k_is); (case c11 => k_is); (case k11 => k_is); (case a12 => k_is); (case l12 => k_is); (case c12 => k_is); (case k12 => k_is); (case a13 => k_is); (case l13 => k_is); (case c13 => k_is); (case k13 => k_is); (case a14 => k_is); (case l14 => k_is); (case c14 => k_is); (case k14 => k_is); (case a15 => k_is); (case l15 => k_is); (case c15 => k_is); (case k15 => k_is); (case a16 => k_is); (case l16 => k_is); (case c16 => k_is); (case k16 => k_is); (case a17 => k_is); (case l17 => k_is); (case c17 => k_is); (case k17 => k_is); (case a25 => k_is); (case l25 => k_is); (case c25 => k_is); (case k25 => k_is); (case a22 => k_is); (case l22 => k_is); (case c22 => k_is); (case k22 => k_is); (case a33 => k_is); (case l33 => k_is); (case c33 => k_is); (case k33 => k_is); (case a26 => k_is); (case l26 => k_is); (case c26 => k_is); (case k26 => k_is); (case a31 => k_is); (case l31 => k_is); (case c31 => k_is); (case k31 => k_is); (case a32 => k_is); (case l32 => k_is); (case c32 => k_is); (case k32 => k_is); (case a27 => k_is); (case l27 => k_is); (case c27 => k_is); (case k27 => k_is); (case a28 => k_is); (case l28 => k_is); (case c28 => k_is); (case k28 => k_is); (case a23 => k_is); (case l23 => k_is); (case c23 => k_is); (case k23 => k_is); (case a29 => k_is); (case l29 => k_is); (case c29 => k_is); (case k29 => k_is); (case a30 => k_is); (case l30 => k_is); (case c30 => k_is); (case k30 => k_is); (case a24 => k_is); (case l24 => k_is); (case c24 => k_is); (case k24 => k_is); (case a35 => k_is); (case l35 => k_is); (case c35 => k_is); (case k35 => k_is); (case a36 => k_is); (case l36 => k_is); (case c36 => k_is); (case k36 => k_is); (case a37 => k_is); (case l37 => k_is); (case c37 => k_is); (case k37 => k_is); (case a38 => k_is); (case l38 => k_is); (case c38 => k_is); (case k38 => k_is); (case a39 => k_is); (case l39 => k_is); (case c39 => k_is); (case k39 => k_is); (case a40 => k_is); (case l40 => k_is); (case c40 => k_is); (case k40 => k_is); (case a41 => k_is); (case l41 => k_is); (case c41 => k_is); (case k41 => k_is); (case a42 => k_is); (case l42 => k_is); (case c42 => k_is); (case k42 => k_is); (case a5 => k_is); (case x5 => k_exc); (case k5 => k_is); (case b5 => k_is); (case t5 => k_is); (case a3 => k_is); (case x3 => k_exc); (case k3 => k_is); (case b3 => k_is); (case t3 => k_is); (case a4 => k_is); (case x4 => k_exc); (case k4 => k_is); (case b4 => k_is); (case t4 => k_is); (case a2 => k_is); (case x2 => k_exc); (case k2 => k_is); (case b2 => k_is); (case t2 => k_is); (case z_CHANGES => k_is); (case y_CHANGES => k_is); (case z_COPIES => k_is); (case y_COPIES => k_is); (case z_LAST_PATH => k_is); (case z_MOST_DEEDS => k_is); (case z_MOST_FOLDERS => k_is); (case z_abs => k_is); (case z_all => k_is); (case z_bool => k_is); (case z_enumerate => k_is); (case z_int => k_is); (case z_isinstance => k_is); (case z_len => k_is); (case z_max => k_is); (case z_min => k_is); (case z_range => k_is); (case z_repr => k_is); (case z_str => k_is); (case z_tuple => k_is)
