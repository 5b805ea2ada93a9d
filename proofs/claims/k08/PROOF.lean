import PyProof.Rows.All
import Wide.All
import OpenK.AllK
import Wide.FinOn
import HandS.ForMost
import HandS.Conv
import HandS.Codes
import HandS.Deep
import HandS.Sort
import HandS.Wide
import HandS.IsInst
import HandS.Walk
import HandS.Style
import HandS.Steps
import HandS.SortRule
import KE.KDictPairs
import PyProof.ListStr
import HandS.FStr
import HandS.TupAny
import HandS.TupLe
import HandS.TupMul
import HandS.Flow
import HandS.Exc
import HandS.ExcOwn
import HandS.TryOnly
import HandS.TryMany
import HandS.WordsExc
import KE.KDictKeyed
import HandS.RaiseMore
import KE.LtData
import KE.SortData
import HandS.ExcIs
import PyProof.StrLawsRepr
import KE.GoesEnum
import KE.GoesMore
import HandS.Zip
import HandS.RevRange
import HandS.Dict
import KE.KRevSl
import KE.KTupSum
import HandS.ExcValue
import PyProof.StrOps2
import HandS.Set
import HandS.SetFor
import HandS.List
import PyProof.ReprLen
import PyProof.FitsInt
import PyProof.Transfer
import KE.KDictSum
import KE.KDictCopyH
import HandS.DictComp
import HandS.Iter
import HandS.TupSets
import HandS.Star
import KE.KeyNested
import PySem.Challenge.RW_officepapers_k08_routes_reduced_and_spel
set_option Elab.async false
set_option linter.all false
set_option maxRecDepth 100000
set_option maxHeartbeats 4000000
namespace J
open PySem PySem.Spec PyProof.Rows L2

/-- the law's hand: five places, a list and four ints -/
def handSh : HO → Bool
  | .lst [.ref _, .int _, .int _, .int _, .int _] => true
  | _ => false
def Ex (H H' : Hp) : Prop := ∀ a o, H a = some o → H' a = some o
structure Xb (H H' : Hp) : Prop where
  keep : ∀ a o, H a = some o → handSh o = false → H' a = some o
  free : ∀ a, H' a = none → H a = none
instance {H H' : Hp} : CoeFun (Xb H H') (fun _ => ∀ a o, H a = some o → handSh o = false → H' a = some o) := ⟨Xb.keep⟩
theorem Ex.refl (H : Hp) : Ex H H := fun _ _ h => h
theorem Ex.trans {H H1 H2 : Hp} (a : Ex H H1) (b : Ex H1 H2) : Ex H H2 := fun x o h => b x o (a x o h)
theorem fresh_back {H H' : Hp} {p : Addr} (e : Ex H H') (h : H' p = none) : H p = none := by
  cases h1 : H p with
  | none => rfl
  | some o =>
    rw [e p o h1] at h
    cases h
theorem Ex.b {H H' : Hp} (e : Ex H H') : Xb H H' := ⟨fun a o h _ => e a o h, fun _ n => fresh_back e n⟩
theorem Ex.sqL {H H' : Hp} (e : Ex H H') {K : PySem.W.Frag} {a : Addr} {xs : List V} (h : SqL K H a xs) : SqL K H' a xs := by
  rcases h with (h | ⟨o, h⟩) | h
  · exact .inl (.inl (e _ _ h))
  · exact .inl (.inr ⟨o, e _ _ h⟩)
  · exact .inr h
theorem Xb.refl (H : Hp) : Xb H H := ⟨fun _ _ h _ => h, fun _ n => n⟩
theorem Xb.trans {H H1 H2 : Hp} (a : Xb H H1) (b : Xb H1 H2) : Xb H H2 := ⟨fun x o h n => b x o (a x o h n) n, fun x n => a.free x (b.free x n)⟩
theorem Ex.new {H : Hp} {p : Addr} {o : HO} (h : H p = none) : Ex H (upd H p o) := fun a u e => by
  rw [upd_ne (ne_of_none e h)]
  exact e
theorem Ex.mut {H H' : Hp} {p : Addr} {o : HO} (e : Ex H H') (h : H p = none) : Ex H (upd H' p o) := fun a u ha => by
  rw [upd_ne (ne_of_none ha h)]
  exact e a u ha
theorem upd_free {H : Hp} {p a : Addr} {o : HO} (h : upd H p o a = none) : H a = none ∧ a ≠ p := by
  by_cases z : a = p
  · subst z; rw [upd_same] at h; cases h
  · rw [upd_ne z] at h; exact ⟨h, z⟩
theorem Xb.mut {H H' : Hp} {p : Addr} {o : HO} (e : Xb H H') (h : H p = none) : Xb H (upd H' p o) := ⟨fun a u ha n => by
  rw [upd_ne (ne_of_none ha h)]
  exact e a u ha n, fun a n => e.free a (upd_free n).1⟩
theorem Xb.tup {H H' : Hp} (e : Xb H H') {K : PySem.W.Frag} {a : Addr} {xs : List V} (h : SqT K H a xs) : SqT K H' a xs := by
  rcases h with (h | ⟨o, h⟩) | h
  · exact .inl (.inl (e _ _ h rfl))
  · exact .inl (.inr ⟨o, e _ _ h rfl⟩)
  · exact .inr h

mutual
inductive Rp (K : PySem.W.Frag) (H : Hp) : V → PyData → Prop
  | non : Rp K H .non .none
  | bl (b : Bool) : Rp K H (.bl b) (.bool b)
  | int (i : Int) : Rp K H (.int i) (.int i)
  | str (x : Str) : Rp K H (.str x) (.str x)
  | tup {a : Addr} {xs : List V} {ds : List PyData} : SqT K H a xs → RpAll K H xs ds → Rp K H (.ref a) (.tuple ds)
  | lst {a : Addr} {xs : List V} {ds : List PyData} : H a = some (.lst xs) → handSh (.lst xs) = false → RpAll K H xs ds → Rp K H (.ref a) (.list ds)
  | dct {a : Addr} : H a = some (.dK []) → Rp K H (.ref a) (.dict [])
inductive RpAll (K : PySem.W.Frag) (H : Hp) : List V → List PyData → Prop
  | nil : RpAll K H [] []
  | cons {v : V} {vs : List V} {d : PyData} {ds : List PyData} : Rp K H v d → RpAll K H vs ds → RpAll K H (v :: vs) (d :: ds)
end
section
variable {K : PySem.W.Frag} {H H' : Hp}
mutual
theorem Rp.mono (e : Xb H H') : ∀ {v : V} {d : PyData}, Rp K H v d → Rp K H' v d
  | _, _, .non => .non
  | _, _, .bl b => .bl b
  | _, _, .int i => .int i
  | _, _, .str x => .str x
  | _, _, .tup h r => .tup (e.tup h) (RpAll.mono e r)
  | _, _, .lst h n r => .lst (e _ _ h n) n (RpAll.mono e r)
  | _, _, .dct h => .dct (e _ _ h rfl)
theorem RpAll.mono (e : Xb H H') : ∀ {vs : List V} {ds : List PyData}, RpAll K H vs ds → RpAll K H' vs ds
  | _, _, .nil => .nil
  | _, _, .cons h r => .cons (Rp.mono e h) (RpAll.mono e r)
end
theorem RpAll.len : ∀ {vs : List V} {ds : List PyData}, RpAll K H vs ds → vs.length = ds.length
  | _, _, .nil => rfl
  | _, _, .cons _ r => congrArg Nat.succ (RpAll.len r)
theorem RpAll.at : ∀ {vs : List V} {ds : List PyData} {i : Nat} {v : V}, RpAll K H vs ds → vs[i]? = some v → ∃ d, ds[i]? = some d ∧ Rp K H v d
  | _, _, _, _, .nil, h => by simp at h
  | _, _, 0, _, .cons h _, e => ⟨_, rfl, by cases e; exact h⟩
  | _, _, i + 1, _, .cons _ r, e => RpAll.at (i := i) r e
theorem RpAll.at' : ∀ {vs : List V} {ds : List PyData} {i : Nat} {d : PyData}, RpAll K H vs ds → ds[i]? = some d → ∃ v, vs[i]? = some v ∧ Rp K H v d
  | _, _, _, _, .nil, h => by simp at h
  | _, _, 0, _, .cons h _, e => ⟨_, rfl, by cases e; exact h⟩
  | _, _, i + 1, _, .cons _ r, e => RpAll.at' (i := i) r e
theorem RpAll.app : ∀ {vs ws : List V} {ds es : List PyData}, RpAll K H vs ds → RpAll K H ws es → RpAll K H (vs ++ ws) (ds ++ es)
  | _, _, _, _, .nil, r => r
  | _, _, _, _, .cons h t, r => .cons h (RpAll.app t r)
theorem RpAll.take : ∀ {vs : List V} {ds : List PyData} (n : Nat), RpAll K H vs ds → RpAll K H (vs.take n) (ds.take n)
  | _, _, 0, _ => by simp; exact .nil
  | _, _, n + 1, .nil => .nil
  | _, _, n + 1, .cons h t => .cons h (RpAll.take n t)
theorem RpAll.drop : ∀ {vs : List V} {ds : List PyData} (n : Nat), RpAll K H vs ds → RpAll K H (vs.drop n) (ds.drop n)
  | _, _, 0, r => r
  | _, _, n + 1, .nil => .nil
  | _, _, n + 1, .cons _ t => RpAll.drop n t
theorem RpAll.ints (ns : List Int) : RpAll K H (ns.map V.int) (ns.map PyData.int) := by
  induction ns with
  | nil => exact .nil
  | cons n r ih => exact .cons (.int n) ih
mutual
theorem Rp.dp : ∀ {v : V} {d : PyData}, Rp K H v d → (∀ l, d ≠ .dict l) → PyData.canLay0 d = true → Dp K H v d
  | _, _, .non, _, _ => .non
  | _, _, .bl b, _, _ => .bl b
  | _, _, .int i, _, _ => .int i
  | _, _, .str x, _, _ => .str x
  | _, _, .tup h r, _, c => .tup h (RpAll.dp r (by simpa [PyData.canLay0] using c))
  | _, _, .lst h _ r, _, c => .lst (.inl (.inl h)) (RpAll.dp r (by simpa [PyData.canLay0] using c))
  | _, _, .dct _, n, _ => absurd rfl (n _)
theorem RpAll.dp : ∀ {vs : List V} {ds : List PyData}, RpAll K H vs ds → PyData.canLayAll0 ds = true → DpAll K H vs ds
  | _, _, .nil, _ => .nil
  | _, _, .cons h r, c => by
    have c2 := c
    simp only [PyData.canLayAll0, Bool.and_eq_true] at c2
    exact .cons (Rp.dp h (fun l e => by subst e; simp [PyData.canLay0] at c2) c2.1) (RpAll.dp r c2.2)
end
end

/-- a new object of so many parts -/
def NewB (f : List V → HO) (xs : List V) (H : Hp) (Q : VK) : Prop := xs.length ≤ sizeLine ∧ ∀ p, H p = none → Q (.ref p) (upd H p (f xs))
section
variable {K : PySem.W.Frag} {σ : L2.St} {H : Hp} {i j : Int} {n : Nat} {v x y : V} {Q : VK} {D : Ends} {ta tb tc te : TE} {t u c : TT} {tu tw : TS} {r r' : R2} {tr tk : TA} {QA : List V → Hp → Prop} {QB : Bool → Hp → Prop} {A B : Prop} {b : Bool} {p : Prop}
theorem w_seq (h : tu { D with nx := tw D } σ H) : tSeq tu tw D σ H := h
theorem w_next (h : D.nx σ H) : tNext D σ H := h
theorem w_asg (h : te σ H fun v H1 => D.nx (σ.set n (some v)) H1) : tAsg te (gName n) D σ H := h
theorem w_asgG {g : TG} (h : te σ H fun v H1 => g v σ H1 D.nx) : tAsg te g D σ H := h
theorem w_gSub {s : TSet} {q : L2.St → Hp → Prop} (h : ta σ H fun o H1 => tb σ H1 fun i H2 => s o i v H2 fun H3 => q σ H3) : gSub ta tb s v σ H q := h
theorem w_ret (h : te σ H D.rt) : tRet te D σ H := h
theorem w_ifS (h : c σ H fun b H1 => if b = true then tu D σ H1 else tw D σ H1) : tIfS c tu tw D σ H := h
theorem w_isVar (h : tVar n σ H Q) : tVar n σ H Q := h
theorem w_var (h : σ[n]? = some (some v)) (q : Q v H) : tVar n σ H Q := ⟨v, h, q⟩
theorem w_c (q : Q v H) : tC v σ H Q := q
theorem w_nil (q : QA [] H) : tNil σ H QA := q
theorem w_cons (h : ta σ H fun x H1 => tr σ H1 fun xs H2 => QA (x :: xs) H2) : tCons ta tr σ H QA := h
theorem w_op (h : ta σ H fun x H1 => tb σ H1 fun y H2 => r x y H2 Q) : tOp r ta tb σ H Q := h
theorem w_cb {f : List V → Hp → VK → Prop} (h : tr σ H fun vs H1 => f vs H1 Q) : tCB f tr σ H Q := h
theorem w_test (h : te σ H fun x H' => ∃ k, x = .bl k ∧ QB k H') : tTest te σ H QB := h
theorem w_exb {q : Bool → Prop} (h : q b) : ∃ k, V.bl b = .bl k ∧ q k := ⟨b, rfl, h⟩
theorem w_add (q : Q (.int (i + j)) H) : rI0 (fun i j => .int (i + j)) (.int i) (.int j) H Q := ⟨i, j, rfl, rfl, q⟩
theorem w_lt (q : Q (.bl (decide (i < j))) H) : rI0 (fun i j => .bl (decide (i < j))) (.int i) (.int j) H Q := ⟨i, j, rfl, rfl, q⟩
theorem w_gt (q : Q (.bl (decide (j < i))) H) : rI0 (fun i j => .bl (decide (j < i))) (.int i) (.int j) H Q := ⟨i, j, rfl, rfl, q⟩
theorem w_ge (q : Q (.bl (decide (j ≤ i))) H) : rI0 (fun i j => .bl (decide (j ≤ i))) (.int i) (.int j) H Q := ⟨i, j, rfl, rfl, q⟩
theorem w_mod (h : 0 < j) (q : Q (.int (i % j)) H) : rI (fun _ j => 0 < j) (fun i j => .int (i % j)) (.int i) (.int j) H Q := ⟨i, j, rfl, rfl, h, q⟩
theorem w_fdiv (h0 : 0 < j) (h1 : j < 2 ^ 200) (q : Q (.int (i / j)) H) : rI CDivW (fun i j => .int (i / j)) (.int i) (.int j) H Q := ⟨i, j, rfl, rfl, wide_div h0 (b := 200) (by omega) (by decide) (by decide), q⟩
theorem w_mulR (h : -18446744073709551616 < j ∧ j < 18446744073709551616) (q : Q (.int (i * j)) H) : rI CMul (fun i j => .int (i * j)) (.int i) (.int j) H Q := ⟨i, j, rfl, rfl, Or.inr h, q⟩
theorem w_pow_6 (q : Q (.int 1000000) H) : rI CPow (fun i j => .int (i ^ j.toNat)) (.int 10) (.int 6) H Q := ⟨10, 6, rfl, rfl, ⟨by decide, by decide, by decide⟩, q⟩
theorem w_pow_18 (q : Q (.int 1000000000000000000) H) : rI CPow (fun i j => .int (i ^ j.toNat)) (.int 10) (.int 18) H Q := ⟨10, 18, rfl, rfl, ⟨by decide, by decide, by decide⟩, q⟩
theorem w_ixL {a : Addr} {xs : List V} (h : SqL K H a xs) (e : atI xs i = some v) (q : Q v H) : rIxL K (.ref a) (.int i) H Q := ⟨a, xs, i, v, rfl, rfl, h, e, q⟩
theorem w_setL {a : Addr} {xs : List V} {q : Hp → Prop} {m : Nat} (h : H a = some (.lst xs)) (e : ixN xs.length i = some m) (k : q (upd H a (.lst (xs.set m v)))) : rSetL (.ref a) (.int i) v H q := ⟨a, xs, i, m, rfl, rfl, h, e, k⟩
theorem w_lstD (h : tr σ H fun xs H1 => NewB HO.lst xs H1 Q) : tLst tr σ H Q := h
/-- a new object, its heap by a letter -/
theorem w_new {xs : List V} {f : List V → HO} (hl : xs.length ≤ 1000) (h : ∀ q H2, H q = none → Ex H H2 → H2 q = some (f xs) → (∀ a, a ≠ q → H2 a = H a) → Q (.ref q) H2) : NewB f xs H Q :=
  ⟨Nat.le_of_lt (small1000 hl), fun p hp => h p _ hp (Ex.new hp) upd_same fun a ha => upd_ne ha⟩
theorem w_new0 {o : HO} (h : ∀ q H2, H q = none → Ex H H2 → H2 q = some o → (∀ a, a ≠ q → H2 a = H a) → Q (.ref q) H2) : ∀ p, H p = none → Q (.ref p) (upd H p o) :=
  fun p hp => h p _ hp (Ex.new hp) upd_same fun a ha => upd_ne ha
theorem w_dec [Decidable p] (h1 : p → A) (h2 : ¬ p → B) : if decide p = true then A else B := ite2 (fun h => h1 (of_decide_eq_true h)) fun h => h2 (fun q => h (decide_eq_true q))
theorem sq_of {a : Addr} {xs : List V} (h : H a = some (.lst xs)) : SqL K H a xs := .inl (.inl h)
end
section
variable {X : Cx} {CX : CXT} {k : Nat} {f : Addr} {fd : FuncData} {ps ks : List Str} {sp : Sp} {E : XK} {x : Str} {p pos : Pos} {kws : List Keyword} {tk : TA} {g : List Value → List Value → List Value} {gV : List V → List V → List V}
end

def rAbs : List V → Hp → VK → Prop := fun xs H Q => ∃ i, xs = [.int i] ∧ Q (.int (if i < 0 then -i else i)) H
def rInt : List V → Hp → VK → Prop := fun xs H Q => (∃ i, xs = [.int i] ∧ Q (.int i) H) ∨ ∃ k, xs = [.bl k] ∧ Q (.int (if k then 1 else 0)) H
def rMax2 : List V → Hp → VK → Prop := fun xs H Q => ∃ i j, xs = [.int i, .int j] ∧ Q (.int (if j > i then j else i)) H
def rMin2 : List V → Hp → VK → Prop := fun xs H Q => ∃ i j, xs = [.int i, .int j] ∧ Q (.int (if j < i then j else i)) H
def rLen (K : PySem.W.Frag) : List V → Hp → VK → Prop := fun xs H Q => ∃ x n, xs = [x] ∧ LenV K x H n ∧ Q (.int n) H
def rListOf (K : PySem.W.Frag) : List V → Hp → VK → Prop := fun xs H Q => ∃ p ys, xs = [.ref p] ∧ (SqL K H p ys ∨ SqT K H p ys) ∧ ∀ l, H l = none → Q (.ref l) (upd H l (.lst ys))
def rTupleOf (K : PySem.W.Frag) : List V → Hp → VK → Prop := fun xs H Q => ∃ p ys, xs = [.ref p] ∧ ((SqL K H p ys ∧ ∀ l, H l = none → Q (.ref l) (upd H l (.tup ys))) ∨ (SqT K H p ys ∧ Q (.ref p) H))
def rCount : V → List V → Hp → VK → Prop := fun x xs H Q => ∃ a b, x = .str a ∧ xs = [.str b] ∧ Q (.int (Txt.count a b)) H
def rJoin (K : PySem.W.Frag) : V → List V → Hp → VK → Prop := fun x xs H Q => ∃ a p, ∃ ys : List Str, x = .str a ∧ xs = [.ref p] ∧ (SqL K H p (ys.map V.str) ∨ SqT K H p (ys.map V.str)) ∧ (ys.map (·.length)).sum + ys.length * a.length ≤ 16777216 ∧ Q (.str (Txt.join a ys)) H
section
variable {X : Cx}
theorem c_abs : CallR X (.builtin "abs") rAbs := call_abs
theorem c_int : CallR X (.type "int") rInt := call_int1
theorem c_len : CallR X (.builtin "len") (rLen X.K) := call_len
theorem c_listOf : CallR X (.type "list") (rListOf X.K) := call_list_of
end
section
variable {K : PySem.W.Frag} {H : Hp} {i j : Int} {Q : VK} {a : Addr} {xs : List V} {z y : Str}
theorem w_abs (q : Q (.int (if i < 0 then -i else i)) H) : rAbs [.int i] H Q := ⟨i, rfl, q⟩
theorem w_int (q : Q (.int i) H) : rInt [.int i] H Q := .inl ⟨i, rfl, q⟩
theorem w_lenL (h : SqL K H a xs) (q : Q (.int xs.length) H) : rLen K [.ref a] H Q := ⟨.ref a, xs.length, rfl, .inl ⟨xs, h, rfl⟩, q⟩
theorem w_listL (h : SqL K H a xs) (q : ∀ l H2, H l = none → Ex H H2 → H2 l = some (.lst xs) → (∀ a, a ≠ l → H2 a = H a) → Q (.ref l) H2) : rListOf K [.ref a] H Q := ⟨a, xs, rfl, .inl h, w_new0 q⟩
end
end J

namespace J
open PySem PySem.Spec PyProof.Rows L2
def LoopB (J : It) (g : TG) (tb : TS) (D : Ends) (σ : L2.St) (H1 : Hp) : Prop := ∃ W : Nat → Nat → L2.St → Hp → Prop, (∃ m, W 0 m σ H1) ∧ ∀ i m σ H, W i m σ H →
  (J.stop i H ∧ D.nx σ H) ∨ (J.go i H ∧ ∃ N : L2.St → Hp → Prop, (∀ σ' H', N σ' H' → ∃ m', m' < m ∧ W (i + 1) m' σ' H') ∧ ∀ x H', J.yld i H x H' → g x σ H' fun σ2 H2 => tb { D with nx := N, ct := N, bk := D.nx } σ2 H2)
def LcB (J : It) (g : TG) (tt : TT) (te : TE) (vs : List Nat) (σ : L2.St) (H1 : Hp) (Q : VK) : Prop := ∀ D, H1 D = none → ∃ W : Nat → Nat → Hp → Prop, (∃ m, W 0 m (upd H1 D (.lst []))) ∧ ∀ i m H, W i m H →
  (J.stop i H ∧ Q (.ref D) H) ∨ (J.go i H ∧ ∃ Nx : Hp → Prop, (∀ H', Nx H' → ∃ m', m' < m ∧ W (i + 1) m' H') ∧ ∀ x H', J.yld i H x H' → g x (wipe σ vs) H' fun σ2 H2 => wipe σ2 vs = wipe σ vs ∧ tt σ2 H2 fun b H3 =>
    if b = true then te σ2 H3 fun y H4 => ∃ acc, H4 D = some (.lst acc) ∧ acc.length < sizeLine ∧ Nx (upd H4 D (.lst (acc ++ [y]))) else Nx H3)
def WhB (c : TT) (tb : TS) (D : Ends) (σ : L2.St) (H : Hp) : Prop := ∃ W : Nat → L2.St → Hp → Prop, (∃ m, W m σ H) ∧ ∀ m σ H, W m σ H →
  c σ H fun b H1 => if b = true then ∃ N : L2.St → Hp → Prop, (∀ σ' H', N σ' H' → ∃ m', m' < m ∧ W m' σ' H') ∧ tb { D with nx := N, ct := N, bk := D.nx } σ H1 else D.nx σ H1
section
variable {K : PySem.W.Frag} {σ : L2.St} {H : Hp} {Q : VK} {D : Ends} {tl te : TE} {tt c : TT} {g : TG} {tb : TS} {ta : TA} {vs : List Nat} {wi : TI} {R : It → Hp → Prop} {QB : Bool → Hp → Prop} {k : L2.St → Hp → Prop} {v x y z : V} {i j m : Nat} {a : Addr}
end
def tyName : PyData → String
  | .none => "NoneType" | .bool _ => "bool" | .int _ => "int" | .str _ => "str" | .list _ => "list" | .tuple _ => "tuple" | .dict _ => "dict"
theorem Rp.ty {K : PySem.W.Frag} {H : Hp} {v : V} {d : PyData} (h : Rp K H v d) : TyX K H v (.type (tyName d)) := by
  cases h with
  | non => exact .base .non
  | bl b => exact .base (.bl b)
  | int i => exact .base (.int i)
  | str x => exact .base (.str x)
  | lst e _ _ => exact .base (.lst e)
  | dct e => exact .base (.dK e)
  | tup hs _ =>
    rcases hs with (h | ⟨o, h⟩) | ⟨o, its, n, e, c, _⟩
    · exact .base (.tup h)
    · exact .fTuple h
    · exact .kTuple e c
def isTupD : PyData → Bool
  | .tuple _ => true | _ => false
def isStrD : PyData → Bool
  | .str _ => true | _ => false
def isIntD : PyData → Bool
  | .int _ => true | .bool _ => true | _ => false
def isBoolD : PyData → Bool
  | .bool _ => true | _ => false
section
variable {K : PySem.W.Frag} {H : Hp} {Q : VK} {v : V} {d : PyData}
end
section
variable {K : PySem.W.Frag} {H : Hp} {z : Str} {P : Prop} {vs : List V} {ds : List PyData} {v : V} {d d1 d2 d3 : PyData}
theorem RpAll.two (h : RpAll K H vs [d1, d2]) : ∃ v1 v2, vs = [v1, v2] ∧ Rp K H v1 d1 ∧ Rp K H v2 d2 := by
  cases h with | cons h1 r => cases r with | cons h2 r => cases r with | nil => exact ⟨_, _, rfl, h1, h2⟩
theorem RpAll.three (h : RpAll K H vs [d1, d2, d3]) : ∃ v1 v2 v3, vs = [v1, v2, v3] ∧ Rp K H v1 d1 ∧ Rp K H v2 d2 ∧ Rp K H v3 d3 := by
  cases h with | cons h1 r => cases r with | cons h2 r => cases r with | cons h3 r => cases r with | nil => exact ⟨_, _, _, rfl, h1, h2, h3⟩
theorem Rp.isInt {i : Int} (h : Rp K H v (.int i)) : v = .int i := by cases h; rfl
theorem Rp.isStr {x : Str} (h : Rp K H v (.str x)) : v = .str x := by cases h; rfl
theorem Rp.isBl {x : Bool} (h : Rp K H v (.bool x)) : v = .bl x := by cases h; rfl
theorem Rp.isTup (h : Rp K H v (.tuple ds)) : ∃ a xs, v = .ref a ∧ SqT K H a xs ∧ RpAll K H xs ds := by
  cases h with | tup hs r => exact ⟨_, _, rfl, hs, r⟩
end
section
variable {K : PySem.W.Frag} {H H' : Hp} {Q : VK} {to te : TE} {t : TA} {σ : L2.St} {r : V → List V → Hp → VK → Prop} {T : String} {l a : Addr} {xs ds : List V} {y v x : V} {z : Str}
theorem Xb.at {b : Addr} (e : Xb H H') {ys : List V} (h : H b = some (.tup ys)) : H' b = some (.tup ys) := e _ _ h rfl
end
def ListR3 (vs : List V) (H : Hp) (Q : VK) : Prop := ∃ (i j c : Int) (n : Nat), vs = [.int i, .int j, .int c] ∧ RgC i j c n ∧ n ≤ 2 ^ 24 ∧ ∀ q, H q = none → Q (.ref q) (upd H q (.lst (((List.range n).map fun k : Nat => i + (k : Int) * c).map V.int)))
def tListR3 (ta : TA) : TE := fun σ H Q => ta σ H fun vs H1 => ListR3 vs H1 Q
end J

namespace J
open PySem PySem.Spec PyProof.Rows L2
/-- a new tuple, its object known to have no dict of its own -/
def NewF (xs : List V) (H : Hp) (Q : VK) : Prop := xs.length ≤ sizeLine ∧ ∀ p o, H p = none → o.dict = none → Q (.ref p) (upd H p (.frz o (.tup xs)))
def tTupF (t : TA) : TE := fun σ H Q => t σ H fun xs H1 => NewF xs H1 Q
theorem pe_tupF {X : Cx} {es : List Expr} {t : TA} {pos : Pos} {x1} (h : PA X es t) : PE X (.Tuple es x1 pos) (tTupF t) := by
  refine ⟨fun pins s σ H Q I hq => ?_⟩
  refine wpAny_Tuple_spliced (thn (h.run pos pins s σ H _ I hq) fun us s1 ⟨xs, H1, I1, r, z, q⟩ => ⟨by rw [← r.length]; exact z, ?_⟩)
  have hf : H1 s1.heap.objs.size = none := I1.hok.fresh (Nat.le_refl _)
  refine ⟨.ref s1.heap.objs.size, upd H1 s1.heap.objs.size (.frz { cls := .type "tuple", data := .seq us.toArray } (.tup xs)), I1.laid (t' := s1.toks) (fun b u e => Heap.get?_push_of_some _ e) (Nat.le_refl _) ?_, rfl, q _ _ hf rfl⟩
  exact ⟨Heap.get?_push_size _ rfl, z, us, r, ⟨_, Heap.get?_push_size _ rfl, rfl, _, rfl⟩⟩
def rTupleF (K : PySem.W.Frag) : List V → Hp → VK → Prop := fun xs H Q => ∃ p ys, xs = [.ref p] ∧ SqL K H p ys ∧ ∀ l o, H l = none → o.dict = none → Q (.ref l) (upd H l (.frz o (.tup ys)))
theorem c_tupleF {X : Cx} : CallR X (.type "tuple") (rTupleF X.K) := by
  intro pins s σ H xs us Q I r h
  obtain ⟨p, ys, rfl, hq, q⟩ := h
  obtain ⟨u, rfl, rx⟩ := vals1 r
  cases rx
  obtain ⟨its, r', pl, hz⟩ := I.list hq
  have hlen := r'.length
  refine call_tuple_list pl.isList (fun h' kp => ?_) (by simp only [List.size_toArray] <;> omega)
  have I1 : Inv X pins σ H { s with heap := h' } := I.kept (t' := s.toks) kp
  have I2 : Inv X pins σ (upd H h'.objs.size (.frz { cls := .type "tuple", data := .seq its.toArray } (.tup ys))) { s with heap := h'.push { cls := .type "tuple", data := .seq its.toArray } } :=
    I1.laid (t' := s.toks) (fun b o e => Heap.get?_push_of_some _ e) (Nat.le_refl _) (show ObjOk X.prog X.w _ _ _ (.frz _ (.tup ys)) from ⟨Heap.get?_push_size _ rfl, hz, its, r', IsTup.new _ _⟩)
  exact ⟨.ref h'.objs.size, _, I2, rfl, q _ _ (I1.hok.fresh (Nat.le_refl _)) rfl⟩
/-- dict(t), t a tuple of pairs -/
def rDictT (K : PySem.W.Frag) : List V → Hp → VK → Prop := fun xs H Q => ∃ (a : Addr) (o : Obj) (ps : List Addr) (kvs : List (Key × V)), xs = [.ref a] ∧ H a = some (.frz o (.tup (ps.map V.ref))) ∧ o.dict = none ∧ Paired (fun p kv => SqT K H p [kV kv.1, kv.2]) ps kvs ∧
  ∀ p, H p = none → Q (.ref p) (upd H p (.dK (mergeK [] kvs)))
def rListStr : List V → Hp → VK → Prop := fun xs H Q => ∃ z, xs = [.str z] ∧ z.length ≤ sizeLine ∧ ∀ l, H l = none → Q (.ref l) (upd H l (.lst ((z.cps.toList.map fun c => (⟨#[c]⟩ : Str)).map V.str)))
section
variable {K : PySem.W.Frag} {H : Hp} {Q : VK} {a : Addr} {xs : List V} {z : Str} {σ : L2.St} {tr : TA}
end
end J

namespace J
open PySem PySem.Spec PyProof.Rows L2
def rLtS : R2 := fun x y H Q => ∃ i j, x = .str i ∧ y = .str j ∧ Q (.bl (decide (i.cps.toList < j.cps.toList))) H
def rLeS : R2 := fun x y H Q => ∃ i j, x = .str i ∧ y = .str j ∧ Q (.bl (!decide (j.cps.toList < i.cps.toList))) H
def DGetB (x y : V) (H : Hp) (Q : VK) : Prop := ∃ a v, x = .ref a ∧ DGet H a y (some v) ∧ Q v H
def DNotB (x y : V) (H : Hp) (Q : VK) : Prop := ∃ a o, x = .ref a ∧ DGet H a y o ∧ Q (.bl (!o.isSome)) H
section
variable {K : PySem.W.Frag} {σ : L2.St} {H : Hp} {Q : VK} {td ty te : TE} {tl th : TO} {QO : Option Int → Hp → Prop} {i : Int} {a : Addr} {z y : Str} {v : V} {kvs : List (Key × V)} {xs : List V}
end
end J
namespace DL
open PySem PySem.Spec PyProof.Rows L2
def SqN (K : PySem.W.Frag) (G : Hp) (a : Addr) (xs : List V) : Prop := (∃ o, G a = some (.frz o (.tup xs)) ∧ o.dict = none) ∨
  ∃ (o : Obj) (its : Array Value) (n : Nat), K.lookup a = some o ∧ o.cls = .type "tuple" ∧ o.dict = none ∧ o.data = .seq its n ∧ its.size ≤ sizeLine ∧ Vals xs its.toList
theorem SqN.sqT {K : PySem.W.Frag} {G : Hp} {a : Addr} {xs : List V} (h : SqN K G a xs) : SqT K G a xs := by
  rcases h with ⟨o, h, _⟩ | ⟨o, its, n, h1, h2, _, h3, h4, h5⟩
  · exact .inl (.inr ⟨o, h⟩)
  · exact .inr ⟨o, its, n, h1, h2, h3, h4, h5⟩
theorem sqN_mono {K : PySem.W.Frag} {G G' : Hp} (e : ∀ a o, G a = some o → G' a = some o) {a : Addr} {xs : List V} (h : SqN K G a xs) : SqN K G' a xs := by
  rcases h with ⟨o, h, hd⟩ | h
  · exact .inl ⟨o, e _ _ h, hd⟩
  · exact .inr h
section
variable {X : Cx}
def tupO (its : List Value) : Obj := { cls := .type "tuple", data := .seq its.toArray }
theorem Inv.tnewF {pins : List (Addr × Obj)} {σ : L2.St} {H : Hp} {s : Shared} {its : List Value} {ys : List V} {t' : Nat} (I : Inv X pins σ H s) (hv : Vals ys its) (hz : ys.length ≤ sizeLine) :
    Inv X pins σ (upd H s.heap.objs.size (.frz (tupO its) (.tup ys))) { s with heap := s.heap.push { cls := .type "tuple", data := .seq its.toArray }, toks := t' } :=
  I.laid (t' := t') (fun b o e => Heap.get?_push_of_some _ e) (Nat.le_refl _) (show ObjOk X.prog X.w _ _ _ (.frz _ (.tup ys)) from ⟨Heap.get?_push_size _ rfl, hz, its, hv, IsTup.new _ _⟩)
/-- tuple(x) -/
def rTupOf (K : PySem.W.Frag) : List V → Hp → VK → Prop := fun xs H Q => ∃ p ys, xs = [.ref p] ∧ ((SqL K H p ys ∧ ∀ l o, H l = none → o.dict = none → Q (.ref l) (upd H l (.frz o (.tup ys)))) ∨ (SqT K H p ys ∧ Q (.ref p) H))
theorem c_tupOf : CallR X (.type "tuple") (rTupOf X.K) := by
  intro pins s σ H xs us Q I r h
  obtain ⟨p, ys, e, h⟩ := h
  rcases h with ⟨h1, h2⟩ | ⟨h1, h2⟩
  · exact J.c_tupleF pins s σ H xs us Q I r ⟨p, ys, e, h1, h2⟩
  · exact call_tupleT pins s σ H xs us Q I r ⟨p, ys, e, h1, h2⟩
/-- t + u -/
def rCatF (K : PySem.W.Frag) : R2 := fun x y H Q => ∃ a b xs ys, x = .ref a ∧ y = .ref b ∧ SqT K H a xs ∧ SqT K H b ys ∧ xs.length + ys.length ≤ sizeLine ∧
  (xs = [] → Q (.ref b) H) ∧ (xs ≠ [] → ys = [] → Q (.ref a) H) ∧ (xs ≠ [] → ys ≠ [] → ∀ p o, H p = none → o.dict = none → Q (.ref p) (upd H p (.frz o (.tup (xs ++ ys)))))
theorem op_catF : OpR X (binaryOp .Add) (rCatF X.K) := by
  intro pins s σ H x y v u Q I rx ry h
  obtain ⟨a, b, xs, ys, rfl, rfl, ha, hb, hz, q0, q1, q2⟩ := h
  cases rx
  cases ry
  obtain ⟨its, r1, p1, _⟩ := I.tuple ha
  obtain ⟨its2, r2, p2, _⟩ := I.tuple hb
  by_cases hx : xs = []
  · subst hx
    cases r1
    exact cat_tup0 p1 p2 ⟨.ref b, H, I, rfl, q0 rfl⟩
  · refine HT.cat_tup p1 p2 (fun z => hx (r1.nil_iff.mp z)) (fun z => ⟨.ref a, H, I, rfl, q1 hx (r2.nil_iff.mp z)⟩) (fun z => ?_) (by rw [← r1.length, ← r2.length]; exact hz)
    exact ⟨.ref s.heap.objs.size, _, Inv.tnewF (t' := s.toks) I (r1.append r2) (by rw [List.length_append]; exact hz), rfl, q2 hx (fun w => z (r2.nil_iff.mpr w)) _ _ (I.hok.fresh (Nat.le_refl _)) rfl⟩
/-- t[lo:hi] -/
def rSlF (K : PySem.W.Frag) : V → Option Int → Option Int → Hp → VK → Prop := fun x lo hi H Q => ∃ a xs, x = .ref a ∧ SqT K H a xs ∧
  (HT.sIx xs.length 0 lo = 0 ∧ HT.sIx xs.length xs.length hi = xs.length → Q (.ref a) H) ∧ (¬ (HT.sIx xs.length 0 lo = 0 ∧ HT.sIx xs.length xs.length hi = xs.length) → ∀ p o, H p = none → o.dict = none → Q (.ref p) (upd H p (.frz o (.tup (cutV xs lo hi)))))
theorem sl_tupF : SlR X (rSlF X.K) := by
  intro pins s σ H x v vl vu lo hi sl Q I rx hs pl pu h
  obtain ⟨a, xs, rfl, hx, q1, q2⟩ := h
  cases rx
  obtain ⟨its, r, ht, hz⟩ := I.tuple hx
  have hlen : its.toArray.size = xs.length := by rw [List.size_toArray]; exact r.length.symm
  refine ⟨"tuple", _, PyProof.Rows.slot_tuple_getitem.lookup, ht.typeIs, ?_⟩
  by_cases hw : HT.sIx xs.length 0 lo = 0 ∧ HT.sIx xs.length xs.length hi = xs.length
  · exact getItem_tuple_whole ht hs pl pu (by rw [hlen]; exact hw) ⟨.ref a, H, I, rfl, q1 hw⟩
  · refine HT.getItem_tuple_cut ht hs pl pu (by rw [hlen]; exact hw) ?_ (by rw [hlen]; exact hz)
    rw [hlen]
    exact ⟨.ref s.heap.objs.size, _, Inv.tnewF (t' := s.toks) I ((r.drop (HT.sIx xs.length 0 lo)).take (HT.sIx xs.length xs.length hi - HT.sIx xs.length 0 lo)) (Nat.le_trans (cutV_length xs lo hi) hz), rfl, q2 hw _ _ (I.hok.fresh (Nat.le_refl _)) rfl⟩
/-- t * k -/
def rRepF (K : PySem.W.Frag) : R2 := fun x y H Q => ∃ l k xs, x = .ref l ∧ y = .int k ∧ SqT K H l xs ∧ xs ≠ [] ∧ 2 ≤ k ∧ k ≤ 1000 ∧ xs.length ≤ 1000 ∧ ∀ p o, H p = none → o.dict = none → Q (.ref p) (upd H p (.frz o (.tup (List.replicate k.toNat xs).flatten)))
theorem op_repF : OpR X (binaryOp .Mult) (rRepF X.K) := by
  intro pins s σ H x y v u Q I rx ry h
  obtain ⟨l, k, xs, rfl, rfl, hT, hne, h1, h2, hz, q⟩ := h
  cases rx
  obtain ⟨t, rfl⟩ := ry
  obtain ⟨its, r, ⟨⟨cls, dd, data, sl⟩, ho, hc, n, hd⟩, hs⟩ := I.tuple hT
  simp only at hc hd
  subst hc hd
  have hle : its.length = xs.length := r.length.symm
  have hn : its ≠ [] := fun e => hne (by
    rw [e] at hle
    exact List.eq_nil_of_length_eq_zero hle.symm)
  have hi : its.toArray.isEmpty = false := by
    cases its with
    | nil => exact absurd rfl hn
    | cons a b => rfl
  have hsz0 : its.toArray.size = xs.length := by rw [List.size_toArray, hle]
  have hm : ((its.toArray.size : Nat) : Int) * k ≤ 1000000 := by
    rw [hsz0]
    have a1 : ((xs.length : Nat) : Int) * k ≤ 1000 * k := Int.mul_le_mul_of_nonneg_right (by omega) (by omega)
    omega
  have flen : (List.replicate k.toNat its).flatten.length ≤ sizeLine := by
    rw [PyProof.Rows.lm_len_rep_flat, hle, sizeLine_eq]
    have a1 : k.toNat * xs.length ≤ 1000 * 1000 := Nat.mul_le_mul (by omega) hz
    omega
  have c0 : (decide (k < -(2 ^ 63)) || decide (k ≥ 2 ^ 63)) = false := by
    rw [decide_eq_false (by omega), decide_eq_false (by omega)] <;> rfl
  have c1 : (its.toArray.isEmpty || k == 1) = false := by
    rw [hi, Bool.false_or]
    exact beq_eq_false_iff_ne.mpr (by omega)
  have c2 : (decide (k ≤ 0) || its.toArray.isEmpty) = false := by
    rw [hi, Bool.or_false]
    exact decide_eq_false (by omega)
  have c4 : Builtin.Tuple.tupleTooMany (((its.toArray.size : Nat) : Int) * k) = false := by
    unfold Builtin.Tuple.tupleTooMany
    rw [sizeLine_eq]
    exact decide_eq_false (by omega)
  refine wpAny_binaryOp_repeat_ref (T := "tuple") (U := "int") (by decide) ⟨_, ho, rfl⟩ (fun s' => typeIs_int s' k t) noFill_tuple_mul F.fills_int_mul F.slot_int_rmul repeat_tuple F.slot_int_index.lookup
    (call_meets F.slot_int_rmul (typeIs_int s k t) F.entry_int_rmul (F.args_int_rmul_2 _ _) (int_rmul_tuple k t l its.toArray n dd sl)
      ⟨ho, rfl, ⟨_, ho, rfl⟩, call_meets F.slot_tuple_mul ⟨_, ho, rfl⟩ F.entry_tuple_mul (F.args_tuple_mul_2 _ _) (tuple_mulW l its.toArray n dd sl k t c0 c1 c2 (by omega) c4 (by rw [size_rep, List.size_toArray]; exact flen)) ⟨ho, ?_⟩⟩)
  rw [size_rep]
  exact ⟨.ref s.heap.objs.size, _, Inv.tnewF (t' := s.toks) I (r.rep k.toNat) (by rw [PyProof.Rows.lm_len_rep_flat, sizeLine_eq]; have a1 : k.toNat * xs.length ≤ 1000 * 1000 := Nat.mul_le_mul (by omega) hz; omega), rfl, q _ _ (I.hok.fresh (Nat.le_refl _)) rfl⟩
end

abbrev D := PyData
/-- what stands for the law's source of drawn numbers -/
def deckD : D := .dict [(.list [], .none)]
inductive DV where
  | val (d : D)
  | own (ds : List D)
  | dic (kvs : List (D × D))
/-- an object that only the place knows -/
def DV.held : DV → Bool
  | .val _ => false
  | _ => true
abbrev Env := List (Option DV)
structure Er where
  cls : Str
  fs : List (Str × D)

inductive R (α : Type) : Type where
  | ret (a : α)
  | err (e : Er)
  | any (n : Int) (k : Int → R α)
  | bad
def R.bind {α β : Type} : R α → (α → R β) → R β
  | .ret a, f => f a
  | .err e, _ => .err e
  | .any n k, f => .any n fun i => (k i).bind f
  | .bad, _ => .bad
instance : Monad R where
  pure := .ret
  bind := R.bind
/-- both ways out -/
def R.both {α β : Type} : R α → (α → R β) → (Er → R β) → R β
  | .ret a, f, _ => f a
  | .err e, _, g => g e
  | .any n k, f, g => .any n fun i => (k i).both f g
  | .bad, _, _ => .bad
def R.wp {α : Type} : R α → Nat → (Nat → α → Prop) → (Nat → Er → Prop) → Prop
  | .ret a, f, Q, _ => Q f a
  | .err e, f, _, E => E f e
  | .any n k, f, Q, E => ∃ f', f = f' + 1 ∧ ∀ i, 0 ≤ i → i < n → (k i).wp f' Q E
  | .bad, _, _, _ => False
theorem R.wp_bind {α β : Type} (m : R α) (g : α → R β) (Q : Nat → β → Prop) (E : Nat → Er → Prop) : ∀ f, (m.bind g).wp f Q E ↔ m.wp f (fun f a => (g a).wp f Q E) E := by
  induction m with
  | ret a => exact fun f => Iff.rfl
  | err e => exact fun f => Iff.rfl
  | any n k ih => exact fun f => ⟨fun ⟨f', e, h⟩ => ⟨f', e, fun i h0 h1 => (ih i f').mp (h i h0 h1)⟩, fun ⟨f', e, h⟩ => ⟨f', e, fun i h0 h1 => (ih i f').mpr (h i h0 h1)⟩⟩
  | bad => exact fun f => Iff.rfl
theorem R.wp_both {α β : Type} (m : R α) (g : α → R β) (h : Er → R β) (Q : Nat → β → Prop) (E : Nat → Er → Prop) : ∀ f, (m.both g h).wp f Q E ↔ m.wp f (fun f a => (g a).wp f Q E) (fun f e => (h e).wp f Q E) := by
  induction m with
  | ret a => exact fun f => Iff.rfl
  | err e => exact fun f => Iff.rfl
  | any n k ih => exact fun f => ⟨fun ⟨f', e, h⟩ => ⟨f', e, fun i h0 h1 => (ih i f').mp (h i h0 h1)⟩, fun ⟨f', e, h⟩ => ⟨f', e, fun i h0 h1 => (ih i f').mpr (h i h0 h1)⟩⟩
  | bad => exact fun f => Iff.rfl
theorem R.wp_mono {α : Type} {m : R α} {Q Q' : Nat → α → Prop} {E E' : Nat → Er → Prop} : ∀ {f : Nat}, m.wp f Q E → (∀ f a, Q f a → Q' f a) → (∀ f e, E f e → E' f e) → m.wp f Q' E' := by
  induction m with
  | ret a => exact fun h hQ hE => hQ _ _ h
  | err e => exact fun h hQ hE => hE _ _ h
  | any n k ih => exact fun ⟨f', e, h⟩ hQ hE => ⟨f', e, fun i h0 h1 => ih i (h i h0 h1) hQ hE⟩
  | bad => exact fun h _ _ => h
def guard' {α : Type} (b : Bool) (m : R α) : R α := if b = true then m else .bad
theorem wp_guard {α : Type} {b : Bool} {m : R α} {f : Nat} {Q : Nat → α → Prop} {E : Nat → Er → Prop} : (guard' b m).wp f Q E ↔ b = true ∧ m.wp f Q E := by
  unfold guard'
  cases b
  · exact ⟨fun h => h.elim, fun h => absurd h.1 (by decide)⟩
  · exact ⟨fun h => ⟨rfl, h⟩, fun h => h.2⟩

structure Base where
  wl : World
  K : PySem.W.Frag
  mg : Str → Option Value
  DP : Nat → Hp → List V → Prop
  S : List Addr
  dk : List Addr
  H0 : Hp
structure Wd where
  O : List Addr
  nk : List Addr
  H : Hp
  fu : Nat
def hide (N : List Addr) (H : Hp) : Hp := fun a => if a ∈ N then none else H a
theorem hide_some {N : List Addr} {H : Hp} {a : Addr} {o : HO} : hide N H a = some o ↔ a ∉ N ∧ H a = some o := by
  unfold hide
  by_cases h : a ∈ N
  · rw [if_pos h]; exact ⟨fun z => (by cases z), fun z => absurd h z.1⟩
  · rw [if_neg h]; exact ⟨fun z => ⟨h, z⟩, fun z => z.2⟩
def Base.dks (c : Base) (w : Wd) : List Addr := w.nk ++ c.dk
def Base.hid (c : Base) (w : Wd) : List Addr := w.O ++ (w.nk ++ c.S)
def Base.vis (c : Base) (w : Wd) : Hp := hide (c.hid w) w.H

def kD : Key → D
  | .inl i => .int i
  | .inr x => .str x
/-- a list that is tracked or stands in the written part -/
def SqLt (K : PySem.W.Frag) (H : Hp) (a : Addr) (xs : List V) : Prop := H a = some (.lst xs) ∨
    ∃ (o : Obj) (its : Array Value) (n : Nat), K.lookup a = some o ∧ o.cls = .type "list" ∧ o.dict = none ∧ o.data = .seq its n ∧ its.size ≤ sizeLine ∧ Vals xs its.toList
theorem SqLt.sqL {K : PySem.W.Frag} {H : Hp} {a : Addr} {xs : List V} (h : SqLt K H a xs) : SqL K H a xs := by
  rcases h with h | h
  · exact .inl (.inl h)
  · exact .inr h
/-- the law's script, which nobody writes -/
def scrD (ns : List Int) : D := .dict [(.list (ns.map PyData.int), .bool true)]
/-- what is written, and the names of the module -/
structure KM where
  K : PySem.W.Frag
  mg : Str → Option Value
/-- an error of the class cls, caught and held as a value -/
def EXO (cls : Value) (a : Addr) : HO := .ext fun h => ∃ (oe : Obj) (vs : Array Value), h.get? a = some oe ∧ Zc cls none oe ∧ oe.data = .fields vs
/-- what stands for it -/
def excD (x : Str) : D := .dict [(.list [.str x], .bool false)]
/-- a range object -/
def rgD (i j : Int) : D := .dict [(.list [.int i, .int j], .none)]
mutual
inductive Rp (K : KM) (dk : List Addr) (G : Hp) : V → D → Prop
  | non : Rp K dk G .non .none
  | bl (b : Bool) : Rp K dk G (.bl b) (.bool b)
  | int (i : Int) : Rp K dk G (.int i) (.int i)
  | str (x : Str) : Rp K dk G (.str x) (.str x)
  | tup {a : Addr} {xs : List V} {ds : List D} : SqN K.K G a xs → RpAll K dk G xs ds → Rp K dk G (.ref a) (.tuple ds)
  | scr {a : Addr} {ns : List Int} : SqL K.K G a (ns.map V.int) → Rp K dk G (.ref a) (scrD ns)
  | lst {a : Addr} {xs : List V} {ds : List D} : SqLt K.K G a xs → RpAll K dk G xs ds → Rp K dk G (.ref a) (.list ds)
  | dct {a : Addr} {o : Obj} {kvs : List (Key × V)} {ds : List (D × D)} : G a = some (.frz o (.dK kvs)) → RpKV K dk G kvs ds → Rp K dk G (.ref a) (.dict ds)
  | deck {a : Addr} : a ∈ dk → Rp K dk G (.ref a) deckD
  | exc {a : Addr} {cls : Value} {x : Str} : K.mg x = some cls → G a = some (EXO cls a) → Rp K dk G (.ref a) (excD x)
  | rng {a : Addr} {i j : Int} : G a = some (.rng i j) → Rp K dk G (.ref a) (rgD i j)
inductive RpAll (K : KM) (dk : List Addr) (G : Hp) : List V → List D → Prop
  | nil : RpAll K dk G [] []
  | cons {v : V} {vs : List V} {d : D} {ds : List D} : Rp K dk G v d → RpAll K dk G vs ds → RpAll K dk G (v :: vs) (d :: ds)
inductive RpKV (K : KM) (dk : List Addr) (G : Hp) : List (Key × V) → List (D × D) → Prop
  | nil : RpKV K dk G [] []
  | cons {k : Key} {v : V} {kvs : List (Key × V)} {d : D} {ds : List (D × D)} : Rp K dk G v d → RpKV K dk G kvs ds → RpKV K dk G ((k, v) :: kvs) ((kD k, d) :: ds)
end
section
variable {K : PySem.W.Frag} {dk dk' : List Addr} {G G' : Hp}
theorem rd_mono (e : ∀ a o, G a = some o → G' a = some o) {a : Addr} {u : HO} (h : Rd G a u) : Rd G' a u := by
  rcases h with h | ⟨o, h⟩
  · exact .inl (e _ _ h)
  · exact .inr ⟨o, e _ _ h⟩
theorem sqL_mono (e : ∀ a o, G a = some o → G' a = some o) {a : Addr} {xs : List V} (h : SqL K G a xs) : SqL K G' a xs := by
  rcases h with h | h
  · exact .inl (rd_mono e h)
  · exact .inr h
theorem sqLt_mono (e : ∀ a o, G a = some o → G' a = some o) {a : Addr} {xs : List V} (h : SqLt K G a xs) : SqLt K G' a xs := by
  rcases h with h | h
  · exact .inl (e _ _ h)
  · exact .inr h
theorem sqT_mono (e : ∀ a o, G a = some o → G' a = some o) {a : Addr} {xs : List V} (h : SqT K G a xs) : SqT K G' a xs := by
  rcases h with h | h
  · exact .inl (rd_mono e h)
  · exact .inr h
end
section
variable {K : KM} {dk dk' : List Addr} {G G' : Hp}
mutual
theorem Rp.mono (e : ∀ a o, G a = some o → G' a = some o) (ed : ∀ a ∈ dk, a ∈ dk') : ∀ {v : V} {d : D}, Rp K dk G v d → Rp K dk' G' v d
  | _, _, .non => .non
  | _, _, .bl b => .bl b
  | _, _, .int i => .int i
  | _, _, .str x => .str x
  | _, _, .tup h r => .tup (sqN_mono e h) (RpAll.mono e ed r)
  | _, _, .scr h => .scr (sqL_mono e h)
  | _, _, .lst h r => .lst (sqLt_mono e h) (RpAll.mono e ed r)
  | _, _, .dct h r => .dct (e _ _ h) (RpKV.mono e ed r)
  | _, _, .deck h => .deck (ed _ h)
  | _, _, .exc h1 h2 => .exc h1 (e _ _ h2)
  | _, _, .rng h => .rng (e _ _ h)
theorem RpAll.mono (e : ∀ a o, G a = some o → G' a = some o) (ed : ∀ a ∈ dk, a ∈ dk') : ∀ {vs : List V} {ds : List D}, RpAll K dk G vs ds → RpAll K dk' G' vs ds
  | _, _, .nil => .nil
  | _, _, .cons h r => .cons (Rp.mono e ed h) (RpAll.mono e ed r)
theorem RpKV.mono (e : ∀ a o, G a = some o → G' a = some o) (ed : ∀ a ∈ dk, a ∈ dk') : ∀ {vs : List (Key × V)} {ds : List (D × D)}, RpKV K dk G vs ds → RpKV K dk' G' vs ds
  | _, _, .nil => .nil
  | _, _, .cons h r => .cons (Rp.mono e ed h) (RpKV.mono e ed r)
end
theorem RpAll.len : ∀ {vs : List V} {ds : List D}, RpAll K dk G vs ds → vs.length = ds.length
  | _, _, .nil => rfl
  | _, _, .cons _ r => congrArg Nat.succ (RpAll.len r)
theorem RpAll.at : ∀ {vs : List V} {ds : List D} {i : Nat} {v : V}, RpAll K dk G vs ds → vs[i]? = some v → ∃ d, ds[i]? = some d ∧ Rp K dk G v d
  | _, _, _, _, .nil, h => by simp at h
  | _, _, 0, _, .cons h _, e => ⟨_, rfl, by cases e; exact h⟩
  | _, _, i + 1, _, .cons _ r, e => RpAll.at (i := i) r e
theorem RpAll.at' : ∀ {vs : List V} {ds : List D} {i : Nat} {d : D}, RpAll K dk G vs ds → ds[i]? = some d → ∃ v, vs[i]? = some v ∧ Rp K dk G v d
  | _, _, _, _, .nil, h => by simp at h
  | _, _, 0, _, .cons h _, e => ⟨_, rfl, by cases e; exact h⟩
  | _, _, i + 1, _, .cons _ r, e => RpAll.at' (i := i) r e
theorem RpAll.app : ∀ {vs ws : List V} {ds es : List D}, RpAll K dk G vs ds → RpAll K dk G ws es → RpAll K dk G (vs ++ ws) (ds ++ es)
  | _, _, _, _, .nil, r => r
  | _, _, _, _, .cons h t, r => .cons h (RpAll.app t r)
theorem RpAll.take : ∀ {vs : List V} {ds : List D} (n : Nat), RpAll K dk G vs ds → RpAll K dk G (vs.take n) (ds.take n)
  | _, _, 0, _ => by simp; exact .nil
  | _, _, n + 1, .nil => .nil
  | _, _, n + 1, .cons h t => .cons h (RpAll.take n t)
theorem RpAll.drop : ∀ {vs : List V} {ds : List D} (n : Nat), RpAll K dk G vs ds → RpAll K dk G (vs.drop n) (ds.drop n)
  | _, _, 0, r => r
  | _, _, n + 1, .nil => .nil
  | _, _, n + 1, .cons _ t => RpAll.drop n t
theorem RpAll.set : ∀ {vs : List V} {ds : List D} {v : V} {d : D} (n : Nat), RpAll K dk G vs ds → Rp K dk G v d → RpAll K dk G (vs.set n v) (ds.set n d)
  | _, _, _, _, _, .nil, _ => .nil
  | _, _, _, _, 0, .cons h t, r => .cons r t
  | _, _, _, _, n + 1, .cons h t, r => .cons h (RpAll.set n t r)
theorem RpAll.rev : ∀ {vs : List V} {ds : List D}, RpAll K dk G vs ds → RpAll K dk G vs.reverse ds.reverse
  | _, _, .nil => .nil
  | _, _, .cons h t => by
    rw [List.reverse_cons, List.reverse_cons]
    exact RpAll.app (RpAll.rev t) (.cons h .nil)
theorem RpAll.ints (ns : List Int) : RpAll K dk G (ns.map V.int) (ns.map PyData.int) := by
  induction ns with
  | nil => exact .nil
  | cons n r ih => exact .cons (.int n) ih
theorem Rp.isInt {v : V} {i : Int} (h : Rp K dk G v (.int i)) : v = .int i := by cases h; rfl
theorem Rp.isStr {v : V} {x : Str} (h : Rp K dk G v (.str x)) : v = .str x := by cases h; rfl
theorem Rp.isBl {v : V} {x : Bool} (h : Rp K dk G v (.bool x)) : v = .bl x := by cases h; rfl
theorem Rp.isNon {v : V} (h : Rp K dk G v .none) : v = .non := by cases h; rfl
theorem Rp.isTup {v : V} {ds : List D} (h : Rp K dk G v (.tuple ds)) : ∃ a xs, v = .ref a ∧ SqT K.K G a xs ∧ RpAll K dk G xs ds := by
  cases h with | tup h r => exact ⟨_, _, rfl, h.sqT, r⟩
theorem Rp.isTupN {v : V} {ds : List D} (h : Rp K dk G v (.tuple ds)) : ∃ a xs, v = .ref a ∧ SqN K.K G a xs ∧ RpAll K dk G xs ds := by
  cases h with | tup h r => exact ⟨_, _, rfl, h, r⟩
theorem Rp.isLst' {v : V} {ds : List D} (h : Rp K dk G v (.list ds)) : ∃ a xs, v = .ref a ∧ SqLt K.K G a xs ∧ RpAll K dk G xs ds := by
  cases h with | lst h r => exact ⟨_, _, rfl, h, r⟩
theorem Rp.isLst {v : V} {ds : List D} (h : Rp K dk G v (.list ds)) : ∃ a xs, v = .ref a ∧ SqL K.K G a xs ∧ RpAll K dk G xs ds := by
  obtain ⟨a, xs, e, h, r⟩ := h.isLst'
  exact ⟨a, xs, e, h.sqL, r⟩
theorem map_int_inj : ∀ {ns ms : List Int}, ns.map PyData.int = ms.map PyData.int → ns = ms
  | [], [], _ => rfl
  | [], _ :: _, h => by cases h
  | _ :: _, [], h => by cases h
  | n :: ns, m :: ms, h => by
    injection h with h1 h2
    injection h1 with h1
    rw [h1, map_int_inj h2]
theorem Rp.isScr {v : V} {ns : List Int} (h : Rp K dk G v (scrD ns)) : ∃ a, v = .ref a ∧ SqL K.K G a (ns.map V.int) := by
  generalize hd : scrD ns = d at h
  cases h with
  | scr h =>
    unfold scrD at hd
    injection hd with hd
    injection hd with h1 h2
    injection h1 with h3 h4
    injection h3 with h5
    rw [map_int_inj h5]
    exact ⟨_, rfl, h⟩
  | deck h =>
    unfold scrD deckD at hd
    injection hd with hd
    injection hd with h1 h2
    injection h1 with h3 h4
    cases h4
  | exc _ _ =>
    unfold scrD excD at hd
    injection hd with hd
    injection hd with h1 h2
    injection h1 with h3 h4
    cases h4
  | rng _ =>
    unfold scrD rgD at hd
    injection hd with hd
    injection hd with h1 h2
    injection h1 with h3 h4
    cases h4
  | dct h r =>
    unfold scrD at hd
    cases r with
    | nil => cases hd
    | @cons k v kvs d ds h1 h2 =>
      injection hd with hd
      injection hd with h3 h4
      injection h3 with h5 h6
      cases k <;> cases h5
  | _ => cases hd
theorem Rp.isDeck {v : V} (h : Rp K dk G v deckD) : (∃ a, v = .ref a ∧ a ∈ dk) := by
  generalize hd : deckD = d at h
  cases h with
  | deck h => exact ⟨_, rfl, h⟩
  | scr h =>
    unfold scrD deckD at hd
    injection hd with hd
    injection hd with h1 h2
    injection h1 with h3 h4
    cases h4
  | exc _ _ =>
    unfold deckD excD at hd
    injection hd with hd
    injection hd with h1 h2
    injection h1 with h3 h4
    cases h4
  | rng _ =>
    unfold deckD rgD at hd
    injection hd with hd
    injection hd with h1 h2
    injection h1 with h3 h4
    cases h3
  | dct h r =>
    unfold deckD at hd
    cases r with
    | nil => cases hd
    | @cons k v kvs d ds h1 h2 =>
      injection hd with hd
      injection hd with h3 h4
      injection h3 with h5 h6
      cases k <;> cases h5
  | _ => cases hd
/-- data of scalars: no heap -/
def scalD : D → Bool
  | .none => true | .bool _ => true | .int _ => true | .str _ => true | _ => false
theorem Rp.scal {v : V} {d : D} (h : Rp K dk G v d) (s : scalD d = true) {dk2 : List Addr} {G2 : Hp} : Rp K dk2 G2 v d := by
  cases h with
  | non => exact .non
  | bl b => exact .bl b
  | int i => exact .int i
  | str x => exact .str x
  | deck h => cases s
  | exc _ _ => cases s
  | rng _ => cases s
  | scr h => cases s
  | tup _ _ => cases s
  | lst _ _ => cases s
  | dct _ _ => cases s
mutual
theorem Rp.dp : ∀ {v : V} {d : D}, Rp K dk G v d → PyData.canLay0 d = true → Dp K.K G v d
  | _, _, .non, _ => .non
  | _, _, .bl b, _ => .bl b
  | _, _, .int i, _ => .int i
  | _, _, .str x, _ => .str x
  | _, _, .tup h r, c => .tup h.sqT (RpAll.dp r (by simpa [PyData.canLay0] using c))
  | _, _, .lst h r, c => .lst h.sqL (RpAll.dp r (by simpa [PyData.canLay0] using c))
  | _, _, .scr _, c => absurd c (by simp [PyData.canLay0, scrD])
  | _, _, .dct _ _, c => absurd c (by simp [PyData.canLay0])
  | _, _, .deck _, c => absurd c (by simp [PyData.canLay0, deckD])
  | _, _, .exc _ _, c => absurd c (by simp [PyData.canLay0, excD])
  | _, _, .rng _, c => absurd c (by simp [PyData.canLay0, rgD])
theorem RpAll.dp : ∀ {vs : List V} {ds : List D}, RpAll K dk G vs ds → PyData.canLayAll0 ds = true → DpAll K.K G vs ds
  | _, _, .nil, _ => .nil
  | _, _, .cons h r, c => by
    have c2 := c
    simp only [PyData.canLayAll0, Bool.and_eq_true] at c2
    exact .cons (Rp.dp h c2.1) (RpAll.dp r c2.2)
end
end
mutual
theorem dp_mono {K : PySem.W.Frag} {G G' : Hp} (e : ∀ a o, G a = some o → G' a = some o) : ∀ {v : V} {d : D}, Dp K G v d → Dp K G' v d
  | _, _, .non => .non
  | _, _, .bl b => .bl b
  | _, _, .int i => .int i
  | _, _, .str x => .str x
  | _, _, .tup h r => .tup (sqT_mono e h) (dpAll_mono e r)
  | _, _, .lst h r => .lst (sqL_mono e h) (dpAll_mono e r)
theorem dpAll_mono {K : PySem.W.Frag} {G G' : Hp} (e : ∀ a o, G a = some o → G' a = some o) : ∀ {vs : List V} {ds : List D}, DpAll K G vs ds → DpAll K G' vs ds
  | _, _, .nil => .nil
  | _, _, .cons h r => .cons (dp_mono e h) (dpAll_mono e r)
end
mutual
def nkOf : D → Option NestedKey
  | .none => some .none
  | .int i => some (.num i)
  | .str x => some (.text x)
  | .tuple ds => match nkAll ds with
    | some ks => some (.tup ks)
    | none => none
  | _ => none
def nkAll : List D → Option (List NestedKey)
  | [] => some []
  | d :: ds => match nkOf d, nkAll ds with
    | some k, some ks => some (k :: ks)
    | _, _ => none
end
/-- a dict whose keys are tuples: the keys, where they stand, the values -/
def DTO (wl : World) (p : Addr) (xs : List (NestedKey × Addr × V)) : HO := .ext fun h => (p == sysModules) = false ∧ ∃ (o : Obj) (es : Array DictEntry) (ep : Nat) (vs : List (NestedKey × Addr × Value)),
  h.get? p = some o ∧ o.ExactDict ∧ o.data = .dict es ep ∧ es.toList = vs.map (fun x => (⟨x.1.hash wl, .ref x.2.1, x.2.2⟩ : DictEntry)) ∧ Paired (fun a b => a.1 = b.1 ∧ a.2.1 = b.2.1 ∧ RelV a.2.2 b.2.2) xs vs
abbrev RpDX (K : KM) (dk : List Addr) (G : Hp) : List (NestedKey × Addr × V) → List (D × D) → Prop :=
  Paired fun x kv => nkOf kv.1 = some x.1 ∧ x.1.depth ≤ 8 ∧ Rp K dk G (.ref x.2.1) kv.1 ∧ Rp K dk G x.2.2 kv.2
abbrev Base.KM (c : Base) : KM := ⟨c.K, c.mg⟩
structure WOk (c : Base) (w : Wd) : Prop where
  dS : ∀ a ∈ c.dk, a ∈ c.S
  SH : ∀ a ∈ c.S, c.H0 a ≠ none
  keep0 : ∀ a o, c.H0 a = some o → a ∉ c.dk → w.H a = some o
  free0 : ∀ a, w.H a = none → c.H0 a = none
  nkf : ∀ a ∈ w.nk, c.H0 a = none
  Of : ∀ a ∈ w.O, c.H0 a = none
  Oh : ∀ a ∈ w.O, w.H a ≠ none
  dis : ∀ a ∈ w.O, a ∉ w.nk
  deck : ∀ a ∈ c.dks w, ∃ vs, w.H a = some (.lst vs) ∧ c.DP w.fu (c.vis w) vs
  mono : ∀ (f f' : Nat) (G G' : Hp) vs, f' ≤ f → (∀ a o, G a = some o → G' a = some o) → c.DP f G vs → c.DP f' G' vs
  fb : w.fu ≤ 1152921504606846976
def DicAt (c : Base) (w : Wd) (p : Addr) (kvs : List (D × D)) : Prop := (∃ ks, w.H p = some (.dK ks) ∧ RpKV c.KM (c.dks w) (c.vis w) ks kvs) ∨
  ∃ xs, w.H p = some (DTO c.wl p xs) ∧ (xs.map (·.1)).Nodup ∧ RpDX c.KM (c.dks w) (c.vis w) xs kvs ∧ xs ≠ []
structure EnvOk (c : Base) (w : Wd) (σ : L2.St) (env : Env) : Prop where
  len : σ.length = env.length
  val : ∀ (i : Nat) (d : D), env[i]? = some (some (DV.val d)) → ∃ v, σ[i]? = some (some v) ∧ Rp c.KM (c.dks w) (c.vis w) v d
  own : ∀ (i : Nat) (ds : List D), env[i]? = some (some (DV.own ds)) → ∃ p vs, σ[i]? = some (some (.ref p)) ∧ p ∈ w.O ∧ w.H p = some (.lst vs) ∧ RpAll c.KM (c.dks w) (c.vis w) vs ds
  dic : ∀ (i : Nat) (kvs : List (D × D)), env[i]? = some (some (DV.dic kvs)) → ∃ p, σ[i]? = some (some (.ref p)) ∧ p ∈ w.O ∧ DicAt c w p kvs
  sep : ∀ (i j : Nat) (p : Addr) (x y : DV), i ≠ j → env[i]? = some (some x) → env[j]? = some (some y) → x.held = true → y.held = true → σ[i]? = some (some (.ref p)) → σ[j]? = some (some (.ref p)) → False
structure LE (c : Base) (w w' : Wd) : Prop where
  ex : ∀ a o, c.vis w a = some o → c.vis w' a = some o
  dk : ∀ a ∈ c.dks w, a ∈ c.dks w'
  fu : w'.fu ≤ w.fu
structure Grow (c : Base) (w w' : Wd) : Prop where
  O : w'.O = w.O
  fu : w'.fu ≤ w.fu
  keep : ∀ a o, w.H a = some o → a ∉ c.dks w → w'.H a = some o
  free : ∀ a, w'.H a = none → w.H a = none
  nk : ∃ n, w'.nk = n ++ w.nk ∧ ∀ a ∈ n, w.H a = none
  ok : WOk c w'
section
variable {c : Base} {w w' w1 w2 w3 : Wd} {σ : L2.St} {env : Env}
theorem LE.refl (c : Base) (w : Wd) : LE c w w := ⟨fun _ _ h => h, fun _ h => h, Nat.le_refl _⟩
theorem LE.trans (a : LE c w1 w2) (b : LE c w2 w3) : LE c w1 w3 := ⟨fun x o h => b.ex x o (a.ex x o h), fun x h => b.dk x (a.dk x h), Nat.le_trans b.fu a.fu⟩
theorem LE.rp (e : LE c w w') {v : V} {d : D} (h : Rp c.KM (c.dks w) (c.vis w) v d) : Rp c.KM (c.dks w') (c.vis w') v d := h.mono e.ex e.dk
theorem LE.rpAll (e : LE c w w') {v : List V} {d : List D} (h : RpAll c.KM (c.dks w) (c.vis w) v d) : RpAll c.KM (c.dks w') (c.vis w') v d := h.mono e.ex e.dk
theorem dks_hid (k : WOk c w) {a : Addr} (h : a ∈ c.dks w) : a ∈ c.hid w := by
  rcases List.mem_append.mp h with h | h
  · exact List.mem_append_right _ (List.mem_append_left _ h)
  · exact List.mem_append_right _ (List.mem_append_right _ (k.dS _ h))
theorem hid_there (k : WOk c w) {a : Addr} (h : a ∈ c.hid w) : w.H a ≠ none := by
  rcases List.mem_append.mp h with h | h
  · exact k.Oh _ h
  · rcases List.mem_append.mp h with h | h
    · obtain ⟨vs, e, _⟩ := k.deck a (List.mem_append_left _ h)
      rw [e]; intro z; cases z
    · exact fun z => k.SH _ h (k.free0 _ z)
theorem own_notdk (k : WOk c w) {a : Addr} (h : a ∈ w.O) : a ∉ c.dks w := fun z => by
  rcases List.mem_append.mp z with z | z
  · exact k.dis _ h z
  · exact k.SH _ (k.dS _ z) (k.Of _ h)
theorem Grow.refl (k : WOk c w) : Grow c w w := ⟨rfl, Nat.le_refl _, fun _ _ h _ => h, fun _ h => h, ⟨[], rfl, fun a h => by cases h⟩, k⟩
theorem Grow.dks (g : Grow c w w') : ∀ a ∈ c.dks w, a ∈ c.dks w' := fun a h => by
  obtain ⟨n, e, _⟩ := g.nk
  unfold Base.dks at h ⊢
  rw [e, List.append_assoc]
  exact List.mem_append_right _ h
theorem Grow.hidback (g : Grow c w w') {a : Addr} (h : a ∈ c.hid w') (n : w.H a ≠ none) : a ∈ c.hid w := by
  obtain ⟨k, e, hn⟩ := g.nk
  unfold Base.hid at h ⊢
  rw [g.O, e, List.append_assoc] at h
  rcases List.mem_append.mp h with h | h
  · exact List.mem_append_left _ h
  · rcases List.mem_append.mp h with h | h
    · exact absurd (hn _ h) n
    · exact List.mem_append_right _ h
theorem Grow.le (k : WOk c w) (g : Grow c w w') : LE c w w' := ⟨fun a o h => by
  obtain ⟨h1, h2⟩ := hide_some.mp h
  refine hide_some.mpr ⟨fun z => h1 (g.hidback z (by rw [h2]; intro q; cases q)), g.keep _ _ h2 fun z => h1 (dks_hid k z)⟩, g.dks, g.fu⟩
theorem Grow.trans (k : WOk c w1) (a : Grow c w1 w2) (b : Grow c w2 w3) : Grow c w1 w3 := by
  refine ⟨b.O.trans a.O, Nat.le_trans b.fu a.fu, fun x o h n => ?_, fun x h => a.free _ (b.free _ h), ?_, b.ok⟩
  · refine b.keep _ _ (a.keep _ _ h n) fun z => ?_
    obtain ⟨m, e, hm⟩ := a.nk
    unfold Base.dks at z n
    rw [e, List.append_assoc] at z
    rcases List.mem_append.mp z with z | z
    · rw [hm _ z] at h; cases h
    · exact n z
  · obtain ⟨m, e, hm⟩ := a.nk
    obtain ⟨m2, e2, hm2⟩ := b.nk
    refine ⟨m2 ++ m, by rw [e2, e, List.append_assoc], fun x h => ?_⟩
    rcases List.mem_append.mp h with h | h
    · exact a.free _ (hm2 _ h)
    · exact hm _ h
theorem DicAt.le (e : LE c w w') {p : Addr} {kvs : List (D × D)} (h : DicAt c w p kvs) (ho : w'.H p = w.H p) : DicAt c w' p kvs := by
  rcases h with ⟨ks, h1, h2⟩ | ⟨xs, h1, h2, h3, h4⟩
  · exact .inl ⟨ks, ho.trans h1, h2.mono e.ex e.dk⟩
  · exact .inr ⟨xs, ho.trans h1, h2, Paired.mapP h3 fun _ _ z => ⟨z.1, z.2.1, e.rp z.2.2.1, e.rp z.2.2.2⟩, h4⟩
theorem EnvOk.le (E : EnvOk c w σ env) (e : LE c w w') (ho : ∀ p ∈ w.O, p ∈ w'.O ∧ w'.H p = w.H p) : EnvOk c w' σ env := by
  refine ⟨E.len, fun i d h => ?_, fun i ds h => ?_, fun i kvs h => ?_, E.sep⟩
  · obtain ⟨v, h1, h2⟩ := E.val i d h
    exact ⟨v, h1, e.rp h2⟩
  · obtain ⟨p, vs, h1, h2, h3, h4⟩ := E.own i ds h
    exact ⟨p, vs, h1, (ho p h2).1, by rw [(ho p h2).2]; exact h3, e.rpAll h4⟩
  · obtain ⟨p, h1, h2, h3⟩ := E.dic i kvs h
    exact ⟨p, h1, (ho p h2).1, h3.le e (ho p h2).2⟩
theorem EnvOk.grow (E : EnvOk c w σ env) (k : WOk c w) (g : Grow c w w') : EnvOk c w' σ env := by
  refine E.le (g.le k) fun p h => ⟨by rw [g.O]; exact h, ?_⟩
  cases e : w.H p with
  | none => exact absurd e (k.Oh _ h)
  | some o => exact g.keep _ _ e (own_notdk k h)
/-- a new object -/
theorem hide_ex {N : List Addr} {H : Hp} {p : Addr} {o : HO} (h : H p = none) : ∀ a u, hide N H a = some u → hide N (upd H p o) a = some u := fun a u e => by
  obtain ⟨h1, h2⟩ := hide_some.mp e
  exact hide_some.mpr ⟨h1, by rw [upd_ne (ne_of_none h2 h)]; exact h2⟩
theorem Grow.new (k : WOk c w) {p : Addr} {o : HO} (h : w.H p = none) : Grow c w { w with H := upd w.H p o } := by
  refine ⟨rfl, Nat.le_refl _, fun a u e _ => by show upd w.H p o a = _; rw [upd_ne (ne_of_none e h)]; exact e, fun a e => (show w.H a = none from ?_), ⟨[], rfl, fun a h => by cases h⟩, ?_⟩
  · by_cases z : a = p
    · subst z; exact h
    · have e' : upd w.H p o a = none := e
      rw [upd_ne z] at e'; exact e'
  · refine ⟨k.dS, k.SH, fun a u e n => ?_, fun a e => ?_, k.nkf, k.Of, fun a ha => ?_, k.dis, fun a ha => ?_, k.mono, k.fb⟩
    · have := k.keep0 _ _ e n
      show upd w.H p o a = _
      rw [upd_ne (ne_of_none this h)]; exact this
    · by_cases z : a = p
      · subst z; exact k.free0 _ h
      · have e' : upd w.H p o a = none := e
        rw [upd_ne z] at e'; exact k.free0 _ e'
    · have := k.Oh _ ha
      show upd w.H p o a ≠ none
      rw [upd_ne (fun z => this (by rw [z]; exact h))]; exact this
    · obtain ⟨vs, e1, e2⟩ := k.deck a ha
      refine ⟨vs, ?_, k.mono _ _ _ _ _ (Nat.le_refl _) (hide_ex h) e2⟩
      show upd w.H p o a = _
      rw [upd_ne (ne_of_none e1 h)]; exact e1
theorem vis_new (k : WOk c w) {p : Addr} {o : HO} (h : w.H p = none) : c.vis { w with H := upd w.H p o } p = some o := by
  refine hide_some.mpr ⟨fun z => ?_, upd_same⟩
  exact hid_there k (show p ∈ c.hid w from z) h
theorem vis_sub {a : Addr} {o : HO} (h : c.vis w a = some o) : w.H a = some o := (hide_some.mp h).2
theorem sqT_vis {a : Addr} {xs : List V} (h : SqT c.K (c.vis w) a xs) : SqT c.K w.H a xs := sqT_mono (fun _ _ => vis_sub) h
theorem sqL_vis {a : Addr} {xs : List V} (h : SqL c.K (c.vis w) a xs) : SqL c.K w.H a xs := sqL_mono (fun _ _ => vis_sub) h
theorem sqN_new (k : WOk c w) {p : Addr} {xs : List V} {ob : Obj} (h : w.H p = none) (hd : ob.dict = none) : SqN c.K (c.vis { w with H := upd w.H p (.frz ob (.tup xs)) }) p xs := .inl ⟨ob, vis_new k h, hd⟩
theorem sqL_new (k : WOk c w) {p : Addr} {xs : List V} (h : w.H p = none) : SqLt c.K (c.vis { w with H := upd w.H p (.lst xs) }) p xs := .inl (vis_new k h)
/-- owned no more -/
theorem LE.sub {O : List Addr} (h : ∀ a ∈ O, a ∈ w.O) : LE c w { w with O := O } := ⟨fun a o e => by
  obtain ⟨h1, h2⟩ := hide_some.mp e
  refine hide_some.mpr ⟨fun z => h1 ?_, h2⟩
  rcases List.mem_append.mp z with z | z
  · exact List.mem_append_left _ (h _ z)
  · exact List.mem_append_right _ z, fun _ h => h, Nat.le_refl _⟩
theorem WOk.sub (k : WOk c w) {O : List Addr} (h : ∀ a ∈ O, a ∈ w.O) : WOk c { w with O := O } :=
  ⟨k.dS, k.SH, k.keep0, k.free0, k.nkf, fun a m => k.Of a (h a m), fun a m => k.Oh a (h a m), fun a m => k.dis a (h a m), fun a ha => by
    obtain ⟨vs, e1, e2⟩ := k.deck a ha
    exact ⟨vs, e1, k.mono _ _ _ _ _ (Nat.le_refl _) (LE.sub (c := c) h).ex e2⟩, k.mono, k.fb⟩
/-- a change at what is owned -/
theorem vis_mut {p : Addr} {o : HO} (h : p ∈ w.O) : c.vis { w with H := upd w.H p o } = c.vis w := by
  funext a
  show hide (c.hid w) (upd w.H p o) a = hide (c.hid w) w.H a
  unfold hide
  by_cases z : a ∈ c.hid w
  · rw [if_pos z, if_pos z]
  · rw [if_neg z, if_neg z, upd_ne (fun q => z (by rw [q]; exact List.mem_append_left _ h))]
theorem WOk.mut (k : WOk c w) {p : Addr} {o : HO} (h : p ∈ w.O) : WOk c { w with H := upd w.H p o } := by
  have hn := own_notdk k h
  refine ⟨k.dS, k.SH, fun a u e n => ?_, fun a e => ?_, k.nkf, k.Of, fun a ha => ?_, k.dis, fun a ha => ?_, k.mono, k.fb⟩
  · show upd w.H p o a = _
    rw [upd_ne (fun z => by rw [z, k.Of _ h] at e; cases e)]; exact k.keep0 _ _ e n
  · by_cases z : a = p
    · subst z; exact k.Of _ h
    · have e' : upd w.H p o a = none := e
      rw [upd_ne z] at e'; exact k.free0 _ e'
  · show upd w.H p o a ≠ none
    by_cases z : a = p
    · subst z; rw [upd_same]; intro q; cases q
    · rw [upd_ne z]; exact k.Oh _ ha
  · obtain ⟨vs, e1, e2⟩ := k.deck a ha
    refine ⟨vs, ?_, ?_⟩
    · show upd w.H p o a = _
      rw [upd_ne (fun z => hn (by rw [← z]; exact ha))]; exact e1
    · show c.DP w.fu (c.vis { w with H := upd w.H p o }) vs
      rw [vis_mut h]; exact e2
end
abbrev RpW (c : Base) (w : Wd) (v : V) (d : D) : Prop := Rp c.KM (c.dks w) (c.vis w) v d
abbrev RpsW (c : Base) (w : Wd) (v : List V) (d : List D) : Prop := RpAll c.KM (c.dks w) (c.vis w) v d
structure At (c : Base) (σ : L2.St) (H : Hp) (w : Wd) (env : Env) : Prop where
  h : w.H = H
  ok : WOk c w
  env : EnvOk c w σ env
structure ErOk (c : Base) (w : Wd) (cls : Value) (dd : Option Addr) (er : Er) : Prop where
  cls : c.mg er.cls = some cls
  none : er.fs = [] → dd = none
  one : ∀ n d, er.fs = [(n, d)] → ∃ p v, dd = some p ∧ w.H p = some (.xd [(n, v)]) ∧ RpW c w v d
def EK (c : Base) (W : WX) (σ : L2.St) (w : Wd) : Nat → Er → Prop := fun fu er => ∀ cls dd w', w'.fu = fu → Grow c w w' → ErOk c w' cls dd er → W cls dd σ w'.H
abbrev PQ (c : Base) (w : Wd) (Q : VK) : Nat → D → Prop := fun fu d => ∀ v w', w'.fu = fu → Grow c w w' → RpW c w' v d → Q v w'.H
def liftE (c : Base) (W : WX) (f : Env → R D) : TE := fun σ H Q => ∃ w env, At c σ H w env ∧ (f env).wp w.fu (PQ c w Q) (EK c W σ w)
def liftT (c : Base) (W : WX) (f : Env → R Bool) : TT := fun σ H Q => ∃ w env, At c σ H w env ∧ (f env).wp w.fu (fun fu d => ∀ w', w'.fu = fu → Grow c w w' → Q d w'.H) (EK c W σ w)
def liftA (c : Base) (W : WX) (f : Env → R (List D)) : TA := fun σ H Q => ∃ w env, At c σ H w env ∧ (f env).wp w.fu (fun fu d => ∀ v w', w'.fu = fu → Grow c w w' → RpsW c w' v d → Q v w'.H) (EK c W σ w)
/-- a new list, the place's own -/
def liftL (c : Base) (W : WX) (f : Env → R (List D)) : TE := fun σ H Q => ∃ w env, At c σ H w env ∧
  (f env).wp w.fu (fun fu ds => ∀ p vs w', w'.fu = fu → w'.O = p :: w.O → w.H p = none → w'.H p = some (.lst vs) → WOk c w' → Grow c w { w' with O := w.O } → RpsW c w' vs ds → Q (.ref p) w'.H) (EK c W σ w)
section
variable {X : Cx} {c : Base} {W : WX} {w w' w1 w2 : Wd} {σ : L2.St} {env : Env}
theorem EK.grow (k : WOk c w) (g : Grow c w w1) {fu : Nat} {er : Er} (h : EK c W σ w fu er) : EK c W σ w1 fu er := fun cls dd w' e1 g' e => h cls dd w' e1 (g.trans k g') e
theorem PQ.grow (k : WOk c w) (g : Grow c w w1) {Q : VK} {fu : Nat} {d : D} (h : PQ c w Q fu d) : PQ c w1 Q fu d := fun v w' e1 g' r => h v w' e1 (g.trans k g') r
theorem At.grow {H : Hp} (a : At c σ H w env) (g : Grow c w w1) : At c σ w1.H w1 env := ⟨rfl, g.ok, a.env.grow a.ok g⟩
theorem pe_imp {e : Expr} {t t' : TE} (h : PE X e t) (i : ∀ σ H Q, t' σ H Q → t σ H Q) : PE X e t' := ⟨fun pins s σ H Q I q => h.run pins s σ H Q I (i _ _ _ q)⟩
theorem pt_imp {e : Expr} {t t' : TT} (h : PT X e t) (i : ∀ σ H Q, t' σ H Q → t σ H Q) : PT X e t' := ⟨fun pins s σ H Q I q => h.run pins s σ H Q I (i _ _ _ q)⟩
theorem pa_imp {e : List Expr} {t t' : TA} (h : PA X e t) (i : ∀ σ H Q, t' σ H Q → t σ H Q) : PA X e t' := ⟨fun pos pins s σ H Q I q => h.run pos pins s σ H Q I (i _ _ _ q)⟩
theorem ps_imp {e : Stmt} {t t' : TS} (h : PS X e t) (i : ∀ D σ H, t' D σ H → t D σ H) : PS X e t' := ⟨fun pins s σ H D I q => h.run pins s σ H D I (i _ _ _ q)⟩
theorem pss_imp {e : List Stmt} {t t' : TS} (h : PSs X e t) (i : ∀ D σ H, t' D σ H → t D σ H) : PSs X e t' := ⟨fun pins s σ H D I q => h.run pins s σ H D I (i _ _ _ q)⟩
/-- the first part of a reading -/
theorem liftE.use {f : Env → R D} {g : D → R D} {H : Hp} {Q : VK} (a : At c σ H w env) (h : ((f env).bind g).wp w.fu (PQ c w Q) (EK c W σ w)) {B : VK}
    (k : ∀ x v w1, Grow c w w1 → RpW c w1 v x → (g x).wp w1.fu (PQ c w1 Q) (EK c W σ w1) → B v w1.H) : liftE c W f σ H B := by
  refine ⟨w, env, a, R.wp_mono ((R.wp_bind _ _ _ _ _).mp h) (fun fu x hx v w1 e1 g1 r1 => ?_) fun _ _ h => h⟩
  subst e1
  exact k x v w1 g1 r1 (R.wp_mono hx (fun _ _ q => q.grow a.ok g1) fun _ _ q => q.grow a.ok g1)

def OpAt (c : Base) (r : R2) (g : D → D → R D) : Prop := ∀ (W : WX) (σ : L2.St) (w : Wd) (x y : D) (v u : V) (Q : VK), WOk c w → RpW c w v x → RpW c w u y → (g x y).wp w.fu (PQ c w Q) (EK c W σ w) → r v u w.H Q
def UnAt (c : Base) (r : V → Hp → VK → Prop) (g : D → R D) : Prop := ∀ (W : WX) (σ : L2.St) (w : Wd) (x : D) (v : V) (Q : VK), WOk c w → RpW c w v x → (g x).wp w.fu (PQ c w Q) (EK c W σ w) → r v w.H Q
def CallAt (c : Base) (r : List V → Hp → VK → Prop) (g : List D → R D) : Prop := ∀ (W : WX) (σ : L2.St) (w : Wd) (x : List D) (v : List V) (Q : VK), WOk c w → RpsW c w v x → (g x).wp w.fu (PQ c w Q) (EK c W σ w) → r v w.H Q
def OpD (r : R2) (g : D → D → R D) : Prop := ∀ c, OpAt c r g
def UnD (r : V → Hp → VK → Prop) (g : D → R D) : Prop := ∀ c, UnAt c r g
def CallD (r : List V → Hp → VK → Prop) (g : List D → R D) : Prop := ∀ c, CallAt c r g
end
def varD (i : Nat) : Env → R D := fun env => match env[i]? with
  | some (some (.val d)) => .ret d
  | _ => .bad
def cD (d : D) : Env → R D := fun _ => .ret d
def bin (g : D → D → R D) (fa fb : Env → R D) : Env → R D := fun env => (fa env).bind fun x => (fb env).bind fun y => g x y
def un (g : D → R D) (fa : Env → R D) : Env → R D := fun env => (fa env).bind g
def asB : D → R Bool
  | .bool b => .ret b
  | _ => .bad
/-- by truth -/
def truD : D → R Bool
  | .none => .ret false
  | .bool b => .ret b
  | .int i => .ret (i != 0)
  | .str y => guard' (decide (y.length ≤ 16777216)) (.ret ((y.length : Int) != 0))
  | .list ds => .ret (!ds.isEmpty)
  | .tuple ds => .ret (!ds.isEmpty)
  | .dict _ => .bad
def chainD (g g' : D → D → R D) (fa fb fc : Env → R D) : Env → R D := fun env => (fa env).bind fun x => (fb env).bind fun y => (g x y).bind fun z => (asB z).bind fun k =>
  if k = true then (fc env).bind fun u => g' y u else .ret (.bool false)
def andD (fa fb : Env → R D) : Env → R D := fun env => (fa env).bind fun x => (truD x).bind fun k => if k = true then fb env else .ret x
def orD (fa fb : Env → R D) : Env → R D := fun env => (fa env).bind fun x => (truD x).bind fun k => if k = true then .ret x else fb env
def notD (fa : Env → R D) : Env → R D := fun env => (fa env).bind fun x => (truD x).bind fun k => .ret (.bool (!k))
def ifD (ft : Env → R Bool) (fa fb : Env → R D) : Env → R D := fun env => (ft env).bind fun k => if k = true then fa env else fb env
def truT (fa : Env → R D) : Env → R Bool := fun env => (fa env).bind truD
def andT (fa fb : Env → R Bool) : Env → R Bool := fun env => (fa env).bind fun k => if k = true then fb env else .ret false
def orT (fa fb : Env → R Bool) : Env → R Bool := fun env => (fa env).bind fun k => if k = true then .ret true else fb env
def notT (fa : Env → R Bool) : Env → R Bool := fun env => (fa env).bind fun k => .ret (!k)
def nilA : Env → R (List D) := fun _ => .ret []
def consA (fa : Env → R D) (fr : Env → R (List D)) : Env → R (List D) := fun env => (fa env).bind fun x => (fr env).bind fun r => .ret (x :: r)
def tupD (fr : Env → R (List D)) : Env → R D := fun env => (fr env).bind fun ds => guard' (decide (ds.length ≤ 16777216)) (.ret (.tuple ds))
def dispL (fr : Env → R (List D)) : Env → R (List D) := fun env => (fr env).bind fun ds => guard' (decide (ds.length ≤ 16777216)) (.ret ds)
def lstD (f : Env → R (List D)) : Env → R D := fun env => (f env).bind fun ds => .ret (.list ds)
def callD (g : List D → R D) (fr : Env → R (List D)) : Env → R D := fun env => (fr env).bind g
theorem line_eq {n : Nat} : n ≤ sizeLine ↔ n ≤ 16777216 := by rw [sizeLine_eq]
theorem guard_line {n : Nat} {α : Type} {m : R α} {fu : Nat} {Q : Nat → α → Prop} {E : Nat → Er → Prop} (h : (guard' (decide (n ≤ 16777216)) m).wp fu Q E) : n ≤ sizeLine ∧ m.wp fu Q E := by
  obtain ⟨h1, h2⟩ := wp_guard.mp h
  exact ⟨line_eq.mpr (of_decide_eq_true h1), h2⟩
section
variable {X : Cx} {c : Base} {W : WX} {w w' w1 w2 : Wd} {σ : L2.St} {env : Env} {e a b d : Expr} {fa fb fc : Env → R D} {ft fu : Env → R Bool} {fr : Env → R (List D)} {pos : Pos} {rest : List Expr}
theorem liftE.go {f : Env → R D} {H : Hp} {B : VK} (at' : At c σ H w env) (h : (f env).wp w.fu (PQ c w B) (EK c W σ w)) : liftE c W f σ H B := ⟨w, env, at', h⟩
theorem wp_b {α β : Type} {m : R α} {f : α → R β} {fu : Nat} {Q : Nat → β → Prop} {E : Nat → Er → Prop} (h : (m.bind f).wp fu Q E) : m.wp fu (fun fu a => (f a).wp fu Q E) E := (R.wp_bind _ _ _ _ _).mp h
theorem de_var {i : Nat} (h : PE X e (tVar i)) : PE X e (liftE c W (varD i)) := pe_imp h fun σ H Q ⟨w, env, a, q⟩ => by
  unfold varD at q
  split at q
  · rename_i d hd
    obtain ⟨v, h1, h2⟩ := a.env.val _ _ hd
    exact ⟨v, h1, by rw [← a.h]; exact q v w rfl (Grow.refl a.ok) h2⟩
  · exact q.elim
theorem de_c {v : V} {d : D} (h : PE X e (tC v)) (r : ∀ w, RpW c w v d) : PE X e (liftE c W (cD d)) := pe_imp h fun σ H Q ⟨w, env, a, q⟩ => by
  show Q v H
  rw [← a.h]
  exact q v w rfl (Grow.refl a.ok) (r w)
theorem de_int {i : Int} (h : PE X e (tC (.int i))) : PE X e (liftE c W (cD (.int i))) := de_c h fun _ => .int i
theorem de_bl {i : Bool} (h : PE X e (tC (.bl i))) : PE X e (liftE c W (cD (.bool i))) := de_c h fun _ => .bl i
theorem de_non (h : PE X e (tC .non)) : PE X e (liftE c W (cD .none)) := de_c h fun _ => .non
theorem de_str {i : Str} (h : PE X e (tC (.str i))) : PE X e (liftE c W (cD (.str i))) := de_c h fun _ => .str i
/-- the step behind the first part -/
theorem step {f : Env → R D} {g : D → R D} {H : Hp} {Q B : VK} (a : At c σ H w env) (h : ((f env).bind g).wp w.fu (PQ c w Q) (EK c W σ w))
    (k : ∀ x v w1, Grow c w w1 → RpW c w1 v x → (g x).wp w1.fu (PQ c w1 Q) (EK c W σ w1) → B v w1.H) : liftE c W f σ H B := liftE.use a h k
theorem stepT {f : Env → R Bool} {g : Bool → R D} {H : Hp} {Q : VK} {B : Bool → Hp → Prop} (a : At c σ H w env) (h : ((f env).bind g).wp w.fu (PQ c w Q) (EK c W σ w))
    (k : ∀ x w1, Grow c w w1 → (g x).wp w1.fu (PQ c w1 Q) (EK c W σ w1) → B x w1.H) : liftT c W f σ H B := by
  refine ⟨w, env, a, R.wp_mono (wp_b h) (fun fu x hx w1 e1 g1 => ?_) fun _ _ h => h⟩
  subst e1
  exact k x w1 g1 (R.wp_mono hx (fun _ _ q => q.grow a.ok g1) fun _ _ q => q.grow a.ok g1)
abbrev BQ (c : Base) (w : Wd) (Q : Bool → Hp → Prop) : Nat → Bool → Prop := fun fu d => ∀ w', w'.fu = fu → Grow c w w' → Q d w'.H
theorem BQ.grow (k : WOk c w) (g : Grow c w w1) {Q : Bool → Hp → Prop} {fu : Nat} {d : Bool} (h : BQ c w Q fu d) : BQ c w1 Q fu d := fun w' e1 g' => h w' e1 (g.trans k g')
theorem stepET {f : Env → R D} {g : D → R Bool} {H : Hp} {Q : Bool → Hp → Prop} {B : VK} (a : At c σ H w env) (h : ((f env).bind g).wp w.fu (BQ c w Q) (EK c W σ w))
    (k : ∀ x v w1, Grow c w w1 → RpW c w1 v x → (g x).wp w1.fu (BQ c w1 Q) (EK c W σ w1) → B v w1.H) : liftE c W f σ H B := by
  refine ⟨w, env, a, R.wp_mono (wp_b h) (fun fu x hx v w1 e1 g1 r1 => ?_) fun _ _ h => h⟩
  subst e1
  exact k x v w1 g1 r1 (R.wp_mono hx (fun _ _ q => q.grow a.ok g1) fun _ _ q => q.grow a.ok g1)
theorem stepTT {f : Env → R Bool} {g : Bool → R Bool} {H : Hp} {Q B : Bool → Hp → Prop} (a : At c σ H w env) (h : ((f env).bind g).wp w.fu (BQ c w Q) (EK c W σ w))
    (k : ∀ x w1, Grow c w w1 → (g x).wp w1.fu (BQ c w1 Q) (EK c W σ w1) → B x w1.H) : liftT c W f σ H B := by
  refine ⟨w, env, a, R.wp_mono (wp_b h) (fun fu x hx w1 e1 g1 => ?_) fun _ _ h => h⟩
  subst e1
  exact k x w1 g1 (R.wp_mono hx (fun _ _ q => q.grow a.ok g1) fun _ _ q => q.grow a.ok g1)
abbrev AQ (c : Base) (w : Wd) (Q : List V → Hp → Prop) : Nat → List D → Prop := fun fu d => ∀ v w', w'.fu = fu → Grow c w w' → RpsW c w' v d → Q v w'.H
theorem AQ.grow (k : WOk c w) (g : Grow c w w1) {Q : List V → Hp → Prop} {fu : Nat} {d : List D} (h : AQ c w Q fu d) : AQ c w1 Q fu d := fun v w' e1 g' r => h v w' e1 (g.trans k g') r
theorem stepEA {f : Env → R D} {g : D → R (List D)} {H : Hp} {Q : List V → Hp → Prop} {B : VK} (a : At c σ H w env) (h : ((f env).bind g).wp w.fu (AQ c w Q) (EK c W σ w))
    (k : ∀ x v w1, Grow c w w1 → RpW c w1 v x → (g x).wp w1.fu (AQ c w1 Q) (EK c W σ w1) → B v w1.H) : liftE c W f σ H B := by
  refine ⟨w, env, a, R.wp_mono (wp_b h) (fun fu x hx v w1 e1 g1 r1 => ?_) fun _ _ h => h⟩
  subst e1
  exact k x v w1 g1 r1 (R.wp_mono hx (fun _ _ q => q.grow a.ok g1) fun _ _ q => q.grow a.ok g1)
theorem stepAA {f : Env → R (List D)} {g : List D → R (List D)} {H : Hp} {Q B : List V → Hp → Prop} (a : At c σ H w env) (h : ((f env).bind g).wp w.fu (AQ c w Q) (EK c W σ w))
    (k : ∀ x v w1, Grow c w w1 → RpsW c w1 v x → (g x).wp w1.fu (AQ c w1 Q) (EK c W σ w1) → B v w1.H) : liftA c W f σ H B := by
  refine ⟨w, env, a, R.wp_mono (wp_b h) (fun fu x hx v w1 e1 g1 r1 => ?_) fun _ _ h => h⟩
  subst e1
  exact k x v w1 g1 r1 (R.wp_mono hx (fun _ _ q => q.grow a.ok g1) fun _ _ q => q.grow a.ok g1)
theorem stepAE {f : Env → R (List D)} {g : List D → R D} {H : Hp} {Q : VK} {B : List V → Hp → Prop} (a : At c σ H w env) (h : ((f env).bind g).wp w.fu (PQ c w Q) (EK c W σ w))
    (k : ∀ x v w1, Grow c w w1 → RpsW c w1 v x → (g x).wp w1.fu (PQ c w1 Q) (EK c W σ w1) → B v w1.H) : liftA c W f σ H B := by
  refine ⟨w, env, a, R.wp_mono (wp_b h) (fun fu x hx v w1 e1 g1 r1 => ?_) fun _ _ h => h⟩
  subst e1
  exact k x v w1 g1 r1 (R.wp_mono hx (fun _ _ q => q.grow a.ok g1) fun _ _ q => q.grow a.ok g1)
/-- two parts, then an operation -/
theorem tOp_of {r : R2} {g : D → D → R D} (hg : OpAt c r g) : ∀ σ H Q, liftE c W (bin g fa fb) σ H Q → tOp r (liftE c W fa) (liftE c W fb) σ H Q := fun σ H Q ⟨w, env, a, q⟩ =>
  step a q fun x v w1 g1 r1 q1 => step (a.grow g1) q1 fun y u w2 g2 r2 q2 => hg W σ w2 x y v u Q g2.ok ((g2.le g1.ok).rp r1) r2 q2
theorem de_op {op : Operator} {r : R2} {g : D → D → R D} (ho : OpR X (binaryOp op) r) (hg : OpAt c r g) (ha : PE X a (liftE c W fa)) (hb : PE X b (liftE c W fb)) : PE X (.BinOp a op b pos) (liftE c W (bin g fa fb)) :=
  pe_imp (pe_op ho ha hb) (tOp_of hg)
theorem de_un {op : UnaryOp} {r : V → Hp → VK → Prop} {g : D → R D} (ho : UnR X (unaryOp op) r) (hg : UnAt c r g) (ha : PE X a (liftE c W fa)) : PE X (.UnaryOp op a pos) (liftE c W (un g fa)) :=
  pe_imp (pe_un ho ha) fun σ H Q ⟨w, env, a, q⟩ => step a q fun x v w1 g1 r1 q1 => hg W σ w1 x v Q g1.ok r1 q1
theorem de_cmp {op : CmpOp} {r : R2} {g : D → D → R D} (ho : OpR X (compareOp op) r) (hg : OpAt c r g) (ha : PE X a (liftE c W fa)) (hb : PE X b (liftE c W fb)) (hm : behindInMarks op b = false) : PE X (.Compare a [op] [b] pos) (liftE c W (bin g fa fb)) :=
  pe_imp (pe_cmpR ho ha hb hm) (tOp_of hg)
theorem de_ix {r : R2} {g : D → D → R D} (ho : IxR X r) (hg : OpAt c r g) (ha : PE X a (liftE c W fa)) (hb : PE X b (liftE c W fb)) (hs : PlainIx b) : PE X (.Subscript a b pos) (liftE c W (bin g fa fb)) :=
  pe_imp (pe_ix ho ha hb hs) (tOp_of hg)
theorem asB_wp {x : D} {v : V} {fu : Nat} {Q : Nat → Bool → Prop} {E : Nat → Er → Prop} (r : RpW c w v x) (h : (asB x).wp fu Q E) : ∃ k, v = .bl k ∧ Q fu k := by
  cases x with
  | bool b => exact ⟨b, r.isBl, h⟩
  | _ => exact h.elim
theorem tChain_of {r r' : R2} {g g' : D → D → R D} (hg : OpAt c r g) (hg' : OpAt c r' g') : ∀ σ H Q, liftE c W (chainD g g' fa fb fc) σ H Q → tChain r r' (liftE c W fa) (liftE c W fb) (liftE c W fc) σ H Q := fun σ H Q ⟨w, env, a, q⟩ => by
  refine step a q fun x v w1 g1 r1 q1 => step (a.grow g1) q1 fun y u w2 g2 r2 q2 => ?_
  refine hg W σ w2 x y v u _ g2.ok ((g2.le g1.ok).rp r1) r2 (R.wp_mono (wp_b q2) (fun fu z hz z' w3 e1 g3 r3 => ?_) fun _ _ h => h)
  subst e1
  obtain ⟨k, e, q3⟩ := asB_wp r3 (wp_b hz)
  refine ⟨k, e, ?_⟩
  have a3 := ((a.grow g1).grow g2).grow g3
  cases k with
  | true =>
    rw [if_pos rfl] at q3 ⊢
    have q3' := R.wp_mono q3 (fun _ _ q => PQ.grow g2.ok g3 q) fun _ _ q => EK.grow g2.ok g3 q
    exact step a3 q3' fun t t' w4 g4 r4 q4 => hg' W σ w4 y t u t' Q g4.ok ((g4.le g3.ok).rp ((g3.le g2.ok).rp r2)) r4 q4
  | false =>
    rw [if_neg (by decide)] at q3 ⊢
    exact q3 _ w3 rfl g3 (.bl false)
theorem de_chain {op op' : CmpOp} {r r' : R2} {g g' : D → D → R D} (ho : OpR X (compareOp op) r) (ho' : OpR X (compareOp op') r') (hg : OpAt c r g) (hg' : OpAt c r' g') (ha : PE X a (liftE c W fa)) (hb : PE X b (liftE c W fb)) (hc : PE X d (liftE c W fc))
    (hm : lastMarks [op, op'] [b, d] = false := by with_unfolding_all rfl) : PE X (.Compare a [op, op'] [b, d] pos) (liftE c W (chainD g g' fa fb fc)) := pe_imp (pe_chain ho ho' ha hb hc hm) (tChain_of hg hg')
theorem rpEmpty {K : KM} {dk : List Addr} {G : Hp} {vs : List V} {ds : List D} (h : RpAll K dk G vs ds) : vs.isEmpty = ds.isEmpty := by cases h <;> rfl
theorem truV_of {x : D} {v : V} {fu : Nat} {Q : Nat → Bool → Prop} {E : Nat → Er → Prop} (hK : c.K = X.K) (r : RpW c w v x) (h : (truD x).wp fu Q E) : ∃ k, TruV X.K v w.H k ∧ Q fu k := by
  rw [← hK]
  cases r with
  | non => exact ⟨false, rfl, h⟩
  | bl b => exact ⟨b, rfl, h⟩
  | int i => exact ⟨_, rfl, h⟩
  | str y =>
    obtain ⟨h1, h2⟩ := guard_line h
    exact ⟨_, ⟨h1, rfl⟩, h2⟩
  | tup h1 h2 =>
    refine ⟨_, .inr (.inl ⟨_, sqT_vis h1.sqT, rfl⟩), ?_⟩
    rw [rpEmpty h2]; exact h
  | lst h1 h2 =>
    refine ⟨_, .inl ⟨_, sqL_vis h1.sqL, rfl⟩, ?_⟩
    rw [rpEmpty h2]; exact h
  | dct h1 h2 => exact h.elim
  | deck h1 => exact h.elim
  | scr h1 => exact h.elim
  | exc _ _ => exact h.elim
  | rng _ => exact h.elim
theorem de_and (hK : c.K = X.K) (ha : PE X a (liftE c W fa)) (hb : PE X (.BoolOp .And (b :: rest) pos) (liftE c W fb)) : PE X (.BoolOp .And (a :: b :: rest) pos) (liftE c W (andD fa fb)) := by
  refine pe_imp (pe_andT ha hb) fun σ H Q ⟨w, env, a, q⟩ => step a q fun x v w1 g1 r1 q1 => ?_
  obtain ⟨k, h1, h2⟩ := truV_of hK r1 (wp_b q1)
  refine ⟨k, h1, ?_⟩
  cases k with
  | true => rw [if_pos rfl] at h2 ⊢; exact ⟨w1, env, a.grow g1, h2⟩
  | false => rw [if_neg (by decide)] at h2 ⊢; exact h2 v w1 rfl (Grow.refl g1.ok) r1
theorem de_or (hK : c.K = X.K) (ha : PE X a (liftE c W fa)) (hb : PE X (.BoolOp .Or (b :: rest) pos) (liftE c W fb)) : PE X (.BoolOp .Or (a :: b :: rest) pos) (liftE c W (orD fa fb)) := by
  refine pe_imp (pe_orT ha hb) fun σ H Q ⟨w, env, a, q⟩ => step a q fun x v w1 g1 r1 q1 => ?_
  obtain ⟨k, h1, h2⟩ := truV_of hK r1 (wp_b q1)
  refine ⟨k, h1, ?_⟩
  cases k with
  | true => rw [if_pos rfl] at h2 ⊢; exact h2 v w1 rfl (Grow.refl g1.ok) r1
  | false => rw [if_neg (by decide)] at h2 ⊢; exact ⟨w1, env, a.grow g1, h2⟩
theorem de_one {op} (ha : PE X a (liftE c W fa)) : PE X (.BoolOp op [a] pos) (liftE c W fa) := pe_one ha
theorem de_if (hc : PT X d (liftT c W ft)) (ha : PE X a (liftE c W fa)) (hb : PE X b (liftE c W fb)) : PE X (.IfExp d a b pos) (liftE c W (ifD ft fa fb)) := by
  refine pe_imp (pe_ifExp hc ha hb) fun σ H Q ⟨w, env, a, q⟩ => stepT a q fun k w1 g1 q1 => ?_
  cases k with
  | true => rw [if_pos rfl] at q1 ⊢; exact ⟨w1, env, a.grow g1, q1⟩
  | false => rw [if_neg (by decide)] at q1 ⊢; exact ⟨w1, env, a.grow g1, q1⟩
/-- tests -/
theorem dt_tru (hK : c.K = X.K) (ha : PE X a (liftE c W fa)) (he : ∀ whole, isTrue a X.env whole = (do let v ← whole; standAt a.pos; holding [v] (truthy v)) := by intro _; rfl) : PT X a (liftT c W (truT fa)) := by
  refine pt_imp (pt_truth ha he) fun σ H Q ⟨w, env, a, q⟩ => stepET a q fun x v w1 g1 r1 q1 => ?_
  obtain ⟨k, h1, h2⟩ := truV_of hK r1 q1
  exact ⟨k, h1, h2 w1 rfl (Grow.refl g1.ok)⟩
def blT (fa : Env → R D) : Env → R Bool := fun env => (fa env).bind asB
theorem tTest_of {H : Hp} {Q : Bool → Hp → Prop} {t : TE} (h : liftT c W (blT fa) σ H Q) : liftE c W fa σ H (fun x H' => ∃ k, x = .bl k ∧ Q k H') := by
  obtain ⟨w, env, a, q⟩ := h
  refine stepET a q fun x v w1 g1 r1 q1 => ?_
  obtain ⟨k, e, h⟩ := asB_wp r1 q1
  exact ⟨k, e, h w1 rfl (Grow.refl g1.ok)⟩
theorem dt_cmp {op : CmpOp} {r : R2} {g : D → D → R D} (ho : OpR X (compareOp op) r) (hg : OpAt c r g) (ha : PE X a (liftE c W fa)) (hb : PE X b (liftE c W fb)) (hm : behindInMarks op b = false) : PT X (.Compare a [op] [b] pos) (liftT c W (blT (bin g fa fb))) :=
  pt_imp (pt_cmpR ho ha hb hm) fun σ H Q h => tOp_of hg σ H _ (tTest_of (t := fun _ _ _ => True) h)
theorem dt_not (ha : PT X a (liftT c W ft)) : PT X (.UnaryOp .Not a pos) (liftT c W (notT ft)) :=
  pt_imp (pt_not ha) fun σ H Q ⟨w, env, a, q⟩ => stepTT a q fun k w1 g1 q1 => q1 w1 rfl (Grow.refl g1.ok)
theorem pw_imp {e : Expr} {t t' : TT} (h : PW X e t) (i : ∀ σ H Q, t' σ H Q → t σ H Q) : PW X e t' := ⟨fun wh pins s σ H Q I q => h.run wh pins s σ H Q I (i _ _ _ q)⟩
theorem dw_and (ha : PT X a (liftT c W ft)) (hb : PW X (.BoolOp .And (b :: rest) pos) (liftT c W fu)) : PW X (.BoolOp .And (a :: b :: rest) pos) (liftT c W (andT ft fu)) := by
  refine pw_imp (pw_and ha hb) fun σ H Q ⟨w, env, a, q⟩ => stepTT a q fun k w1 g1 q1 => ?_
  cases k with
  | true => rw [if_pos rfl] at q1 ⊢; exact ⟨w1, env, a.grow g1, q1⟩
  | false => rw [if_neg (by decide)] at q1 ⊢; exact q1 w1 rfl (Grow.refl g1.ok)
theorem dw_or (ha : PT X a (liftT c W ft)) (hb : PW X (.BoolOp .Or (b :: rest) pos) (liftT c W fu)) : PW X (.BoolOp .Or (a :: b :: rest) pos) (liftT c W (orT ft fu)) := by
  refine pw_imp (pw_or ha hb) fun σ H Q ⟨w, env, a, q⟩ => stepTT a q fun k w1 g1 q1 => ?_
  cases k with
  | true => rw [if_pos rfl] at q1 ⊢; exact q1 w1 rfl (Grow.refl g1.ok)
  | false => rw [if_neg (by decide)] at q1 ⊢; exact ⟨w1, env, a.grow g1, q1⟩
theorem dw_and1 (ha : PT X a (liftT c W ft)) : PW X (.BoolOp .And [a] pos) (liftT c W ft) := pw_and1 ha
theorem dw_or1 (ha : PT X a (liftT c W ft)) : PW X (.BoolOp .Or [a] pos) (liftT c W ft) := pw_or1 ha
/-- arguments -/
theorem da_nil : PA X [] (liftA c W nilA) := pa_imp pa_nil fun σ H Q ⟨w, env, a, q⟩ => by
  show Q [] H
  rw [← a.h]
  exact q [] w rfl (Grow.refl a.ok) .nil
theorem da_cons (ha : PE X a (liftE c W fa)) (hr : PA X rest (liftA c W fr)) (hs : starEach (a :: rest) X.env = (false, eval a X.env) :: starEach rest X.env := by rfl) : PA X (a :: rest) (liftA c W (consA fa fr)) :=
  pa_imp (pa_cons ha hr hs) fun σ H Q ⟨w, env, a, q⟩ => stepEA a q fun x v w1 g1 r1 q1 => stepAA (a.grow g1) q1 fun xs vs w2 g2 r2 q2 => q2 _ w2 rfl (Grow.refl g2.ok) (.cons ((g2.le g1.ok).rp r1) r2)
/-- displays -/
theorem de_tup {x1} (h : PA X rest (liftA c W fr)) : PE X (.Tuple rest x1 pos) (liftE c W (tupD fr)) := by
  refine pe_imp (J.pe_tupF h) fun σ H Q ⟨w, env, a, q⟩ => stepAE a q fun xs vs w1 g1 r1 q1 => ?_
  obtain ⟨h1, h2⟩ := guard_line q1
  refine ⟨by rw [r1.len]; exact h1, fun p ob hp hd => ?_⟩
  have g := Grow.new (o := .frz ob (.tup vs)) g1.ok hp
  exact h2 _ _ (by rfl) g (.tup (sqN_new g1.ok hp hd) ((g.le g1.ok).rpAll r1))
theorem Grow.asOwn (k : WOk c w) {p : Addr} {vs : List V} (h : w.H p = none) : WOk c { O := p :: w.O, nk := w.nk, H := upd w.H p (.lst vs), fu := w.fu } ∧ ∀ v d, RpsW c w v d → RpsW c { O := p :: w.O, nk := w.nk, H := upd w.H p (.lst vs), fu := w.fu } v d := by
  have hv : ∀ a o, c.vis w a = some o → c.vis { O := p :: w.O, nk := w.nk, H := upd w.H p (.lst vs), fu := w.fu } a = some o := fun a o e => by
    obtain ⟨h1, h2⟩ := hide_some.mp e
    refine hide_some.mpr ⟨fun z => ?_, by show upd w.H p _ a = _; rw [upd_ne (ne_of_none h2 h)]; exact h2⟩
    rcases List.mem_cons.mp (show a ∈ p :: (w.O ++ (w.nk ++ c.S)) from z) with z | z
    · rw [z, h] at h2; cases h2
    · exact h1 z
  have g := (Grow.new (o := .lst vs) k h).ok
  refine ⟨⟨g.dS, g.SH, g.keep0, g.free0, g.nkf, fun a m => ?_, fun a m => ?_, fun a m => ?_, fun a ha => ?_, g.mono, k.fb⟩, fun v d r => r.mono hv fun _ h => h⟩
  · rcases List.mem_cons.mp m with m | m
    · rw [m]; exact k.free0 _ h
    · exact g.Of _ m
  · rcases List.mem_cons.mp m with m | m
    · rw [m]; show upd w.H p _ p ≠ none; rw [upd_same]; intro z; cases z
    · exact g.Oh _ m
  · rcases List.mem_cons.mp m with m | m
    · rw [m]; intro z
      exact hid_there k (show p ∈ c.hid w from List.mem_append_right _ (List.mem_append_left _ z)) h
    · exact g.dis _ m
  · obtain ⟨us, e1, e2⟩ := k.deck a ha
    refine ⟨us, by show upd w.H p _ a = _; rw [upd_ne (ne_of_none e1 h)]; exact e1, k.mono _ _ _ _ _ (Nat.le_refl _) hv e2⟩
theorem dl_lst (h : PA X rest (liftA c W fr)) : PE X (.List rest pos) (liftL c W (dispL fr)) := by
  refine pe_imp (pe_lst h) fun σ H Q ⟨w, env, a, q⟩ => ?_
  refine ⟨w, env, a, R.wp_mono (wp_b q) (fun fu ds hx vs w1 e1 g1 r1 => ?_) fun _ _ h => h⟩
  subst e1
  obtain ⟨h1, h2⟩ := guard_line hx
  refine ⟨by rw [r1.len]; exact h1, fun p hp => ?_⟩
  obtain ⟨k1, k2⟩ := Grow.asOwn (vs := vs) g1.ok hp
  exact h2 p vs { O := p :: w1.O, nk := w1.nk, H := upd w1.H p (.lst vs), fu := w1.fu } rfl (by rw [g1.O]) (g1.free _ hp) upd_same k1 (by
    have g := g1.trans a.ok (Grow.new (o := .lst vs) g1.ok hp)
    have e : ({ O := w.O, nk := w1.nk, H := upd w1.H p (.lst vs), fu := w1.fu } : Wd) = { w1 with H := upd w1.H p (.lst vs) } := by rw [g1.O]
    show Grow c w { O := w.O, nk := w1.nk, H := upd w1.H p (.lst vs), fu := w1.fu }
    rw [e]; exact g) (k2 _ _ r1)
/-- a new list as any value -/
theorem de_lst {f : Env → R (List D)} (h : PE X e (liftL c W f)) : PE X e (liftE c W (lstD f)) := by
  refine pe_imp h fun σ H Q ⟨w, env, a, q⟩ => ?_
  refine ⟨w, env, a, R.wp_mono (wp_b q) (fun fu ds hx p vs w' e1 hO hp hp' k g r => ?_) fun _ _ h => h⟩
  subst e1
  have hs : ∀ x ∈ w.O, x ∈ w'.O := fun x hx => by rw [hO]; exact List.mem_cons_of_mem _ hx
  have le := LE.sub (c := c) hs
  refine hx (.ref p) { w' with O := w.O } rfl g (.lst (.inl ?_) (le.rpAll r))
  refine hide_some.mpr ⟨fun z => ?_, hp'⟩
  have := g.hidback (show p ∈ c.hid { w' with O := w.O } from z)
  rcases List.mem_append.mp z with z | z
  · exact a.ok.Oh _ z hp
  · have z2 : p ∈ w'.O := by rw [hO]; exact List.mem_cons_self
    rcases List.mem_append.mp z with z | z
    · exact k.dis _ z2 z
    · exact k.SH _ z (k.Of _ z2)
end
structure FnG (P : Program) (w : World) (K : PySem.W.Frag) (mg : Str → Option Value) (base : Heap) (CX : CXT) (k : Nat) (f : Addr) (fd : FuncData) (ps : List Str) (sp : Sp) : Prop where
  len : ∀ vs H Q E, sp vs H Q E → vs.length = ps.length
  run : ∀ (A : Around) (outer : List PySem.Env) (s : Shared) (H : Hp) (args : Args) (us : List Value) (vs : List V) (Q : VK) (E : XK), Room k A → A.guards = some [] → Env0 P w K mg base A outer s H → BindsTo s fd args (ps.zip us) → Vals vs us → sp vs H Q E →
    codeAny (model P w) A (.call (.ref f) args) (CR CX outer P w H s Q E) s
theorem fn_ofG {CX : CXT} {P : Program} {w : World} {K : PySem.W.Frag} {mg : Str → Option Value} {base : Heap} {k : Nat} {f : Addr} {name qual : Str} {params : Arguments} {body : List Stmt} {scope : Scope} {dV kV doc pm cdv ct oc : Value} {an od : Option Addr}
    {osl : Array (Option Value)} {N ps : List Str} {sp : Sp} (lkf : K.lookup f = some ⟨oc, od, .func (PySem.W.fnOf name qual params body scope dV kV doc pm an cdv ct), osl⟩) (hcc : PySem.W.codeIn K cdv qual = true) (Sf : FnScope N ps scope)
    (lenf : ∀ vz Hx Q E, sp vz Hx Q E → vz.length = ps.length)
    (hbdy : ∀ (Ar : Around) (fls : List PySem.Env) (sx : Shared) (Hx : Hp) (vz : List V) (Q : VK) (E : XK), Room k (Ar.deeper (envOfC qual scope sx.heap.objs.size f cdv)) → Ar.guards = some [] → sp vz Hx Q E →
      ∃ tt, PSs (cxOf CX P w K mg base N qual scope f cdv Ar fls sx Hx E) body tt ∧ tt { nx := fun _ Hz => Q .non Hz, rt := Q } (start N vz) Hx) :
    FnG P w K mg base CX (k + 1) f (PySem.W.fnOf name qual params body scope dV kV doc pm an cdv ct) ps sp := by
  refine ⟨lenf, fun Ar fls sx Hx ag uz vz Q E hr hgu en0 hbn rr hpr => ?_⟩
  have hln := lenf _ _ _ _ hpr
  have kin : K.In sx.heap := en0.mod.kin.keeps fun b o e => (en0.bs b o e).1
  have lmt : sx.heap.NoLimit := en0.mod.nolimit.keeps fun b o e => (en0.bs b o e).1
  have hkd : ∀ yy ∈ ps.zip uz, scope.names.lookup yy.1 = some .local ∨ (scope.names.lookup yy.1 = some .cell ∧ ((cellsFrom (sx.heap.objs.size + 1) scope.names []).lookup yy.1).isSome = true) := fun ⟨nn, vv⟩ hyy => by
    rcases Sf.par nn (List.of_mem_zip hyy).1 with qq | qq
    · exact .inl qq
    · exact .inr ⟨qq, PySem.W.cellsFrom_some _ _ _ (.inl qq)⟩
  refine codeAny_call_function hr.depth (kin _ _ lkf) rfl Sf.co Sf.gen rfl (PySem.W.codeRec_of kin hcc) (hbn _ _ _ _ ?_)
  refine wpAny_newFunctionEnv_cells Sf.kind hkd fun ev hev sy x => ?_
  subst hev
  refine ⟨lmt.keeps x.toInCall.keep, codeAny_func ?_⟩
  obtain ⟨tt, htt, hqq⟩ := hbdy Ar fls sx Hx vz Q E (hr.deeper _) hgu hpr
  have Iv : Inv (cxOf CX P w K mg base N qual scope f cdv Ar fls sx Hx E) [] (start N vz) Hx sy := inv_start Sf hr.hd en0 hln rr x
  refine wpAny_mono (htt.run [] sy (start N vz) Hx _ Iv hqq) (fun flw sz hfin => ?_) fun e sz hfin => hfin
  have done : ∀ {σz : L2.St} {Hz : Hp} {vv : V} {uu : Value}, Inv (cxOf CX P w K mg base N qual scope f cdv Ar fls sx Hx E) [] σz Hz sz → RelV vv uu → Q vv Hz → CE fls P w Hx sx Q uu sz :=
    fun {σz Hz vv uu} Jv rvv qq => ⟨vv, Hz, Jv.os, Jv.bare, Jv.base, Jv.hok, rvv, qq⟩
  cases flw with
  | ret uu =>
    obtain ⟨vv, σz, Hz, Jv, rvv, qq⟩ := hfin
    exact done Jv rvv qq
  | next =>
    obtain ⟨σz, Hz, Jv, qq⟩ := hfin
    exact done (vv := V.non) (uu := Value.none) Jv rfl qq
  | brk =>
    obtain ⟨_, _, _, qq⟩ := hfin
    exact False.elim qq
  | cont =>
    obtain ⟨_, _, _, qq⟩ := hfin
    exact False.elim qq
section
variable {X : Cx} {CX : CXT} {k : Nat} {f C : Addr} {fd : FuncData} {ps : List Str} {sp : Sp} {E : L2.St → XK} {x m : Str} {p pos apos : Pos} {e o : Expr} {es : List Expr} {ta : TE} {t : TA}
theorem run_fnG {pns : List (Addr × Obj)} {σ : L2.St} {Hx : Hp} {sx : Shared} {Q : VK} {uz : List Value} {vz : List V} (F : FnG X.prog X.w X.K X.mg X.base CX k f fd ps sp) (hr : Room k X.A) (hgu : X.A.guards = some []) (hb : Binds X.K fd ps []) (hx : PassesAt CX X σ (E σ))
    (Iv : Inv X pns σ Hx sx) (rr : Vals vz uz) (h : sp vz Hx Q (E σ)) : wpAny (model X.prog X.w) X.A (call (.ref f) uz) (EP X pns σ Q) X.xe sx := by
  have hln : uz.length = ps.length := by rw [← rr.length]; exact F.len _ _ _ _ h
  have bnd := hb sx uz Iv.kIn (by rw [List.append_nil]; exact hln)
  rw [List.append_nil] at bnd
  refine wpAny_call (codeAny_mono (F.run X.A X.stack sx Hx ⟨uz, []⟩ uz vz Q (E σ) hr hgu Iv.env0 bnd rr h) fun rr sz hqq => ?_)
  cases rr with
  | error ee => exact hx pns Hx sx ee sz Iv hqq
  | ok flw =>
    cases flw with
    | ret uu => exact Iv.after hqq
    | next => exact False.elim hqq
    | brk => exact False.elim hqq
    | cont => exact False.elim hqq
theorem pe_callG (F : FnG X.prog X.w X.K X.mg X.base CX k f fd ps sp) (hr : Room k X.A) (hgu : X.A.guards = some []) (hg : Gl X x) (hm : X.mg x = some (.ref f)) (hk : PySem.W.keepIn X.K (.ref f) = true) (hb : Binds X.K fd ps []) (hx : ∀ σ, PassesAt CX X σ (E σ))
    (ha : PA X (e :: es) t) (hdb : (x == ("__debug__" : Str)) = false := by decide) (he : starEach (e :: es) X.env = (false, eval e X.env) :: starEach es X.env := by rfl) (hpl : (backTo pos (starEach es X.env)).any (·.1) = false := by rfl) :
    PE X (.Call (.Name x p) (e :: es) [] pos) (tCallS sp E t) :=
  ⟨fun pins s σ H Q I h => wpAny_Call_Name_kw (ld_glob I hg hm (PySem.W.callWith_K (h₀ := X.base) I.ok.mod.kin hk (thn (ha.run pos pins s σ H _ I h) fun us s1 ⟨vs, H1, I1, r, q⟩ => ⟨I1.kIn, run_fnG F hr hgu hb (hx σ) I1 r q⟩) he hpl) hdb)⟩
end
theorem Fun.okG {P : Program} {w : World} {K : PySem.W.Frag} {mg : Str → Option Value} {base : Heap} {x qual : Str} {st : Stmt} {f : Addr} {fd : FuncData} {N ps : List Str} {k : Nat} {sp : Sp} (F : L2.Fun K x qual st f fd) (S : FnScope N ps (defScope st)) (len : ∀ vs H Q E, sp vs H Q E → vs.length = ps.length)
    (hbody : ∀ (cdv : Value) (A : Around) (outer : List PySem.Env) (s : Shared) (H : Hp) (vs : List V) (Q : VK) (E : XK), Room k (A.deeper (envOfC qual (defScope st) s.heap.objs.size f cdv)) → A.guards = some [] → sp vs H Q E →
      ∃ t, PSs (cxOf (L2.CX P w) P w K mg base N qual (defScope st) f cdv A outer s H E) (defBody st) t ∧ t { nx := fun _ H' => Q .non H', rt := Q } (L2.start N vs) H) : FnG P w K mg base (L2.CX P w) (k + 1) f fd ps sp := by
  obtain ⟨oc, od, kV, doc, pm, an, cdv, ct, osl, rfl, lk, hcd⟩ := F.ex
  exact fn_ofG lk hcd S len fun A outer s H vs Q E hr hgu hsp => hbody cdv A outer s H vs Q E hr hgu hsp
theorem FnOk.toG {P : Program} {w : World} {K : PySem.W.Frag} {mg : Str → Option Value} {base : Heap} {CX : CXT} {k : Nat} {f : Addr} {fd : FuncData} {ps : List Str} {sp : Sp} (F : L2.FnOk P w K mg base CX k f fd ps sp) : FnG P w K mg base CX k f fd ps sp :=
  ⟨F.len, fun A outer s H args us vs Q E hr _ e0 hb hv hs => F.run A outer s H args us vs Q E hr e0 hb hv hs⟩
theorem FnG.imp {P : Program} {w : World} {K : PySem.W.Frag} {mg : Str → Option Value} {base : Heap} {CX : CXT} {k : Nat} {f : Addr} {fd : FuncData} {ps : List Str} {sp sp' : Sp} (F : FnG P w K mg base CX k f fd ps sp) (h : ∀ vs H Q E, sp' vs H Q E → sp vs H Q E) : FnG P w K mg base CX k f fd ps sp' :=
  ⟨fun vs H Q E q => F.len vs H Q E (h _ _ _ _ q), fun A outer s H args us vs Q E hr hgu he hb hv hs => F.run A outer s H args us vs Q E hr hgu he hb hv (h _ _ _ _ hs)⟩
theorem law_callG {P : Program} {w : World} {K : PySem.W.Frag} {mg mb : Str → Option Value} {CX : CXT} {k : Nat} {fa aa : Addr} {fd : FuncData} {xx : Str} {sp : Sp} {s1 : Shared} {vz : List Value} {nz : List Int}
    (KX : K.In s1.heap) (hns : s1.heap.Ns mainGlobals mg) (hbx : s1.heap.Ns builtinsNs mb) (hbb : ∀ xx : Str, xx ≠ "__name__" → mb xx = bootBuiltins xx) (hlim : s1.heap.NoLimit) (hg : s1.gens = #[])
    (ha : s1.heap.get? aa = some { cls := .type "list", data := .seq vz.toArray }) (hi : IntsAre vz nz) (hl : nz.length ≤ sizeLine) (hr : Room k callerA)
    (F : ∀ base : Heap, K.In base → base.Ns mainGlobals mg → FnG P w K mg base CX k fa fd [xx] sp) (hbind : ∀ (s : Shared) (uu : Value), BindsTo s fd ⟨[uu], []⟩ [(xx, uu)])
    (hsp : ∀ Hx : Hp, Only Hx → SqL K Hx aa (nz.map V.int) → sp [.ref aa] Hx (fun vv _ => vv = .bl true) fun _ _ _ => False)
    (hCX : ∀ Hx ee sz, CX [] Hx s1 (fun _ _ _ => False) ee sz → False) :
    codeAny (model P w) callerA (.call (.ref fa) ⟨[.ref aa], []⟩) (fun rr sz => rr = .ok (.ret (.bool true)) ∧ OldK s1.heap sz.heap ∧ sz.os = s1.os ∧ AllBare sz.gens) s1 := by
  have rvv := vals_ints hi
  have lnV := hi.length
  have cor : ∀ Hx : Hp, Only Hx → SqL K Hx aa (nz.map V.int) → HOk P w Hx s1.heap → (∀ bb, Hx bb ≠ none → bb = aa) → (Hx aa ≠ none → K.lookup aa = none) →
      codeAny (model P w) callerA (.call (.ref fa) ⟨[.ref aa], []⟩) (fun rr sz => rr = .ok (.ret (.bool true)) ∧ OldK s1.heap sz.heap ∧ sz.os = s1.os ∧ AllBare sz.gens) s1 := by
    intro Hx hOn hSq hkk hAd hKn
    have bsf : ∀ {bb : Addr} {oo : Obj}, s1.heap.get? bb = some oo → Hx bb = none → (hidT s1.heap Hx).get? bb = some oo := fun ee nn => hidT_get ee nn
    have nA : ∀ {bb : Addr} {oo : Obj} {ess : Array DictEntry} {epp : Nat}, s1.heap.get? bb = some oo → oo.data = .dict ess epp → Hx bb = none := fun {bb oo ess epp} ee dd => by
      cases qq : Hx bb with
      | none => rfl
      | some uu =>
        have ez : bb = aa := hAd bb (by rw [qq]; simp)
        subst ez
        rw [ha] at ee; cases ee
        have dz : Data.seq vz.toArray _ = Data.dict ess epp := dd
        cases dz
    have nK : ∀ {bb : Addr} {mm : Str → Option Value}, s1.heap.Ns bb mm → (hidT s1.heap Hx).Ns bb mm := fun {bb mm} ⟨oo, ess, epp, ee, dd, rr⟩ => ⟨oo, ess, epp, bsf ee (nA ee dd), dd, rr⟩
    have hKx : K.In (hidT s1.heap Hx) := fun bb oo ee => bsf (KX bb oo ee) (by
      cases qq : Hx bb with
      | none => rfl
      | some uu =>
        have ez : bb = aa := hAd bb (by rw [qq]; simp)
        subst ez
        rw [hKn (by rw [qq]; simp)] at ee; cases ee)
    have hMd : Mod K mg (hidT s1.heap Hx) := ⟨hKx, nK hns, ⟨mb, nK hbx, hbb⟩, let ⟨mc, h1, h2⟩ := hlim; ⟨mc, nK h1, h2⟩⟩
    have en0 : Env0 P w K mg (hidT s1.heap Hx) callerA [] s1 Hx := ⟨rfl, hMd, fun bb oo ee => of_hidT ee, Nat.le_of_eq (hidT_size _ _), trivial, fun bb hbx => absurd (show bb ∈ ([] : List Addr) from hbx) (by simp), hkk, .of_eq hg⟩
    refine codeAny_mono ((F _ hKx (nK hns)).run callerA [] s1 Hx ⟨[.ref aa], []⟩ [.ref aa] [.ref aa] _ _ hr rfl en0 (hbind s1 (.ref aa)) (.cons rfl .nil) (hsp Hx hOn hSq)) fun rr sz hh => ?_
    cases rr with
    | error ee => exact (hCX Hx ee sz hh).elim
    | ok flw =>
      cases flw with
      | next => exact False.elim hh
      | brk => exact False.elim hh
      | cont => exact False.elim hh
      | ret uu =>
        obtain ⟨vv, Hz, oss, bre, unn, hkz, rz, qq⟩ := hh
        have qz : vv = .bl true := qq
        subst qz
        obtain rfl : uu = Value.bool true := rz
        refine ⟨rfl, OldK.of_keep fun bb oo ee => ?_, oss, bre⟩
        cases qq : Hx bb with
        | none => exact unn.keep bb oo ee qq (by intro zz; exact absurd (show bb ∈ ([] : List Addr) from zz) (by simp)) (by simp)
        | some uu =>
          rcases hOn bb with zz | ⟨obb, xz, zz⟩
          · rw [qq] at zz; cases zz
          · have zb := unn.frzs bb obb _ zz
            obtain ⟨ea, _⟩ := hkk bb _ zz
            obtain ⟨eb, _⟩ := hkz bb _ zb
            rw [ee] at ea; cases ea
            exact eb
  cases hkl : K.lookup aa with
  | some oo =>
    have ee := KX aa oo hkl
    rw [ha] at ee
    cases ee
    refine cor (fun _ => none) (fun _ => .inl rfl) (.inr ⟨_, vz.toArray, _, hkl, rfl, rfl, rfl, by rw [List.size_toArray, lnV]; exact hl, by simpa using rvv⟩) (fun bb uu zz => by have zy : (none : Option HO) = some uu := zz; cases zy) (fun bb zz => absurd rfl zz) fun zz => absurd rfl zz
  | none =>
    refine cor (fun bb => if bb = aa then some (.frz { cls := .type "list", data := .seq vz.toArray } (.lst (nz.map V.int))) else none) (fun bb => ?_) (.inl (.inr ⟨{ cls := .type "list", data := .seq vz.toArray }, if_pos rfl⟩)) (fun bb uu zz => ?_) (fun bb zz => ?_) fun _ => hkl
    · by_cases hbx : bb = aa
      · exact .inr ⟨_, _, if_pos hbx⟩
      · exact .inl (if_neg hbx)
    · by_cases hbx : bb = aa
      · have zy := (if_pos hbx).symm.trans zz
        cases zy
        subst hbx
        exact ⟨ha, by rw [List.length_map]; exact hl, vz, _, rvv, ha⟩
      · have zy := (if_neg hbx).symm.trans zz
        cases zy
    · by_cases hbx : bb = aa
      · exact hbx
      · exact absurd (if_neg hbx) zz
theorem walk_ofG {l : PySem.W.OpenLaw} {n k : Nat} {q : Program} {loose : List Str} {XP : (Str → Option Value) → Heap → Prop} {YP : World → Heap → Prop} {d : DefRec} {K : Params → PySem.W.Frag} {CX : World → CXT} {sp : World → Sp} {x : Str}
    (h1n : l.most = some n) (h2n : n ≤ sizeLine) (h3n : d.params.defaults = []) (hr : Room k callerA)
    (hY : ∀ (w : World) (hh : Heap), YP w hh → (K w.params).In hh)
    (F : ∀ (w : World) (mgl : Str → Option Value) (faa : Addr) (hh : Heap), (K w.params).In hh → hh.Ns mainGlobals mgl → mgl d.name = some (.ref faa) →
      ∃ fdx : FuncData, (∀ (sx : Shared) (uu : Value), BindsTo sx fdx ⟨[uu], []⟩ [(x, uu)]) ∧
        ∀ base : Heap, (K w.params).In base → base.Ns mainGlobals mgl → FnG l.prog w (K w.params) mgl base (CX w) k faa fdx [x] (sp w))
    (hsp : ∀ (w : World) (H : Hp) (aa : Addr) (nz : List Int), nz.length ≤ n → Only H → SqL (K w.params) H aa (nz.map V.int) → sp w [.ref aa] H (fun v _ => v = .bl true) fun _ _ _ => False)
    (hCX : ∀ (w : World) (H : Hp) (sx : Shared) (ee : Value) (sz : Shared), CX w [] H sx (fun _ _ _ => False) ee sz → False) : PySem.W.WalkO q loose XP YP l.row.toRowW d [] (fun f vs => PySem.call f vs) := by
  refine Att.attach_call h1n h3n fun w s₀ s₁ mgl mbl faa o pm cd doc aa vs nz G Y ho hd hcd hmg hobj hints hlen hg => ?_
  have kin := hY w _ Y
  obtain ⟨fdx, hbx, hFx⟩ := F w mgl faa _ kin G.T.g hmg
  exact law_callG kin G.T.g G.T.b G.T.builtins G.T.nolimit hg hobj hints (Nat.le_trans hlen h2n) hr hFx hbx (fun H hO hS => hsp w H aa nz hlen hO hS) fun H ee sz => hCX w H s₁ ee sz
def MtAt (c : Base) (r : V → List V → Hp → VK → Prop) (g : D → List D → R D) : Prop := ∀ (W : WX) (σ : L2.St) (w : Wd) (x : D) (v : V) (xs : List D) (vs : List V) (Q : VK), WOk c w → RpW c w v x → RpsW c w vs xs → (g x xs).wp w.fu (PQ c w Q) (EK c W σ w) → r v vs w.H Q
def SlAt (c : Base) (r : V → Option Int → Option Int → Hp → VK → Prop) (g : D → Option Int → Option Int → R D) : Prop := ∀ (W : WX) (σ : L2.St) (w : Wd) (x : D) (v : V) (lo hi : Option Int) (Q : VK), WOk c w → RpW c w v x → (g x lo hi).wp w.fu (PQ c w Q) (EK c W σ w) → r v lo hi w.H Q
def asI : D → R Int
  | .int i => .ret i
  | _ => .bad
def noPart : Env → R (Option Int) := fun _ => .ret none
def part (fa : Env → R D) : Env → R (Option Int) := fun env => (fa env).bind fun x => (asI x).bind fun i => .ret (some i)
def slD (g : D → Option Int → Option Int → R D) (fa : Env → R D) (fl fh : Env → R (Option Int)) : Env → R D := fun env => (fa env).bind fun x => (fl env).bind fun l => (fh env).bind fun h => g x l h
def liftO (c : Base) (W : WX) (f : Env → R (Option Int)) : TO := fun σ H Q => ∃ w env, At c σ H w env ∧ (f env).wp w.fu (fun fu d => ∀ w', w'.fu = fu → Grow c w w' → Q d w'.H) (EK c W σ w)
def mtD (g : D → List D → R D) (fa : Env → R D) (fr : Env → R (List D)) : Env → R D := fun env => (fa env).bind fun x => (fr env).bind fun xs => g x xs
def strM (g : D → List D → R D) (fa fb : Env → R D) : Env → R D := fun env => (fa env).bind fun x => match x with
  | .str z => (fb env).bind fun y => g (.str z) [y]
  | _ => .bad
section
variable {X : Cx} {c : Base} {W : WX} {w w' w1 w2 : Wd} {σ : L2.St} {env : Env} {e a b d : Expr} {fa fb fc : Env → R D} {ft fu : Env → R Bool} {fr : Env → R (List D)} {pos p pos2 : Pos} {rest es : List Expr} {x : Str}
theorem asI_wp {x : D} {v : V} {fu : Nat} {Q : Nat → Int → Prop} {E : Nat → Er → Prop} (r : RpW c w v x) (h : (asI x).wp fu Q E) : ∃ k, v = .int k ∧ x = .int k ∧ Q fu k := by
  cases x with
  | int b => exact ⟨b, r.isInt, rfl, h⟩
  | _ => exact h.elim
theorem po_imp {e : Option Expr} {t t' : TO} (h : PO X e t) (i : ∀ σ H Q, t' σ H Q → t σ H Q) : PO X e t' := ⟨fun pins s σ H Q I q => h.run pins s σ H Q I (i _ _ _ q)⟩
theorem do_none : PO X none (liftO c W noPart) := po_imp po_none fun σ H Q ⟨w, env, a, q⟩ => by
  show Q none H
  rw [← a.h]
  exact q w rfl (Grow.refl a.ok)
theorem do_some (h : PE X e (liftE c W fa)) : PO X (some e) (liftO c W (part fa)) := po_imp (po_some h) fun σ H Q ⟨w, env, a, q⟩ => by
  refine ⟨w, env, a, R.wp_mono (wp_b q) (fun fu x hx v w1 e1 g1 r1 => ?_) fun _ _ h => h⟩
  subst e1
  obtain ⟨k, e, _, h⟩ := asI_wp r1 (wp_b hx)
  exact ⟨k, e, h w1 rfl g1⟩
theorem de_slice {lo hi : Option Expr} {fl fh : Env → R (Option Int)} {r : V → Option Int → Option Int → Hp → VK → Prop} {g : D → Option Int → Option Int → R D} (hr : SlR X r) (hg : SlAt c r g) (ha : PE X a (liftE c W fa)) (hl : PO X lo (liftO c W fl)) (hh : PO X hi (liftO c W fh)) :
    PE X (.Subscript a (.Slice lo hi none pos2) pos) (liftE c W (slD g fa fl fh)) := pe_imp (pe_slice hr ha hl hh) fun σ H Q ⟨w, env, a, q⟩ => by
  refine step a q fun x v w1 g1 r1 q1 => ?_
  refine ⟨w1, env, a.grow g1, R.wp_mono (wp_b q1) (fun fu l hl w2 e1 g2 => ?_) fun _ _ h => h⟩
  subst e1
  refine ⟨w2, env, (a.grow g1).grow g2, R.wp_mono (wp_b hl) (fun fu u hu w3 e1 g3 => ?_) fun _ _ h => h.grow g1.ok g2⟩
  subst e1
  have g13 := g2.trans g1.ok g3
  exact hg W σ w3 x v l u Q g3.ok ((g13.le g1.ok).rp r1) (R.wp_mono hu (fun _ _ h => h.grow g1.ok g13) fun _ _ h => h.grow g1.ok g13)
theorem de_callB {id : String} {r : List V → Hp → VK → Prop} {g : List D → R D} (hc : CallR X (.builtin id) r) (hgd : CallAt c r g) (hg : Gl X x) (hm : X.mg x = none) (hv : bootBuiltins x = some (.builtin id)) (ha : PA X (e :: es) (liftA c W fr)) (hn : x ≠ "__name__" := by decide) (hdb : (x == ("__debug__" : Str)) = false := by decide)
    (he : starEach (e :: es) X.env = (false, eval e X.env) :: starEach es X.env := by rfl) (hpl : (backTo pos (starEach es X.env)).any (·.1) = false := by rfl) : PE X (.Call (.Name x p) (e :: es) [] pos) (liftE c W (callD g fr)) :=
  pe_imp (pe_callB hc hg hm hv ha hn hdb he hpl) fun σ H Q ⟨w, env, a, q⟩ => stepAE a q fun xs vs w1 g1 r1 q1 => hgd W σ w1 xs vs Q g1.ok r1 q1
theorem de_callTy {id : String} {r : List V → Hp → VK → Prop} {g : List D → R D} (hc : CallR X (.type id) r) (hgd : CallAt c r g) (hg : Gl X x) (hm : X.mg x = none) (hv : bootBuiltins x = some (.type id)) (ha : PA X (e :: es) (liftA c W fr)) (hn : x ≠ "__name__" := by decide) (hdb : (x == ("__debug__" : Str)) = false := by decide)
    (he : starEach (e :: es) X.env = (false, eval e X.env) :: starEach es X.env := by rfl) (hpl : (backTo pos (starEach es X.env)).any (·.1) = false := by rfl) : PE X (.Call (.Name x p) (e :: es) [] pos) (liftE c W (callD g fr)) :=
  pe_imp (pe_callTy hc hg hm hv ha hn hdb he hpl) fun σ H Q ⟨w, env, a, q⟩ => stepAE a q fun xs vs w1 g1 r1 q1 => hgd W σ w1 xs vs Q g1.ok r1 q1
end
abbrev c0 (c : Base) (S dk : List Addr) (H : Hp) : Base := { c with S := S, dk := dk, H0 := H }
/-- a def as a function of data -/
def SpD (wl : World) (K : PySem.W.Frag) (mg : Str → Option Value) (DP : Nat → Hp → List V → Prop) (n : Nat) (F : List D → R D) : Sp := fun vs H Q E => vs.length = n ∧ ∃ S dk ds fu, 
  WOk ⟨wl, K, mg, DP, S, dk, H⟩ ⟨[], [], H, fu⟩ ∧ RpAll ⟨K, mg⟩ dk (hide S H) vs ds ∧ (F ds).wp fu
    (fun fu' d => ∀ v w', w'.fu = fu' → w'.fu ≤ fu → WOk ⟨wl, K, mg, DP, S, dk, H⟩ w' → RpW ⟨wl, K, mg, DP, S, dk, H⟩ w' v d → Q v w'.H)
    (fun fu' er => ∀ cls dd w', w'.fu = fu' → w'.fu ≤ fu → WOk ⟨wl, K, mg, DP, S, dk, H⟩ w' → ErOk ⟨wl, K, mg, DP, S, dk, H⟩ w' cls dd er → E cls dd w'.H)
section
variable {X : Cx} {c : Base} {W : WX} {w w' w1 w2 : Wd} {σ : L2.St} {env : Env}
theorem callee_in (k : WOk c w) : WOk (c0 c (c.hid w) (c.dks w) w.H) ⟨[], [], w.H, w.fu⟩ := by
  refine ⟨fun a h => dks_hid k h, fun a h => hid_there k h, fun a o h _ => h, fun a h => h, fun a h => (by cases h), fun a h => (by cases h), fun a h => (by cases h), fun a h => (by cases h), fun a h => ?_, k.mono, k.fb⟩
  exact k.deck a h
/-- the caller's world behind the callee's -/
def back (w w' : Wd) : Wd := { O := w.O, nk := w'.nk ++ w.nk, H := w'.H, fu := w'.fu }
theorem back_dks : c.dks (back w w') = (c0 c (c.hid w) (c.dks w) w.H).dks w' := by
  show (w'.nk ++ w.nk) ++ c.dk = w'.nk ++ (w.nk ++ c.dk)
  rw [List.append_assoc]
theorem back_vis : ∀ a o, (c0 c (c.hid w) (c.dks w) w.H).vis w' a = some o → c.vis (back w w') a = some o := fun a o h => by
  obtain ⟨h1, h2⟩ := hide_some.mp h
  refine hide_some.mpr ⟨fun z => h1 ?_, h2⟩
  have z : a ∈ w.O ++ ((w'.nk ++ w.nk) ++ c.S) := z
  show a ∈ w'.O ++ (w'.nk ++ (w.O ++ (w.nk ++ c.S)))
  simp only [List.mem_append] at z ⊢
  rcases z with z | (z | z) | z
  · exact .inr (.inr (.inl z))
  · exact .inr (.inl z)
  · exact .inr (.inr (.inr (.inl z)))
  · exact .inr (.inr (.inr (.inr z)))
theorem callee_out (k : WOk c w) (k' : WOk (c0 c (c.hid w) (c.dks w) w.H) w') (lf : w'.fu ≤ w.fu) : Grow c w (back w w') := by
  have nfree : ∀ a ∈ w'.nk, w.H a = none := fun a h => k'.nkf a h
  refine ⟨rfl, lf, fun a o h n => k'.keep0 a o h n, fun a h => k'.free0 a h, ⟨w'.nk, rfl, nfree⟩, ?_⟩
  refine ⟨k.dS, k.SH, fun a o h n => ?_, fun a h => k.free0 _ (k'.free0 _ h), fun a h => ?_, k.Of, fun a h => ?_, fun a h z => ?_, fun a h => ?_, k.mono, Nat.le_trans lf k.fb⟩
  · refine k'.keep0 a o (k.keep0 _ _ h n) fun z => ?_
    rcases List.mem_append.mp (show a ∈ w.nk ++ c.dk from z) with z | z
    · rw [k.nkf _ z] at h; cases h
    · exact n z
  · rcases List.mem_append.mp (show a ∈ w'.nk ++ w.nk from h) with h | h
    · exact k.free0 _ (nfree _ h)
    · exact k.nkf _ h
  · intro z
    exact k.Oh _ h (k'.free0 _ z)
  · rcases List.mem_append.mp (show a ∈ w'.nk ++ w.nk from z) with z | z
    · exact k.Oh _ h (nfree _ z)
    · exact k.dis _ h z
  · rw [back_dks] at h
    obtain ⟨vs, e1, e2⟩ := k'.deck a h
    exact ⟨vs, e1, k.mono _ _ _ _ _ (Nat.le_refl _) back_vis e2⟩
theorem back_rp {v : V} {d : D} (h : RpW (c0 c (c.hid w) (c.dks w) w.H) w' v d) : RpW c (back w w') v d := by
  refine h.mono back_vis fun a h => ?_
  rw [back_dks]; exact h
theorem back_er {cls : Value} {dd : Option Addr} {er : Er} (h : ErOk (c0 c (c.hid w) (c.dks w) w.H) w' cls dd er) : ErOk c (back w w') cls dd er :=
  ⟨h.cls, h.none, fun n d e => by
    obtain ⟨p, v, e1, e2, e3⟩ := h.one n d e
    exact ⟨p, v, e1, e2, back_rp e3⟩⟩
theorem spD_of {K : PySem.W.Frag} {n : Nat} {F : List D → R D} {ds : List D} {vs : List V} {Q : VK} (k : WOk c w) (r : RpsW c w vs ds) (hn : ds.length = n) (h : (F ds).wp w.fu (PQ c w Q) (EK c W σ w)) : SpD c.wl c.K c.mg c.DP n F vs w.H Q (fun cls dd H => W cls dd σ H) := by
  refine ⟨by rw [r.len]; exact hn, c.hid w, c.dks w, ds, w.fu, callee_in k, r, R.wp_mono h (fun fu d hd v w' e1 lf k' r' => ?_) fun fu er he cls dd w' e1 lf k' e => ?_⟩
  · exact hd v (back w w') e1 (callee_out k k' lf) (back_rp r')
  · exact he cls dd (back w w') e1 (callee_out k k' lf) (back_er e)
end
section
variable {X : Cx} {c : Base} {W : WX} {k n : Nat} {f : Addr} {fd : FuncData} {ps ks : List Str} {F : List D → R D} {x : Str} {p pos : Pos} {e : Expr} {es : List Expr} {kws : List Keyword} {fr fk : Env → R (List D)}
def callF (n : Nat) (F : List D → R D) (fr : Env → R (List D)) : Env → R D := fun env => (fr env).bind fun ds => guard' (decide (ds.length = n)) (F ds)
theorem de_call (FO : FnG X.prog X.w X.K X.mg X.base (L2.CX X.prog X.w) k f fd ps (SpD c.wl c.K c.mg c.DP n F)) (hr : Room k X.A) (hgu : X.A.guards = some []) (hg : Gl X x) (hm : X.mg x = some (.ref f)) (hk : PySem.W.keepIn X.K (.ref f) = true) (hb : Binds X.K fd ps []) (tk : Takes X W)
    (ha : PA X (e :: es) (liftA c W fr)) (hdb : (x == ("__debug__" : Str)) = false := by decide) (he : starEach (e :: es) X.env = (false, eval e X.env) :: starEach es X.env := by rfl) (hpl : (backTo pos (starEach es X.env)).any (·.1) = false := by rfl) :
    PE X (.Call (.Name x p) (e :: es) [] pos) (liftE c W (callF n F fr)) :=
  pe_imp (pe_callG (E := WE W) FO hr hgu hg hm hk hb (fun σ => passAt tk σ) ha hdb he hpl) fun σ H Q ⟨w, env, a, q⟩ => stepAE a q fun xs vs w1 g1 r1 q1 => by
    obtain ⟨h1, h2⟩ := wp_guard.mp q1
    exact spD_of (K := X.K) g1.ok r1 (of_decide_eq_true h1) h2
end
inductive Out where
  | nx (e : Env) | rt (d : D) | rl (ds : List D) | bk (e : Env) | ct (e : Env) | ex (e : Env) (er : Er)
def SK (c : Base) (W : WX) (Dn : Ends) (w : Wd) : Nat → Out → Prop
  | fu, .nx env' => ∀ σ' w', w'.fu = fu → WOk c w' → EnvOk c w' σ' env' → LE c w w' → Dn.nx σ' w'.H
  | fu, .rt d => ∀ v w', w'.fu = fu → w'.fu ≤ w.fu → WOk c w' → RpW c w' v d → Dn.rt v w'.H
  | fu, .rl ds => ∀ p vs w', w'.fu = fu → w'.fu ≤ w.fu → WOk c w' → p ∈ w'.O → w'.H p = some (.lst vs) → RpsW c w' vs ds → Dn.rt (.ref p) w'.H
  | fu, .bk env' => ∀ σ' w', w'.fu = fu → WOk c w' → EnvOk c w' σ' env' → LE c w w' → Dn.bk σ' w'.H
  | fu, .ct env' => ∀ σ' w', w'.fu = fu → WOk c w' → EnvOk c w' σ' env' → LE c w w' → Dn.ct σ' w'.H
  | fu, .ex env' er => ∀ cls dd σ' w', w'.fu = fu → WOk c w' → EnvOk c w' σ' env' → LE c w w' → ErOk c w' cls dd er → W cls dd σ' w'.H
def liftS (c : Base) (W : WX) (f : Env → R Out) : TS := fun Dn σ H => ∃ w env, At c σ H w env ∧ (f env).wp w.fu (SK c W Dn w) (fun _ _ => False)
/-- an expression within a statement -/
def exS {α : Type} (f : Env → R α) (k : α → Env → R Out) : Env → R Out := fun env => (f env).both (fun d => k d env) (fun er => .ret (.ex env er))
def setS (i : Nat) (f : Env → R D) : Env → R Out := exS f fun d env => .ret (.nx (env.set i (some (.val d))))
def setO (i : Nat) (f : Env → R (List D)) : Env → R Out := exS f fun ds env => .ret (.nx (env.set i (some (.own ds))))
def retS (f : Env → R D) : Env → R Out := exS f fun d _ => .ret (.rt d)
/-- a list of one's own, given back -/
def retO (i : Nat) : Env → R Out := fun env => match env[i]? with
  | some (some (.own ds)) => .ret (.rl ds)
  | some (some (.val d)) => .ret (.rt d)
  | _ => .bad
def retL (f : Env → R (List D)) : Env → R Out := exS f fun ds _ => .ret (.rl ds)
def retN : Env → R Out := fun _ => .ret (.rt .none)
def dropS (f : Env → R D) : Env → R Out := exS f fun _ env => .ret (.nx env)
def passS : Env → R Out := fun env => .ret (.nx env)
def brkS : Env → R Out := fun env => .ret (.bk env)
def ctS : Env → R Out := fun env => .ret (.ct env)
def ifS (ft : Env → R Bool) (fa fb : Env → R Out) : Env → R Out := exS ft fun k env => if k = true then fa env else fb env
def seqS (f g : Env → R Out) : Env → R Out := fun env => (f env).bind fun o => match o with
  | .nx e => g e
  | o => .ret o
def asgS (f : Env → R D) (tg : D → Env → R Env) : Env → R Out := exS f fun d env => (tg d env).bind fun e => .ret (.nx e)
/-- a name held no more as one's own -/
def frzE (i : Nat) (env : Env) : Env := match env[i]? with
  | some (some (.own ds)) => env.set i (some (.val (.list ds)))
  | _ => env
def frzS (i : Nat) (f : Env → R Out) : Env → R Out := fun env => f (frzE i env)
def tName (i : Nat) : D → Env → R Env := fun d env => .ret (env.set i (some (.val d)))
def tNil : List D → Env → R Env := fun ds env => match ds with
  | [] => .ret env
  | _ => .bad
def tCons (t : D → Env → R Env) (u : List D → Env → R Env) : List D → Env → R Env := fun ds env => match ds with
  | d :: r => (t d env).bind fun e => u r e
  | [] => .bad
def tTup (n : Nat) (u : List D → Env → R Env) : D → Env → R Env := fun d env => match d with
  | .tuple ds => guard' (decide (ds.length = n)) (u ds env)
  | _ => .bad
section
variable {X : Cx} {c : Base} {W : WX} {w w' w1 w2 : Wd} {σ : L2.St} {env : Env} {e a b d : Expr} {fa fb fc : Env → R D} {ft fu : Env → R Bool} {fr : Env → R (List D)} {pos p pos2 : Pos} {st : Stmt} {rest : List Stmt} {f g : Env → R Out}
theorem SK.le {Dn : Ends} (l : LE c w w1) {fu : Nat} {o : Out} (h : SK c W Dn w fu o) : SK c W Dn w1 fu o := by
  cases o with
  | nx _ => exact fun σ' w' e1 k E l' => h σ' w' e1 k E (l.trans l')
  | rt _ => exact fun v w' e1 lf k r => h v w' e1 (Nat.le_trans lf l.fu) k r
  | rl _ => exact fun p vs w' e1 lf k m hp r => h p vs w' e1 (Nat.le_trans lf l.fu) k m hp r
  | bk _ => exact fun σ' w' e1 k E l' => h σ' w' e1 k E (l.trans l')
  | ct _ => exact fun σ' w' e1 k E l' => h σ' w' e1 k E (l.trans l')
  | ex _ _ => exact fun cls dd σ' w' e1 k E l' => h cls dd σ' w' e1 k E (l.trans l')
theorem wp_bo {α β : Type} {m : R α} {f : α → R β} {g : Er → R β} {fu : Nat} {Q : Nat → β → Prop} {E : Nat → Er → Prop} (h : (m.both f g).wp fu Q E) : m.wp fu (fun fu a => (f a).wp fu Q E) (fun fu e => (g e).wp fu Q E) := (R.wp_both _ _ _ _ _ _).mp h
theorem EK_of {Dn : Ends} (k : WOk c w) (E : EnvOk c w σ env) {fu : Nat} {er : Er} (h : (R.ret (Out.ex env er)).wp fu (SK c W Dn w) fun _ _ => False) : EK c W σ w fu er := fun cls dd w' e1 g e =>
  (show SK c W Dn w fu (.ex env er) from h) cls dd σ w' e1 g.ok (E.grow k g) (g.le k) e
/-- a value within a statement -/
theorem stS {H : Hp} {Dn : Ends} {k : D → Env → R Out} {B : VK} (a : At c σ H w env) (h : (exS fa k env).wp w.fu (SK c W Dn w) fun _ _ => False)
    (hk : ∀ x v w1, Grow c w w1 → At c σ w1.H w1 env → RpW c w1 v x → (k x env).wp w1.fu (SK c W Dn w1) (fun _ _ => False) → B v w1.H) : liftE c W fa σ H B := by
  refine ⟨w, env, a, R.wp_mono (wp_bo h) (fun fu x hx v w1 e1 g1 r1 => ?_) fun fu er h => EK_of a.ok a.env h⟩
  subst e1
  exact hk x v w1 g1 (a.grow g1) r1 (R.wp_mono hx (fun _ _ q => q.le (g1.le a.ok)) fun _ _ q => q)
theorem stT {H : Hp} {Dn : Ends} {k : Bool → Env → R Out} {B : Bool → Hp → Prop} (a : At c σ H w env) (h : (exS ft k env).wp w.fu (SK c W Dn w) fun _ _ => False)
    (hk : ∀ x w1, Grow c w w1 → At c σ w1.H w1 env → (k x env).wp w1.fu (SK c W Dn w1) (fun _ _ => False) → B x w1.H) : liftT c W ft σ H B := by
  refine ⟨w, env, a, R.wp_mono (wp_bo h) (fun fu x hx w1 e1 g1 => ?_) fun fu er h => EK_of a.ok a.env h⟩
  subst e1
  exact hk x w1 g1 (a.grow g1) (R.wp_mono hx (fun _ _ q => q.le (g1.le a.ok)) fun _ _ q => q)
theorem set_get {α : Type} {l : List (Option α)} {i j : Nat} {y z : Option α} (h : (l.set i y)[j]? = some z) : (j = i ∧ z = y) ∨ (j ≠ i ∧ l[j]? = some z) := by
  by_cases q : i = j
  · subst q
    by_cases hl : i < l.length
    · rw [List.getElem?_set_self hl] at h; exact .inl ⟨rfl, (Option.some.inj h).symm⟩
    · rw [List.getElem?_eq_none (by simpa using hl)] at h; cases h
  · rw [List.getElem?_set_ne q] at h; exact .inr ⟨fun z => q z.symm, h⟩
theorem set_keep {α : Type} {l : List (Option α)} {i j : Nat} {y z : Option α} (h : l[j]? = some z) (q : j ≠ i) : (l.set i y)[j]? = some z := by
  rw [List.getElem?_set_ne (fun z => q z.symm)]; exact h
theorem set_at {α β : Type} {l : List α} {m : List β} (e : l.length = m.length) {i : Nat} {y : α} {z u : β} (h : (m.set i z)[i]? = some u) : (l.set i y)[i]? = some y := by
  have : i < l.length := by
    rw [e]
    have := (List.getElem?_eq_some_iff.mp h).1
    rwa [List.length_set] at this
  exact List.getElem?_set_self this
theorem EnvOk.setVal (E : EnvOk c w σ env) {i : Nat} {v : V} {x : D} (r : RpW c w v x) : EnvOk c w (σ.set i (some v)) (env.set i (some (.val x))) := by
  refine ⟨by rw [List.length_set, List.length_set]; exact E.len, fun j d h => ?_, fun j ds h => ?_, fun j kvs h => ?_, fun j k p es fs n h1 h2 b1 b2 h3 h4 => ?_⟩
  · rcases set_get h with ⟨q, z⟩ | ⟨q, z⟩
    · subst q
      cases z
      exact ⟨v, set_at E.len h, r⟩
    · obtain ⟨v', h1, h2⟩ := E.val j d z
      exact ⟨v', set_keep h1 q, h2⟩
  · rcases set_get h with ⟨q, z⟩ | ⟨q, z⟩
    · cases z
    · obtain ⟨p, vs, h1, h2⟩ := E.own j ds z
      exact ⟨p, vs, set_keep h1 q, h2⟩
  · rcases set_get h with ⟨q, z⟩ | ⟨q, z⟩
    · cases z
    · obtain ⟨p, h1, h2⟩ := E.dic j kvs z
      exact ⟨p, set_keep h1 q, h2⟩
  · rcases set_get h1 with ⟨q, z⟩ | ⟨q, z⟩
    · cases z <;> cases b1
    rcases set_get h2 with ⟨q2, z2⟩ | ⟨q2, z2⟩
    · cases z2 <;> cases b2
    rw [List.getElem?_set_ne (fun z => q z.symm)] at h3
    rw [List.getElem?_set_ne (fun z => q2 z.symm)] at h4
    exact E.sep j k p es fs n z z2 b1 b2 h3 h4
theorem EnvOk.setNone (E : EnvOk c w σ env) {i : Nat} {v : Option V} : EnvOk c w (σ.set i v) (env.set i none) := by
  refine ⟨by rw [List.length_set, List.length_set]; exact E.len, fun j d h => ?_, fun j ds h => ?_, fun j kvs h => ?_, fun j k p es fs n h1 h2 b1 b2 h3 h4 => ?_⟩
  · rcases set_get h with ⟨q, z⟩ | ⟨q, z⟩
    · cases z
    · obtain ⟨v', h1, h2⟩ := E.val j d z
      exact ⟨v', set_keep h1 q, h2⟩
  · rcases set_get h with ⟨q, z⟩ | ⟨q, z⟩
    · cases z
    · obtain ⟨p, vs, h1, h2⟩ := E.own j ds z
      exact ⟨p, vs, set_keep h1 q, h2⟩
  · rcases set_get h with ⟨q, z⟩ | ⟨q, z⟩
    · cases z
    · obtain ⟨p, h1, h2⟩ := E.dic j kvs z
      exact ⟨p, set_keep h1 q, h2⟩
  · rcases set_get h1 with ⟨q, z⟩ | ⟨q, z⟩
    · cases z <;> cases b1
    rcases set_get h2 with ⟨q2, z2⟩ | ⟨q2, z2⟩
    · cases z2 <;> cases b2
    rw [List.getElem?_set_ne (fun z => q z.symm)] at h3
    rw [List.getElem?_set_ne (fun z => q2 z.symm)] at h4
    exact E.sep j k p es fs n z z2 b1 b2 h3 h4
/-- what is held stands -/
theorem EnvOk.notNew (E : EnvOk c w σ env) (k : WOk c w) {p : Addr} (hp : w.H p = none) {j : Nat} {x : DV} (h1 : env[j]? = some (some x)) (hx : x.held = true) (h2 : σ[j]? = some (some (.ref p))) : False := by
  cases x with
  | val d => cases hx
  | own es =>
    obtain ⟨p2, vs2, e1, e2, e3, _⟩ := E.own j es h1
    rw [e1] at h2
    cases h2
    exact k.Oh _ e2 hp
  | dic kvs =>
    obtain ⟨p2, e1, e2, _⟩ := E.dic j kvs h1
    rw [e1] at h2
    cases h2
    exact k.Oh _ e2 hp
theorem EnvOk.setOwn (E : EnvOk c w σ env) {i : Nat} {p : Addr} {vs : List V} {ds : List D} (hp : p ∈ w.O) (h : w.H p = some (.lst vs)) (r : RpsW c w vs ds) (hn : ∀ j x, j ≠ i → env[j]? = some (some x) → x.held = true → σ[j]? ≠ some (some (.ref p))) :
    EnvOk c w (σ.set i (some (.ref p))) (env.set i (some (.own ds))) := by
  refine ⟨by rw [List.length_set, List.length_set]; exact E.len, fun j d h => ?_, fun j es h => ?_, fun j kvs h => ?_, fun j k q es fs n h1 h2 b1 b2 h3 h4 => ?_⟩
  · rcases set_get h with ⟨q, z⟩ | ⟨q, z⟩
    · cases z
    · obtain ⟨v', h1, h2⟩ := E.val j d z
      exact ⟨v', set_keep h1 q, h2⟩
  · rcases set_get h with ⟨q, z⟩ | ⟨q, z⟩
    · subst q
      cases z
      exact ⟨p, vs, set_at E.len h, hp, by assumption, r⟩
    · obtain ⟨p, vs, h1, h2⟩ := E.own j es z
      exact ⟨p, vs, set_keep h1 q, h2⟩
  · rcases set_get h with ⟨q, z⟩ | ⟨q, z⟩
    · cases z
    · obtain ⟨p, h1, h2⟩ := E.dic j kvs z
      exact ⟨p, set_keep h1 q, h2⟩
  · rcases set_get h1 with ⟨q1, z⟩ | ⟨q1, z⟩
    · rcases set_get h2 with ⟨q2, z2⟩ | ⟨q2, z2⟩
      · exact n (by rw [q1, q2])
      · rw [List.getElem?_set_ne (fun z => q2 z.symm)] at h4
        subst q1
        rw [set_at E.len h1] at h3
        cases h3
        exact hn k fs q2 z2 b2 h4
    rcases set_get h2 with ⟨q2, z2⟩ | ⟨q2, z2⟩
    · rw [List.getElem?_set_ne (fun z => q1 z.symm)] at h3
      subst q2
      rw [set_at E.len h2] at h4
      cases h4
      exact hn j es q1 z b1 h3
    · rw [List.getElem?_set_ne (fun z => q1 z.symm)] at h3
      rw [List.getElem?_set_ne (fun z => q2 z.symm)] at h4
      exact E.sep j k q es fs n z z2 b1 b2 h3 h4
/-- name = value -/
theorem ds_set {i : Nat} {st : Stmt} (h : PS X st (tAsg (liftE c W fa) (gName i))) : PS X st (liftS c W (setS i fa)) := ps_imp h fun Dn σ H ⟨w, env, a, q⟩ =>
  stS a q fun x v w1 g1 a1 r1 q1 => (show SK c W Dn w1 w1.fu (.nx _) from q1) _ w1 rfl a1.ok (a1.env.setVal r1) (LE.refl c w1)
theorem ds_setO {i : Nat} {st : Stmt} {f : Env → R (List D)} (h : PS X st (tAsg (liftL c W f) (gName i))) : PS X st (liftS c W (setO i f)) := ps_imp h fun Dn σ H ⟨w, env, a, q⟩ => by
  refine ⟨w, env, a, R.wp_mono (wp_bo q) (fun fu ds hx p vs w' e1 hO hp hp' k g r => ?_) fun fu er h => EK_of a.ok a.env h⟩
  subst e1
  have hs : ∀ x ∈ w.O, x ∈ w'.O := fun x hx => by rw [hO]; exact List.mem_cons_of_mem _ hx
  have le := g.le a.ok
  have vv : ∀ a' o, c.vis w a' = some o → c.vis w' a' = some o := fun a' o e => by
    obtain ⟨h1, h2⟩ := hide_some.mp (le.ex _ _ e)
    refine hide_some.mpr ⟨fun z => h1 ?_, h2⟩
    have z : a' ∈ w'.O ++ (w'.nk ++ c.S) := z
    rw [hO] at z
    rcases List.mem_cons.mp z with z | z
    · exact absurd (vis_sub e) (by rw [z, hp]; intro q; cases q)
    · exact z
  have l2 : LE c w w' := ⟨vv, le.dk, le.fu⟩
  have E1 : EnvOk c w' σ env := a.env.le l2 fun q hq => ⟨hs q hq, by
    cases e : w.H q with
    | none => exact absurd e (a.ok.Oh _ hq)
    | some o => exact g.keep _ _ e (own_notdk a.ok hq)⟩
  have hpO : p ∈ w'.O := by rw [hO]; exact List.mem_cons_self
  refine (show SK c W Dn w w'.fu (.nx _) from hx) _ w' rfl k (E1.setOwn hpO hp' r fun j x n h1 hx h2 => a.env.notNew a.ok hp h1 hx h2) l2
/-- target = value -/
def GD (c : Base) (vs : List Nat) (g : TG) (fg : D → Env → R Env) : Prop := ∀ (w : Wd) (σ : L2.St) (env : Env) (v : V) (x : D) (k : L2.St → Hp → Prop), WOk c w → EnvOk c w σ env → RpW c w v x →
  (fg x env).wp w.fu (fun fu env' => fu = w.fu → ∀ σ', EnvOk c w σ' env' → wipe σ' vs = wipe σ vs → k σ' w.H) (fun _ _ => False) → g v σ w.H k
def GsD (c : Base) (vs : List Nat) (g : TGs) (fg : List D → Env → R Env) : Prop := ∀ (w : Wd) (σ : L2.St) (env : Env) (v : List V) (x : List D) (k : L2.St → Hp → Prop), WOk c w → EnvOk c w σ env → RpsW c w v x →
  (fg x env).wp w.fu (fun fu env' => fu = w.fu → ∀ σ', EnvOk c w σ' env' → wipe σ' vs = wipe σ vs → k σ' w.H) (fun _ _ => False) → g v σ w.H k
theorem wipe_get (σ : L2.St) : ∀ (vs : List Nat) (j : Nat), (wipe σ vs)[j]? = if j ∈ vs then (σ[j]?).map (fun _ => none) else σ[j]?
  | [], j => by rw [if_neg (by simp)]; rfl
  | v :: vs, j => by
    have ih := wipe_get σ vs j
    unfold wipe
    by_cases h : v = j
    · subst h
      rw [if_pos List.mem_cons_self]
      by_cases hl : v < σ.length
      · rw [List.getElem?_set_self (by rw [wipe_length]; exact hl), List.getElem?_eq_getElem hl]; rfl
      · rw [List.getElem?_eq_none (by rw [List.length_set, wipe_length]; omega), List.getElem?_eq_none (by omega)]; rfl
    · rw [List.getElem?_set_ne h, ih]
      by_cases hj : j ∈ vs
      · rw [if_pos hj, if_pos (List.mem_cons_of_mem _ hj)]
      · rw [if_neg hj, if_neg (fun z => (List.mem_cons.mp z).elim (fun q => h q.symm) hj)]
theorem wipe_set {σ : L2.St} {vs : List Nat} {i : Nat} {y : Option V} (h : i ∈ vs) : wipe (σ.set i y) vs = wipe σ vs := by
  apply List.ext_getElem?
  intro j
  rw [wipe_get, wipe_get]
  by_cases hj : j ∈ vs
  · rw [if_pos hj, if_pos hj]
    by_cases q : i = j
    · subst q
      by_cases hl : i < σ.length
      · rw [List.getElem?_set_self hl, List.getElem?_eq_getElem hl]; rfl
      · rw [List.getElem?_eq_none (by rw [List.length_set]; omega), List.getElem?_eq_none (by omega)]
    · rw [List.getElem?_set_ne q]
  · rw [if_neg hj, if_neg hj, List.getElem?_set_ne (fun q => hj (by rw [← q]; exact h))]
theorem wipe_wipe (σ : L2.St) (vs : List Nat) : wipe (wipe σ vs) vs = wipe σ vs := by
  apply List.ext_getElem?
  intro j
  rw [wipe_get, wipe_get]
  split
  · cases σ[j]? <;> rfl
  · rfl
theorem gd_name {vs : List Nat} {i : Nat} (h : i ∈ vs) : GD c vs (gName i) (tName i) := fun w σ env v x k _ E r q => q rfl _ (E.setVal r) (wipe_set h)
theorem gd_nil {vs : List Nat} : GsD c vs gNil tNil := fun w σ env v x k _ E r q => by
  cases r with
  | nil => exact ⟨rfl, q rfl σ E rfl⟩
  | cons _ _ => exact q.elim
theorem gd_cons {vs : List Nat} {t : TG} {u : TGs} {ft : D → Env → R Env} {fu : List D → Env → R Env} (h1 : GD c vs t ft) (h2 : GsD c vs u fu) : GsD c vs (gCons t u) (tCons ft fu) := fun w σ env v x k ok E r q => by
  cases r with
  | nil => exact q.elim
  | @cons v vr d dr r1 r2 =>
    refine ⟨v, vr, rfl, h1 w σ env v d _ ok E r1 (R.wp_mono (wp_b q) (fun fu e1 q1 ef σ1 E1 e2 => ?_) fun _ _ h => h)⟩
    subst ef
    exact h2 w σ1 e1 vr dr _ ok E1 r2 (R.wp_mono q1 (fun fu e3 q3 ef σ3 E3 e4 => q3 ef σ3 E3 (e4.trans e2)) fun _ _ h => h)
theorem gd_tup {vs : List Nat} {n : Nat} {u : TGs} {fu : List D → Env → R Env} (h : GsD c vs u fu) (hK : c.K = X.K) : GD c vs (gTup X.K n u) (tTup n fu) := fun w σ env v x k ok E r q => by
  cases x with
  | tuple ds =>
    obtain ⟨a, xs, e, h1, h2⟩ := r.isTup
    obtain ⟨q1, q2⟩ := wp_guard.mp q
    refine ⟨a, xs, e, hK ▸ sqT_vis h1, ?_, h w σ env xs ds k ok E h2 q2⟩
    rw [h2.len]; exact of_decide_eq_true q1
  | _ => exact q.elim
theorem ds_ret (ha : PE X a (liftE c W fa)) : PS X (.Return (some a) pos) (liftS c W (retS fa)) := ps_imp (ps_ret ha) fun Dn σ H ⟨w, env, a, q⟩ =>
  stS a q fun x v w1 g1 a1 r1 q1 => (show SK c W Dn w1 w1.fu (.rt x) from q1) v w1 rfl (Nat.le_refl _) a1.ok r1
theorem ds_expr (ha : PE X a (liftE c W fa)) (hs : swapsWith a none pos.line X.env = pure false := by rfl) : PS X (.Expr a pos) (liftS c W (dropS fa)) := ps_imp (ps_expr ha hs) fun Dn σ H ⟨w, env, a, q⟩ =>
  stS a q fun x v w1 g1 a1 r1 q1 => (show SK c W Dn w1 w1.fu (.nx env) from q1) σ w1 rfl a1.ok a1.env (LE.refl c w1)
theorem ds_pass : PS X (.Pass pos) (liftS c W passS) := ps_imp ps_pass fun Dn σ H ⟨w, env, a, q⟩ => by
  show Dn.nx σ H
  rw [← a.h]; exact (show SK c W Dn w w.fu (.nx env) from q) σ w rfl a.ok a.env (LE.refl c w)
theorem ds_if {sa sb : List Stmt} (hc : PT X d (liftT c W ft)) (ha : PSs X sa (liftS c W f)) (hb : PSs X sb (liftS c W g)) : PS X (.If d sa sb pos) (liftS c W (ifS ft f g)) := ps_imp (ps_if hc ha hb) fun Dn σ H ⟨w, env, a, q⟩ =>
  stT a q fun k w1 g1 a1 q1 => by
    cases k with
    | true => rw [if_pos rfl] at q1 ⊢; exact ⟨w1, env, a1, q1⟩
    | false => rw [if_neg (by decide)] at q1 ⊢; exact ⟨w1, env, a1, q1⟩
theorem dss_nil : PSs X [] (liftS c W passS) := pss_imp pss_nil fun Dn σ H ⟨w, env, a, q⟩ => by
  show Dn.nx σ H
  rw [← a.h]; exact (show SK c W Dn w w.fu (.nx env) from q) σ w rfl a.ok a.env (LE.refl c w)
theorem dss_one (h : PS X st (liftS c W f)) : PSs X [st] (liftS c W f) := pss_one h
theorem dss_cons (h : PS X st (liftS c W f)) (hr : PSs X rest (liftS c W g)) : PSs X (st :: rest) (liftS c W (seqS f g)) := pss_imp (pss_cons h hr) fun Dn σ H ⟨w, env, a, q⟩ => by
  refine ⟨w, env, a, R.wp_mono (wp_b q) (fun fu o h => ?_) fun _ _ h => h⟩
  cases o with
  | nx e => exact fun σ' w' e1 k E l => by subst e1; exact ⟨w', e, ⟨rfl, k, E⟩, R.wp_mono h (fun _ _ q => q.le l) fun _ _ h => h⟩
  | rt d => exact h
  | rl d => exact h
  | bk e => exact h
  | ct e => exact h
  | ex e er => exact h
/-- a list held no more is a value -/
theorem own_free {p : Addr} {vs : List V} {ds : List D} (k : WOk c w) (h2 : p ∈ w.O) (h3 : w.H p = some (.lst vs)) (h4 : RpsW c w vs ds) : RpW c { w with O := w.O.filter fun x => decide (x ≠ p) } (.ref p) (.list ds) := by
  have hs : ∀ x ∈ w.O.filter (fun x => decide (x ≠ p)), x ∈ w.O := fun x hx => (List.mem_filter.mp hx).1
  refine .lst (.inl (hide_some.mpr ⟨fun z => ?_, h3⟩)) ((LE.sub (c := c) hs).rpAll h4)
  rcases List.mem_append.mp z with z | z
  · have := (List.mem_filter.mp z).2
    simp at this
  · rcases List.mem_append.mp z with z | z
    · exact k.dis _ h2 z
    · exact k.SH _ z (k.Of _ h2)
theorem EnvOk.frz (k : WOk c w) (E : EnvOk c w σ env) (i : Nat) : ∃ w', w'.H = w.H ∧ w'.fu = w.fu ∧ WOk c w' ∧ EnvOk c w' σ (frzE i env) ∧ LE c w w' := by
  unfold frzE
  split
  · rename_i ds hd
    obtain ⟨p, vs, h1, h2, h3, h4⟩ := E.own i ds hd
    have hs : ∀ x ∈ w.O.filter (fun x => decide (x ≠ p)), x ∈ w.O := fun x hx => (List.mem_filter.mp hx).1
    have le := LE.sub (c := c) hs
    have hi : i < env.length := (List.getElem?_eq_some_iff.mp hd).1
    refine ⟨{ w with O := w.O.filter fun x => decide (x ≠ p) }, rfl, rfl, k.sub hs, ?_, le⟩
    have rp : RpW c { w with O := w.O.filter fun x => decide (x ≠ p) } (.ref p) (.list ds) := by
      refine .lst (.inl (hide_some.mpr ⟨fun z => ?_, h3⟩)) (le.rpAll h4)
      rcases List.mem_append.mp z with z | z
      · have := (List.mem_filter.mp z).2
        simp at this
      · rcases List.mem_append.mp z with z | z
        · exact k.dis _ h2 z
        · exact k.SH _ z (k.Of _ h2)
    refine ⟨by rw [List.length_set]; exact E.len, fun j d h => ?_, fun j es h => ?_, fun j kvs h => ?_, fun j k' q es fs n e1 e2 b1 b2 e3 e4 => ?_⟩
    · rcases set_get h with ⟨q, z⟩ | ⟨q, z⟩
      · subst q
        cases z
        exact ⟨.ref p, h1, rp⟩
      · obtain ⟨v', e1, e2⟩ := E.val j d z
        exact ⟨v', e1, le.rp e2⟩
    · rcases set_get h with ⟨q, z⟩ | ⟨q, z⟩
      · cases z
      · obtain ⟨p', vs', e1, e2, e3, e4⟩ := E.own j es z
        refine ⟨p', vs', e1, List.mem_filter.mpr ⟨e2, decide_eq_true fun z' => ?_⟩, e3, le.rpAll e4⟩
        subst z'
        exact E.sep j i p' _ _ q z hd rfl rfl e1 h1
    · rcases set_get h with ⟨q, z⟩ | ⟨q, z⟩
      · cases z
      · obtain ⟨p', e1, e2, e3⟩ := E.dic j kvs z
        refine ⟨p', e1, List.mem_filter.mpr ⟨e2, decide_eq_true fun z' => ?_⟩, e3.le le rfl⟩
        subst z'
        exact E.sep j i p' _ _ q z hd rfl rfl e1 h1
    · rcases set_get e1 with ⟨q1, z⟩ | ⟨q1, z⟩
      · cases z <;> cases b1
      rcases set_get e2 with ⟨q2, z2⟩ | ⟨q2, z2⟩
      · cases z2 <;> cases b2
      exact E.sep j k' q es fs n z z2 b1 b2 e3 e4
  · exact ⟨w, rfl, rfl, k, E, LE.refl c w⟩
end
/-- an iterator that hands out these data, in every later world -/
structure ItD (c : Base) (J : It) (w : Wd) (ds : List D) : Prop where
  go : ∀ w' i, LE c w w' → WOk c w' → i < ds.length → J.go i w'.H
  yld : ∀ w' i x H2, LE c w w' → WOk c w' → J.yld i w'.H x H2 → ∀ d, ds[i]? = some d → ∃ w2, w2.H = H2 ∧ w2.fu = w'.fu ∧ Grow c w' w2 ∧ RpW c w2 x d
  stop : ∀ w' i, LE c w w' → WOk c w' → i = ds.length → J.stop i w'.H
/-- the same, over what the place's own lists are as long as nobody changes them -/
structure ItC (c : Base) (J : It) (w : Wd) (ds : List D) : Prop where
  go : ∀ w' i, LE c w w' → WOk c w' → (∀ p ∈ w.O, w'.H p = w.H p) → i < ds.length → J.go i w'.H
  yld : ∀ w' i x H2, LE c w w' → WOk c w' → (∀ p ∈ w.O, w'.H p = w.H p) → J.yld i w'.H x H2 → ∀ d, ds[i]? = some d → ∃ w2, w2.H = H2 ∧ w2.fu = w'.fu ∧ Grow c w' w2 ∧ RpW c w2 x d
  stop : ∀ w' i, LE c w w' → WOk c w' → (∀ p ∈ w.O, w'.H p = w.H p) → i = ds.length → J.stop i w'.H
theorem ItD.toC {c : Base} {J : It} {w : Wd} {ds : List D} (h : ItD c J w ds) : ItC c J w ds := ⟨fun w' i l k _ => h.go w' i l k, fun w' i x H2 l k _ => h.yld w' i x H2 l k, fun w' i l k _ => h.stop w' i l k⟩
def liftIc (c : Base) (W : WX) (f : Env → R (List D)) : TI := fun σ H Rr => ∃ w env, At c σ H w env ∧ (f env).wp w.fu (fun fu ds => ∀ J w', w'.fu = fu → Grow c w w' → ItC c J w' ds → Rr J w'.H) (EK c W σ w)
def liftI (c : Base) (W : WX) (f : Env → R (List D)) : TI := fun σ H Rr => ∃ w env, At c σ H w env ∧ (f env).wp w.fu (fun fu ds => ∀ J w', w'.fu = fu → Grow c w w' → ItD c J w' ds → Rr J w'.H) (EK c W σ w)
def loopL (body : D → Env → R Out) : List D → Env → R Out
  | [], env => .ret (.nx env)
  | x :: xs, env => (body x env).bind fun o => match o with
    | .nx e => loopL body xs e
    | .ct e => loopL body xs e
    | .bk e => .ret (.nx e)
    | o => .ret o
def forS (fi : Env → R (List D)) (tg : D → Env → R Env) (fb : Env → R Out) : Env → R Out := exS fi fun ds env => loopL (fun d e => (tg d e).bind fb) ds env
def loopW (ft : Env → R Bool) (fb : Env → R Out) : Nat → Env → R Out
  | 0, _ => .bad
  | n + 1, env => exS ft (fun k env => if k = true then (fb env).bind fun o => match o with
    | .nx e => loopW ft fb n e
    | .ct e => loopW ft fb n e
    | .bk e => .ret (.nx e)
    | o => .ret o
    else .ret (.nx env)) env
/-- a while, of any number of turns below a thousand million millions -/
def whileS (ft : Env → R Bool) (fb : Env → R Out) : Env → R Out := loopW ft fb 1000000000000000
def compL (body : D → R (Option D)) : List D → R (List D)
  | [] => .ret []
  | x :: xs => (body x).bind fun o => (compL body xs).bind fun r => .ret (match o with | some y => y :: r | none => r)
def noErr {α : Type} (m : R α) : R α := m.both .ret fun _ => .bad
def wipeE (env : Env) : List Nat → Env
  | [] => env
  | v :: vs => (wipeE env vs).set v none
def compD (fi : Env → R (List D)) (tg : D → Env → R Env) (ft : Env → R Bool) (fe : Env → R D) (vs : List Nat) : Env → R (List D) := fun env => (fi env).bind fun ds => guard' (decide (ds.length ≤ 16777216))
  (compL (fun d => noErr ((tg d (wipeE env vs)).bind fun e => (ft e).bind fun k => if k = true then (fe e).bind fun y => .ret (some y) else .ret none)) ds)
def yesT : Env → R Bool := fun _ => .ret true
section
variable {X : Cx} {c : Base} {W : WX} {w w' w1 w2 : Wd} {σ : L2.St} {env : Env} {e a b d : Expr} {fa fb fc : Env → R D} {ft fu : Env → R Bool} {fr fi : Env → R (List D)} {pos p pos2 : Pos} {st : Stmt} {rest : List Stmt} {f g : Env → R Out}
theorem noErr_wp {α : Type} {m : R α} {fu : Nat} {Q : Nat → α → Prop} {E : Nat → Er → Prop} (h : (noErr m).wp fu Q E) : m.wp fu Q (fun _ _ => False) := wp_bo h
theorem drop_at {α : Type} {l : List α} {i : Nat} {x : α} (h : l[i]? = some x) : l.drop i = x :: l.drop (i + 1) := by
  obtain ⟨h1, h2⟩ := List.getElem?_eq_some_iff.mp h
  rw [← h2]; exact List.drop_eq_getElem_cons h1
theorem ds_for {vs : List Nat} {g : TG} {tg : D → Env → R Env} (hx : PS X st (tFor (liftI c W fi) g (liftS c W f))) (hg : GD c vs g tg) : PS X st (liftS c W (forS fi tg f)) := ps_imp hx fun Dn σ H ⟨w, env, a, q⟩ => by
  refine ⟨w, env, a, R.wp_mono (wp_bo q) (fun fu ds hd J w1 e1 g1 it => ?_) fun fu er h => EK_of a.ok a.env h⟩
  subst e1
  have a1 := a.grow g1
  refine ⟨fun i m σ' H' => m = ds.length - i ∧ i ≤ ds.length ∧ ∃ w' env', At c σ' H' w' env' ∧ LE c w1 w' ∧ (loopL (fun d e => (tg d e).bind f) (ds.drop i) env').wp w'.fu (SK c W Dn w') fun _ _ => False, ⟨ds.length, rfl, Nat.zero_le _, w1, env, a1, LE.refl c w1, R.wp_mono hd (fun _ _ q => q.le (g1.le a.ok)) fun _ _ h => h⟩, ?_⟩
  rintro i m σ' H' ⟨rfl, hi, w', env', a', le, q'⟩
  obtain ⟨rfl⟩ := a'.h
  by_cases hlt : i < ds.length
  · refine .inr ⟨it.go w' i le a'.ok hlt, fun σ2 H2 => ∃ w2 e2, At c σ2 H2 w2 e2 ∧ LE c w1 w2 ∧ (loopL (fun d e => (tg d e).bind f) (ds.drop (i + 1)) e2).wp w2.fu (SK c W Dn w2) fun _ _ => False, fun σ2 H2 ⟨w2, e2, h1, h2, h3⟩ => ⟨ds.length - (i + 1), by omega, rfl, hlt, w2, e2, h1, h2, h3⟩, fun x H2 hy => ?_⟩
    obtain ⟨w2, rfl, hf2, g2, r2⟩ := it.yld w' i x H2 le a'.ok hy ds[i] (List.getElem?_eq_getElem hlt)
    rw [drop_at (List.getElem?_eq_getElem hlt)] at q'
    have a2 := a'.grow g2
    have le2 := g2.le a'.ok
    have q2 : (((tg ds[i] env').bind f).bind _).wp w'.fu (SK c W Dn w') (fun _ _ => False) := q'
    rw [← hf2] at q2
    refine hg w2 σ' env' x ds[i] _ a2.ok a2.env r2 (R.wp_mono (wp_b (wp_b q2)) (fun fu e3 q3 ef σ3 E3 _ => ?_) fun _ _ h => h)
    subst ef
    refine ⟨w2, e3, ⟨rfl, a2.ok, E3⟩, R.wp_mono q3 (fun fu o q4 => ?_) fun _ _ h => h⟩
    have q5 := R.wp_mono q4 (fun _ _ q => SK.le le2 q) fun _ _ h => h
    have nxt : ∀ e', (loopL (fun d e => (tg d e).bind f) (ds.drop (i + 1)) e').wp fu (SK c W Dn w2) (fun _ _ => False) → ∀ σ4 w4, w4.fu = fu → WOk c w4 → EnvOk c w4 σ4 e' → LE c w2 w4 → ∃ w2 e2, At c σ4 w4.H w2 e2 ∧ LE c w1 w2 ∧ (loopL (fun d e => (tg d e).bind f) (ds.drop (i + 1)) e2).wp w2.fu (SK c W Dn w2) fun _ _ => False :=
      fun e' q6 σ4 w4 ef k4 E4 l4 => by subst ef; exact ⟨w4, e', ⟨rfl, k4, E4⟩, le.trans (le2.trans l4), R.wp_mono q6 (fun _ _ q => q.le l4) fun _ _ h => h⟩
    cases o with
    | nx e' => exact nxt e' q5
    | ct e' => exact nxt e' q5
    | bk e' => exact q5
    | rt d => exact q5
    | rl d => exact q5
    | ex e' er => exact q5
  · have e : i = ds.length := by omega
    refine .inl ⟨it.stop w' i le a'.ok e, ?_⟩
    rw [List.drop_eq_nil_of_le (by omega)] at q'
    exact (show SK c W Dn w' w'.fu (.nx env') from q') σ' w' rfl a'.ok a'.env (LE.refl c w')
theorem EnvOk.wipe (E : EnvOk c w σ env) : ∀ vs, EnvOk c w (L2.wipe σ vs) (wipeE env vs)
  | [] => E
  | v :: vs => (EnvOk.wipe E vs).setNone
/-- a comprehension's list -/
theorem tLc_ofC {vs : List Nat} {g : TG} {tg : D → Env → R Env} (hg : GD c vs g tg) : ∀ σ H Q, liftL c W (compD fi tg ft fa vs) σ H Q → tLc (liftIc c W fi) g (liftT c (fun _ _ _ _ => False) ft) (liftE c (fun _ _ _ _ => False) fa) vs σ H Q := fun σ H Q ⟨w, env, a, q⟩ => by
  refine ⟨w, env, a, R.wp_mono (wp_b q) (fun fu ds hd J w1 e1 g1 it => ?_) fun _ _ h => h⟩
  subst e1
  obtain ⟨hl, hd⟩ := guard_line hd
  intro Dp hDp
  generalize hbody : (fun d => noErr ((tg d (wipeE env vs)).bind fun e => (ft e).bind fun k => if k = true then (fa e).bind fun y => R.ret (some y) else R.ret none)) = body at hd
  obtain ⟨k1, kr⟩ := Grow.asOwn (vs := []) g1.ok hDp
  have a1 := a.grow g1
  let Post : Nat → List D → Prop := fun fu ds => ∀ p vs w', w'.fu = fu → w'.O = p :: w.O → w.H p = none → w'.H p = some (.lst vs) → WOk c w' → Grow c w { w' with O := w.O } → RpsW c w' vs ds → Q (.ref p) w'.H
  refine ⟨fun i m H' => m = ds.length - i ∧ i ≤ ds.length ∧ ∃ w' us acc, w'.H = H' ∧ w'.O = Dp :: w.O ∧ WOk c w' ∧ Grow c w1 { w' with O := w.O } ∧ w'.H Dp = some (.lst us) ∧ RpsW c w' us acc ∧ acc.length ≤ i ∧ (compL body (ds.drop i)).wp w'.fu (fun fu r => Post fu (acc ++ r)) (EK c W σ w), ⟨ds.length, rfl, Nat.zero_le _, { O := Dp :: w1.O, nk := w1.nk, H := upd w1.H Dp (.lst []), fu := w1.fu }, [], [], rfl, by rw [g1.O], k1, ?_, upd_same, .nil, Nat.le_refl _, ?_⟩, ?_⟩
  · have g := Grow.new (o := .lst []) g1.ok hDp
    have e : ({ O := w.O, nk := w1.nk, H := upd w1.H Dp (.lst []), fu := w1.fu } : Wd) = { w1 with H := upd w1.H Dp (.lst []) } := by rw [g1.O]
    show Grow c w1 { O := w.O, nk := w1.nk, H := upd w1.H Dp (.lst []), fu := w1.fu }
    rw [e]; exact g
  · exact R.wp_mono hd (fun _ r h => h) fun _ _ h => h
  rintro i m H' ⟨rfl, hi, w', us, acc, rfl, hO, k', gr, hD', rA, hal, q'⟩
  have hs : ∀ x ∈ w.O, x ∈ w'.O := fun x hx => by rw [hO]; exact List.mem_cons_of_mem _ hx
  -- the world in which the new list is owned lies behind w1
  have le1 : LE c w1 w' := by
    have le := gr.le g1.ok
    refine ⟨fun a' o e => ?_, le.dk, le.fu⟩
    obtain ⟨h1, h2⟩ := hide_some.mp (le.ex _ _ e)
    refine hide_some.mpr ⟨fun z => h1 ?_, h2⟩
    have z : a' ∈ w'.O ++ (w'.nk ++ c.S) := z
    rw [hO] at z
    rcases List.mem_cons.mp z with z | z
    · exact absurd (vis_sub e) (by rw [z, hDp]; intro q; cases q)
    · exact z
  have E' : EnvOk c w' (L2.wipe σ vs) (wipeE env vs) := (a1.env.wipe vs).le le1 fun q hq => ⟨hs q (by rw [← g1.O]; exact hq), by
    cases e : w1.H q with
    | none => exact absurd e (g1.ok.Oh _ hq)
    | some o => exact gr.keep _ _ e (own_notdk g1.ok hq)⟩
  have same1 : ∀ p ∈ w1.O, w'.H p = w1.H p := fun q hq => by
    cases e : w1.H q with
    | none => exact absurd e (g1.ok.Oh _ hq)
    | some o => exact gr.keep _ _ e (own_notdk g1.ok hq)
  by_cases hlt : i < ds.length
  · refine .inr ⟨it.go w' i le1 k' same1 hlt, fun H2 => ∃ w2 us2 acc2, w2.H = H2 ∧ w2.O = Dp :: w.O ∧ WOk c w2 ∧ Grow c w1 { w2 with O := w.O } ∧ w2.H Dp = some (.lst us2) ∧ RpsW c w2 us2 acc2 ∧ acc2.length ≤ i + 1 ∧ (compL body (ds.drop (i + 1))).wp w2.fu (fun fu r => Post fu (acc2 ++ r)) (EK c W σ w), fun H2 ⟨w2, us2, acc2, h⟩ => ⟨ds.length - (i + 1), by omega, rfl, hlt, w2, us2, acc2, h⟩, fun x H2 hy => ?_⟩
    obtain ⟨w2, rfl, hf2, g2, r2⟩ := it.yld w' i x H2 le1 k' same1 hy ds[i] (List.getElem?_eq_getElem hlt)
    rw [drop_at (List.getElem?_eq_getElem hlt)] at q'
    have q3 := wp_b (show ((body ds[i]).bind fun o => (compL body (ds.drop (i + 1))).bind fun r => R.ret (match o with | some y => y :: r | none => r)).wp w'.fu (fun fu r => Post fu (acc ++ r)) (EK c W σ w) from q')
    rw [← hbody] at q3
    have q4 := noErr_wp q3
    rw [hbody, ← hf2] at q4
    -- what persists from w' on
    have grow2 : ∀ w3, Grow c w' w3 → w3.O = Dp :: w.O ∧ WOk c w3 ∧ Grow c w1 { w3 with O := w.O } ∧ w3.H Dp = some (.lst us) ∧ RpsW c w3 us acc := fun w3 g3 => by
      have hDk := own_notdk k' (show Dp ∈ w'.O by rw [hO]; exact List.mem_cons_self)
      refine ⟨g3.O.trans hO, g3.ok, ?_, g3.keep _ _ hD' hDk, (g3.le k').rpAll rA⟩
      have gg : Grow c { w' with O := w.O } { w3 with O := w.O } := ⟨rfl, g3.fu, g3.keep, g3.free, g3.nk, g3.ok.sub (by rw [g3.O]; exact hs)⟩
      exact gr.trans g1.ok gg
    refine hg w2 _ _ x ds[i] _ g2.ok (E'.grow k' g2) r2 (R.wp_mono (wp_b q4) (fun fu e3 q5 ef σ3 E3 ew => ?_) fun _ _ h => h)
    subst ef
    refine ⟨ew.trans (wipe_wipe σ vs), w2, e3, ⟨rfl, g2.ok, E3⟩, R.wp_mono (wp_b q5) (fun fu kk q6 w4 ef4 g4 => ?_) fun fu er h => h.elim⟩
    subst ef4
    have g24 := g2.trans k' g4
    cases kk with
    | false =>
      rw [if_neg (by decide)] at q6
      refine iteF ?_
      obtain ⟨h1, h2, h3, h4, h5⟩ := grow2 w4 g24
      refine ⟨w4, us, acc, rfl, h1, h2, h3, h4, h5, by omega, ?_⟩
      exact R.wp_mono (wp_b (show ((compL body (ds.drop (i + 1))).bind fun r => R.ret r).wp w4.fu (fun fu r => Post fu (acc ++ r)) (EK c W σ w) from q6)) (fun _ r h => h) fun _ _ h => h
    | true =>
      rw [if_pos rfl] at q6
      refine iteT ?_
      refine ⟨w4, e3, ⟨rfl, g4.ok, E3.grow g2.ok g4⟩, R.wp_mono (wp_b q6) (fun fu y q7 v w5 ef5 g5 r5 => ?_) fun fu er h => h.elim⟩
      subst ef5
      have g25 := g24.trans k' g5
      obtain ⟨h1, h2, h3, h4, h5⟩ := grow2 w5 g25
      have hDO : Dp ∈ w5.O := by rw [h1]; exact List.mem_cons_self
      refine ⟨us, h4, by rw [h5.len]; omega, { w5 with H := upd w5.H Dp (.lst (us ++ [v])) }, us ++ [v], acc ++ [y], rfl, h1, h2.mut hDO, ?_, upd_same, ?_, by rw [List.length_append]; show acc.length + 1 ≤ _; omega, ?_⟩
      · -- the owned place's change is unseen
        refine ⟨h3.O, h3.fu, fun a' o e n => ?_, fun a' e => ?_, h3.nk, (h2.mut hDO).sub (fun x hx => by show x ∈ w5.O; rw [h1]; exact List.mem_cons_of_mem _ hx)⟩
        · show upd w5.H Dp _ a' = _
          rw [upd_ne (fun z => by rw [z, hDp] at e; cases e)]; exact h3.keep _ _ e n
        · by_cases z : a' = Dp
          · subst z; exact hDp
          · have e' : upd w5.H Dp (.lst (us ++ [v])) a' = none := e
            rw [upd_ne z] at e'; exact h3.free _ e'
      · have e := vis_mut (c := c) (o := .lst (us ++ [v])) hDO
        show RpAll c.KM (c.dks w5) (c.vis { w5 with H := upd w5.H Dp (.lst (us ++ [v])) }) _ _
        rw [e]
        exact h5.app (.cons r5 .nil)
      · have q8 := wp_b (show ((compL body (ds.drop (i + 1))).bind fun r => R.ret (y :: r)).wp w5.fu (fun fu r => Post fu (acc ++ r)) (EK c W σ w) from q7)
        exact R.wp_mono q8 (fun _ r h => by rw [List.append_assoc]; exact h) fun _ _ h => h
  · have e : i = ds.length := by omega
    refine .inl ⟨it.stop w' i le1 k' same1 e, ?_⟩
    rw [List.drop_eq_nil_of_le (by omega)] at q'
    have q2 : Post w'.fu (acc ++ []) := q'
    rw [List.append_nil] at q2
    exact q2 Dp us w' rfl hO (g1.free _ hDp) hD' k' (g1.trans a.ok gr) rA
theorem tLc_of {vs : List Nat} {g : TG} {tg : D → Env → R Env} (hg : GD c vs g tg) : ∀ σ H Q, liftL c W (compD fi tg ft fa vs) σ H Q → tLc (liftI c W fi) g (liftT c (fun _ _ _ _ => False) ft) (liftE c (fun _ _ _ _ => False) fa) vs σ H Q := fun σ H Q h => by
  obtain ⟨w, env, a, q⟩ := tLc_ofC hg σ H Q h
  exact ⟨w, env, a, R.wp_mono q (fun fu ds hd J w1 e1 g1 it => hd J w1 e1 g1 it.toC) fun _ _ h => h⟩
theorem dl_lc {vs : List Nat} {g : TG} {tg : D → Env → R Env} (hx : PE X e (tLc (liftI c W fi) g (liftT c (fun _ _ _ _ => False) ft) (liftE c (fun _ _ _ _ => False) fa) vs)) (hg : GD c vs g tg) : PE X e (liftL c W (compD fi tg ft fa vs)) := pe_imp hx (tLc_of hg)
theorem dts_nil : PTs X [] (liftT c W yesT) := ⟨fun pins s σ H Q I ⟨w, env, a, q⟩ => pts_nil.run pins s σ H Q I (by
  show Q true H
  rw [← a.h]
  exact (show BQ c w Q w.fu true from q) w rfl (Grow.refl a.ok))⟩
end
def orR (r r' : R2) : R2 := fun x y H Q => r x y H Q ∨ r' x y H Q
theorem OpR.or {X : Cx} {f : Value → Value → Sem Value} {r r' : R2} (h : OpR X f r) (h' : OpR X f r') : OpR X f (orR r r') := fun pins s σ H x y v u Q I rx ry q => by
  rcases q with q | q
  · exact h pins s σ H x y v u Q I rx ry q
  · exact h' pins s σ H x y v u Q I rx ry q
def orC (r r' : List V → Hp → VK → Prop) : List V → Hp → VK → Prop := fun x H Q => r x H Q ∨ r' x H Q
theorem CallR.or {X : Cx} {f : Value} {r r' : List V → Hp → VK → Prop} (h : CallR X f r) (h' : CallR X f r') : CallR X f (orC r r') := fun pins s σ H x v Q I rx q => by
  rcases q with q | q
  · exact h pins s σ H x v Q I rx q
  · exact h' pins s σ H x v Q I rx q
def gAdd : D → D → R D
  | .int i, .int j => .ret (.int (i + j))
  | .str a, .str b => guard' (decide (a.length + b.length ≤ 16777216)) (.ret (.str (a ++ b)))
  | .list a, .list b => guard' (decide (a.length + b.length ≤ 16777216)) (.ret (.list (a ++ b)))
  | .tuple a, .tuple b => guard' (decide (a.length + b.length ≤ 16777216)) (.ret (.tuple (a ++ b)))
  | _, _ => .bad
/-- list + list of any standing -/
def rCatL (K : PySem.W.Frag) : R2 := fun x y H Q => ∃ l b xs zs, x = .ref l ∧ y = .ref b ∧ SqL K H l xs ∧ SqL K H b zs ∧ xs.length + zs.length ≤ sizeLine ∧ ∀ p, H p = none → Q (.ref p) (upd H p (.lst (xs ++ zs)))
theorem op_catL {X : Cx} : OpR X (binaryOp .Add) (rCatL X.K) := by
  intro pins s σ H x y v u Q I rx ry h
  obtain ⟨l, b, xs, zs, rfl, rfl, hH, hB, hz, q⟩ := h
  cases rx
  cases ry
  obtain ⟨i1, r, ⟨⟨c1, d1, t1, s1⟩, n, e, k1, k2, k3⟩, _⟩ := I.list hH
  obtain ⟨i2, r2, ⟨⟨c2, d2, t2, s2⟩, n2, e2, j1, j2, j3⟩, _⟩ := I.list hB
  simp only at k1 k2 k3 j1 j2 j3
  subst k1 k2 k3 j1 j2 j3
  have hl := r.length
  have hl2 := r2.length
  have hs : i1.toArray.size + i2.toArray.size ≤ sizeLine := by
    rw [List.size_toArray, List.size_toArray]; omega
  refine concat_meets ⟨_, e, rfl⟩ ⟨_, e2, rfl⟩ noFill_list_add seq_list_add PySem.F.slot_list_add PySem.F.entry_list_add (PySem.F.args_list_add_2 _ _) (list_addW l b i1.toArray i2.toArray n n2 none none s1 s2 hs) ⟨e, e2, ?_⟩
  have ea : i1.toArray ++ i2.toArray = (i1 ++ i2).toArray := by simp
  rw [ea]
  exact ⟨.ref _, _, I.lnew (t' := s.toks) (r.append r2) (by rw [List.length_append]; omega), rfl, q _ I.fresh⟩
def rAddAll (K : PySem.W.Frag) : R2 := orR (rI0 fun i j => .int (i + j)) (orR rAddS (orR (rCatL K) (rCatF K)))
theorem op_addAll {X : Cx} : OpR X (binaryOp .Add) (rAddAll X.K) := OpR.or op_add (OpR.or op_add_str (OpR.or op_catL op_catF))
theorem new_tup {c : Base} {w : Wd} {Q : VK} {vs : List V} {ds : List D} (k : WOk c w) (r : RpsW c w vs ds) (h : PQ c w Q w.fu (.tuple ds)) : ∀ p ob, w.H p = none → ob.dict = none → Q (.ref p) (upd w.H p (.frz ob (.tup vs))) := fun p ob hp hd => by
  have g := Grow.new (o := .frz ob (.tup vs)) k hp
  exact h _ _ (by rfl) g (.tup (sqN_new k hp hd) ((g.le k).rpAll r))
theorem new_lst {c : Base} {w : Wd} {Q : VK} {vs : List V} {ds : List D} (k : WOk c w) (r : RpsW c w vs ds) (h : PQ c w Q w.fu (.list ds)) : ∀ p, w.H p = none → Q (.ref p) (upd w.H p (.lst vs)) := fun p hp => by
  have g := Grow.new (o := .lst vs) k hp
  exact h _ _ (by rfl) g (.lst (sqL_new k hp) ((g.le k).rpAll r))
theorem PQ.here {c : Base} {w : Wd} {Q : VK} {v : V} {d : D} (k : WOk c w) (h : PQ c w Q w.fu d) (r : RpW c w v d) : Q v w.H := h v w rfl (Grow.refl k) r
/-- K of the base is that of the place -/
def OpDK (r : PySem.W.Frag → R2) (g : D → D → R D) : Prop := ∀ c : Base, OpAt c (r c.K) g
theorem d_add : OpDK rAddAll gAdd := fun c W σ w x y v u Q k r1 r2 h => by
  cases x <;> cases y <;> first
    | exact h.elim
    | skip
  · obtain rfl := r1.isInt
    obtain rfl := r2.isInt
    exact .inl ⟨_, _, rfl, rfl, PQ.here k h (.int _)⟩
  · obtain rfl := r1.isStr
    obtain rfl := r2.isStr
    obtain ⟨h1, h2⟩ := wp_guard.mp h
    exact .inr (.inl ⟨_, _, rfl, rfl, line_eq.mpr (of_decide_eq_true h1), PQ.here k h2 (.str _)⟩)
  · obtain ⟨a, xs, rfl, s1, a1⟩ := r1.isLst
    obtain ⟨b, ys, rfl, s2, a2⟩ := r2.isLst
    obtain ⟨h1, h2⟩ := wp_guard.mp h
    exact .inr (.inr (.inl ⟨a, b, xs, ys, rfl, rfl, sqL_vis s1, sqL_vis s2, by rw [a1.len, a2.len]; exact line_eq.mpr (of_decide_eq_true h1), new_lst k (a1.app a2) h2⟩))
  · obtain ⟨a, xs, rfl, s1, a1⟩ := r1.isTupN
    obtain ⟨b, ys, rfl, s2, a2⟩ := r2.isTupN
    obtain ⟨h1, h2⟩ := wp_guard.mp h
    refine .inr (.inr (.inr ⟨a, b, xs, ys, rfl, rfl, sqT_vis s1.sqT, sqT_vis s2.sqT, by rw [a1.len, a2.len]; exact line_eq.mpr (of_decide_eq_true h1), fun e => ?_, fun _ e => ?_, fun _ _ => new_tup k (a1.app a2) h2⟩))
    · subst e
      cases a1
      exact PQ.here k h2 (.tup s2 a2)
    · subst e
      cases a2
      rw [List.append_nil] at h2
      exact PQ.here k h2 (.tup s1 a1)
def gSub (x y : D) : R D := match x, y with
  | .int i, .int j => .ret (.int (i - j))
  | _, _ => .bad
theorem d_sub : OpD (rI0 fun i j => .int (i - j)) gSub := fun c W σ w x y v u Q k r1 r2 h => by
  cases x <;> cases y <;> first
    | exact h.elim
    | skip
  obtain rfl := r1.isInt
  obtain rfl := r2.isInt
  exact ⟨_, _, rfl, rfl, PQ.here k h (.int _)⟩
/-- times: ints, a list or tuple so many times -/
def gMul (x y : D) : R D := match x, y with
  | .int i, .int j => guard' (decide ((-18446744073709551616 < i ∧ i < 18446744073709551616) ∨ (-18446744073709551616 < j ∧ j < 18446744073709551616))) (.ret (.int (i * j)))
  | _, _ => .bad
theorem d_mul : OpD (rI CMul fun i j => .int (i * j)) gMul := fun c W σ w x y v u Q k r1 r2 h => by
  cases x <;> cases y <;> first
    | exact h.elim
    | skip
  obtain rfl := r1.isInt
  obtain rfl := r2.isInt
  obtain ⟨h1, h2⟩ := wp_guard.mp h
  have h3 := of_decide_eq_true h1
  exact ⟨_, _, rfl, rfl, h3, PQ.here k h2 (.int _)⟩
def gMod (x y : D) : R D := match x, y with
  | .int i, .int j => guard' (decide (0 < j)) (.ret (.int (i % j)))
  | _, _ => .bad
def gDiv (x y : D) : R D := match x, y with
  | .int i, .int j => guard' (decide (0 < j ∧ j < 2 ^ 200)) (.ret (.int (i / j)))
  | _, _ => .bad
def gPow (x y : D) : R D := match x, y with
  | .int i, .int j => guard' (decide (0 ≤ j ∧ j ≤ 1000 ∧ i.natAbs < 2 ^ 64)) (.ret (.int (i ^ j.toNat)))
  | _, _ => .bad
def gNeg (x : D) : R D := match x with
  | .int i => .ret (.int (-i))
  | _ => .bad
theorem d_neg : UnD (rU fun i => .int (-i)) gNeg := fun c W σ w x v Q k r1 h => by
  cases x <;> first
    | exact h.elim
    | skip
  obtain rfl := r1.isInt
  exact ⟨_, rfl, PQ.here k h (.int _)⟩
/-- texts, whatever their signs -/
def strEq : D → D → Option Bool
  | .str a, .str b => some (decide (a = b))
  | .str _, .int _ => some false
  | .int _, .str _ => some false
  | .str _, .bool _ => some false
  | .bool _, .str _ => some false
  | .str _, .none => some false
  | .none, .str _ => some false
  | _, _ => none
def gEq (x y : D) : R D := match strEq x y with
  | some b => .ret (.bool b)
  | none => guard' (SeqAt.shaped x && SeqAt.shaped y) (.ret (.bool (PyData.eqv x y)))
def gNe (x y : D) : R D := match strEq x y with
  | some b => .ret (.bool (!b))
  | none => guard' (SeqAt.shaped x && SeqAt.shaped y) (.ret (.bool (!PyData.eqv x y)))
def rEqAll (K : PySem.W.Frag) : R2 := orR rEq (rEqD K)
def rNeAll (K : PySem.W.Frag) : R2 := orR rNe (rNeD K)
theorem op_eqAll {X : Cx} (hu : X.A.units + 64 < cLine) : OpR X (compareOp .Eq) (rEqAll X.K) := OpR.or op_eq (op_eqD hu)
theorem op_neAll {X : Cx} (hu : X.A.units + 64 < cLine) : OpR X (compareOp .NotEq) (rNeAll X.K) := OpR.or op_ne (op_neD hu)
theorem strEq_v {c : Base} {w : Wd} {x y : D} {v u : V} {b : Bool} (r1 : RpW c w v x) (r2 : RpW c w u y) (h : strEq x y = some b) : scal v u = true ∧ decide (v = u) = b := by
  unfold strEq at h
  split at h <;> first
    | (cases h; done)
    | skip
  · obtain rfl := r1.isStr
    obtain rfl := r2.isStr
    cases h
    exact ⟨rfl, by simp⟩
  · obtain rfl := r1.isStr; obtain rfl := r2.isInt; cases h; exact ⟨rfl, by simp⟩
  · obtain rfl := r1.isInt; obtain rfl := r2.isStr; cases h; exact ⟨rfl, by simp⟩
  · obtain rfl := r1.isStr; obtain rfl := r2.isBl; cases h; exact ⟨rfl, by simp⟩
  · obtain rfl := r1.isBl; obtain rfl := r2.isStr; cases h; exact ⟨rfl, by simp⟩
  · obtain rfl := r1.isStr; obtain rfl := r2.isNon; cases h; exact ⟨rfl, by simp⟩
  · obtain rfl := r1.isNon; obtain rfl := r2.isStr; cases h; exact ⟨rfl, by simp⟩
theorem d_eq : OpDK rEqAll gEq := fun c W σ w x y v u Q k r1 r2 h => by
  unfold gEq at h
  split at h
  · rename_i b e
    obtain ⟨e1, e2⟩ := strEq_v r1 r2 e
    refine .inl ⟨e1, ?_⟩
    rw [e2]; exact PQ.here (d := .bool b) k h (.bl _)
  · obtain ⟨h1, h2⟩ := wp_guard.mp h
    obtain ⟨h3, h4⟩ := (Bool.and_eq_true _ _).mp h1
    exact .inr ⟨x, y, dp_mono (fun _ _ => vis_sub) (r1.dp (SeqAt.canLay_of_shaped h3)), dp_mono (fun _ _ => vis_sub) (r2.dp (SeqAt.canLay_of_shaped h4)), h3, h4, PQ.here k h2 (.bl _)⟩
theorem d_ne : OpDK rNeAll gNe := fun c W σ w x y v u Q k r1 r2 h => by
  unfold gNe at h
  split at h
  · rename_i b e
    obtain ⟨e1, e2⟩ := strEq_v r1 r2 e
    refine .inl ⟨e1, ?_⟩
    rw [e2]; exact PQ.here (d := .bool (!b)) k h (.bl _)
  · obtain ⟨h1, h2⟩ := wp_guard.mp h
    obtain ⟨h3, h4⟩ := (Bool.and_eq_true _ _).mp h1
    exact .inr ⟨x, y, dp_mono (fun _ _ => vis_sub) (r1.dp (SeqAt.canLay_of_shaped h3)), dp_mono (fun _ _ => vis_sub) (r2.dp (SeqAt.canLay_of_shaped h4)), h3, h4, PQ.here k h2 (.bl _)⟩
/-- the ints of a tuple -/
def intsOf : List D → Option (List Int)
  | [] => some []
  | .int i :: r => (intsOf r).map (i :: ·)
  | _ => none
theorem intsOf_map : ∀ {ds : List D} {ns : List Int}, intsOf ds = some ns → ds = ns.map PyData.int
  | [], ns, h => by cases h; rfl
  | d :: r, ns, h => by
    cases d with
    | int i =>
      unfold intsOf at h
      cases e : intsOf r with
      | none => rw [e] at h; cases h
      | some ms =>
        rw [e] at h
        cases h
        rw [intsOf_map e]; rfl
    | _ => cases h
theorem rpInts {K : KM} {dk : List Addr} {G : Hp} : ∀ {ns : List Int} {vs : List V}, RpAll K dk G vs (ns.map PyData.int) → vs = ns.map V.int
  | [], _, h => by cases h; rfl
  | n :: r, _, h => by
    cases h with
    | cons h1 h2 => rw [h1.isInt, rpInts h2]; rfl
def tupLt (a b : List D) : R D := match intsOf a, intsOf b with
  | some ns, some ms => .ret (.bool (HT.lexLt ns ms))
  | _, _ => .bad
/-- two tuples can be compared, place by place -/
def ltOk (a b : D) : Bool := PySem.W.alike a b && (SeqAt.shaped a && SeqAt.shaped b)
def tupLtA (a b : List D) : R D := match intsOf a, intsOf b with
  | some ns, some ms => .ret (.bool (HT.lexLt ns ms))
  | _, _ => guard' (ltOk (.tuple a) (.tuple b)) (.ret (.bool (PySem.W.dataLt (.tuple a) (.tuple b))))
def gLt (x y : D) : R D := match x, y with
  | .int i, .int j => .ret (.bool (decide (i < j)))
  | .str a, .str b => .ret (.bool (decide (a.cps.toList < b.cps.toList)))
  | .tuple a, .tuple b => tupLtA a b
  | _, _ => .bad
def gLe (x y : D) : R D := match x, y with
  | .int i, .int j => .ret (.bool (decide (i ≤ j)))
  | .str a, .str b => .ret (.bool (!decide (b.cps.toList < a.cps.toList)))
  | _, _ => .bad
def gGt (x y : D) : R D := match x, y with
  | .int i, .int j => .ret (.bool (decide (j < i)))
  | _, _ => .bad
def gGe (x y : D) : R D := match x, y with
  | .int i, .int j => .ret (.bool (decide (j ≤ i)))
  | _, _ => .bad
def rLtAl (K : PySem.W.Frag) : R2 := fun x y H Q => ∃ d e, Dp K H x d ∧ Dp K H y e ∧ PySem.W.alike d e = true ∧ d ≠ .none ∧ PyData.depth d ≤ 64 ∧ Q (.bl (PySem.W.dataLt d e)) H
theorem op_ltAl {X : Cx} (hu : X.A.units + 64 < cLine) : OpR X (compareOp .Lt) (rLtAl X.K) := by
  intro pins s σ H x y v u Q I rx ry h
  obtain ⟨d, e, hd, he, ha, hn, hdd, q⟩ := h
  obtain ⟨as, r1⟩ := Dp.reads I d x v hd rx
  obtain ⟨bs, r2⟩ := Dp.reads I e y u he ry
  exact PySem.W.rcLt_alike d e X.A s v u as bs r1 r2 ha hn (by have : min d.depth e.depth ≤ d.depth := Nat.min_le_left _ _; omega) _ _ _ _ ⟨.bl _, H, I, rfl, q⟩
def rLtAll (K : PySem.W.Frag) : R2 := orR (rI0 fun i j => .bl (decide (i < j))) (orR (fun x y H Q => ∃ i j, x = .str i ∧ y = .str j ∧ Q (.bl (decide (i.cps.toList < j.cps.toList))) H) (orR (rLtT K) (rLtAl K)))
def rLeAll : R2 := orR (rI0 fun i j => .bl (decide (i ≤ j))) (fun x y H Q => ∃ i j, x = .str i ∧ y = .str j ∧ Q (.bl (!decide (j.cps.toList < i.cps.toList))) H)
theorem op_ltAll {X : Cx} (hu : X.A.units + 64 < cLine) : OpR X (compareOp .Lt) (rLtAll X.K) := OpR.or op_lt (OpR.or op_lt_str (OpR.or (op_ltT (by omega)) (op_ltAl hu)))
theorem op_leAll {X : Cx} : OpR X (compareOp .LtE) rLeAll := OpR.or op_le op_le_str
theorem d_lt : OpDK rLtAll gLt := fun c W σ w x y v u Q k r1 r2 h => by
  cases x <;> cases y <;> first
    | exact h.elim
    | skip
  · obtain rfl := r1.isInt
    obtain rfl := r2.isInt
    exact .inl ⟨_, _, rfl, rfl, PQ.here k h (.bl _)⟩
  · obtain rfl := r1.isStr
    obtain rfl := r2.isStr
    exact .inr (.inl ⟨_, _, rfl, rfl, PQ.here k h (.bl _)⟩)
  · obtain ⟨a, xs, rfl, s1, a1⟩ := r1.isTup
    obtain ⟨b, ys, rfl, s2, a2⟩ := r2.isTup
    rename_i ta tb
    have h5 : (tupLtA ta tb).wp w.fu (PQ c w Q) (EK c W σ w) := h
    clear h
    unfold tupLtA at h5
    split at h5
    · rename_i ns ms e1 e2
      have e1 := intsOf_map e1
      have e2 := intsOf_map e2
      subst e1 e2
      have f1 := rpInts a1
      have f2 := rpInts a2
      subst f1 f2
      exact .inr (.inr (.inl ⟨a, b, ns, ms, rfl, rfl, sqT_vis s1, sqT_vis s2, PQ.here (d := .bool _) k h5 (.bl _)⟩))
    · obtain ⟨h1, h2⟩ := wp_guard.mp h5
      unfold ltOk at h1
      rw [Bool.and_eq_true, Bool.and_eq_true] at h1
      obtain ⟨c1, c2, c3⟩ := h1
      exact .inr (.inr (.inr ⟨_, _, dp_mono (fun _ _ => vis_sub) (r1.dp (SeqAt.canLay_of_shaped c2)), dp_mono (fun _ _ => vis_sub) (r2.dp (SeqAt.canLay_of_shaped c3)), c1, (by simp), (by
        unfold SeqAt.shaped at c2
        rw [Bool.and_eq_true, decide_eq_true_eq] at c2
        exact c2.2), PQ.here k h2 (.bl _)⟩))
theorem d_le : OpD rLeAll gLe := fun c W σ w x y v u Q k r1 r2 h => by
  cases x <;> cases y <;> first
    | exact h.elim
    | skip
  · obtain rfl := r1.isInt
    obtain rfl := r2.isInt
    exact .inl ⟨_, _, rfl, rfl, PQ.here k h (.bl _)⟩
  · obtain rfl := r1.isStr
    obtain rfl := r2.isStr
    exact .inr ⟨_, _, rfl, rfl, PQ.here k h (.bl _)⟩
theorem d_gt : OpD (rI0 fun i j => .bl (decide (j < i))) gGt := fun c W σ w x y v u Q k r1 r2 h => by
  cases x <;> cases y <;> first
    | exact h.elim
    | skip
  obtain rfl := r1.isInt
  obtain rfl := r2.isInt
  exact ⟨_, _, rfl, rfl, PQ.here k h (.bl _)⟩
/-- is None, is not None; is of truths -/
abbrev isNonD : D → Bool
  | .none => true
  | _ => false
def gIs (x y : D) : R D := match x, y with
  | x, .none => .ret (.bool (isNonD x))
  | .bool a, .bool b => .ret (.bool (decide (a = b)))
  | _, _ => .bad
def gIsNot (x y : D) : R D := match y with
  | .none => .ret (.bool (!isNonD x))
  | _ => .bad
theorem isNon_v {c : Base} {w : Wd} {v : V} {x : D} (r : RpW c w v x) : decide (v = V.non) = isNonD x := by
  cases r <;> simp [isNonD, deckD, scrD, excD, rgD]
def rIsBl : R2 := fun x y H Q => ∃ a b, x = .bl a ∧ y = .bl b ∧ Q (.bl (decide (a = b))) H
def rIsNn : R2 := fun x y H Q => y = .non ∧ Q (.bl (decide (x = .non))) H
def rNotNn : R2 := fun x y H Q => y = .non ∧ Q (.bl (!decide (x = .non))) H
theorem op_isNotAll {X : Cx} : OpR X (compareOp .IsNot) rNotNn := op_notN
theorem d_isNot : OpD rNotNn gIsNot := fun c W σ w x y v u Q k r1 r2 h => by
  cases y with
  | none =>
    refine ⟨r2.isNon, ?_⟩
    rw [isNon_v r1]
    exact PQ.here k h (.bl _)
  | _ => exact h.elim
def gIn (x y : D) : R D := match y with
  | .list ds => guard' (SeqAt.shaped x && SeqAt.shaped (.list ds)) (.ret (.bool (ds.any fun z => PyData.eqv z x)))
  | _ => .bad
def gNotIn (x y : D) : R D := match y with
  | .list ds => guard' (SeqAt.shaped x && SeqAt.shaped (.list ds)) (.ret (.bool (!ds.any fun z => PyData.eqv z x)))
  | _ => .bad
/-- the script's numbers -/
def scrOf : D → Option (List Int)
  | .dict [(.list ds, .bool true)] => intsOf ds
  | _ => none
theorem intsOf_of (ns : List Int) : intsOf (ns.map PyData.int) = some ns := by
  induction ns with
  | nil => rfl
  | cons n r ih =>
    show (intsOf (r.map PyData.int)).map (n :: ·) = _
    rw [ih]; rfl
theorem scrOf_scr (ns : List Int) : scrOf (scrD ns) = some ns := intsOf_of ns
theorem scrOf_eq {d : D} {ns : List Int} (h : scrOf d = some ns) : d = scrD ns := by
  unfold scrOf at h
  split at h
  · rw [intsOf_map h]; rfl
  · cases h
def scrGo {α : Type} (d : D) (k : List Int → R α) : R α := match scrOf d with
  | some ns => k ns
  | none => .bad
theorem scrGo_scr {α : Type} {ns : List Int} {k : List Int → R α} : scrGo (scrD ns) k = k ns := by
  unfold scrGo
  rw [scrOf_scr]
theorem scrGo_wp {α : Type} {c : Base} {w : Wd} {v : V} {d : D} {k : List Int → R α} {fu : Nat} {Q : Nat → α → Prop} {E : Nat → Er → Prop} (r : RpW c w v d) (h : (scrGo d k).wp fu Q E) : ∃ ns a, d = scrD ns ∧ v = .ref a ∧ SqL c.K w.H a (ns.map V.int) ∧ (k ns).wp fu Q E := by
  unfold scrGo at h
  split at h
  · rename_i ns e
    have e := scrOf_eq e
    subst e
    obtain ⟨a, e1, e2⟩ := r.isScr
    exact ⟨ns, a, rfl, e1, sqL_vis e2, h⟩
  · exact h.elim
def ixL (ds : List D) (i : Int) : R D := match atI ds i with
  | some d => .ret d
  | none => .bad
def gIx (x y : D) : R D := match x, y with
  | .list ds, .int i => ixL ds i
  | .tuple ds, .int i => ixL ds i
  | .str z, .int i => guard' (decide (z.length ≤ 16777216)) (match atI z.cps.toList i with | some n => .ret (.str ⟨#[n]⟩) | none => .bad)
  | .dict k, y => scrGo (.dict k) fun ns => match y with
    | .int i => ixL (ns.map PyData.int) i
    | _ => .bad
  | _, _ => .bad
theorem atI_rp {K : KM} {dk : List Addr} {G : Hp} {vs : List V} {ds : List D} {i : Int} {d : D} (r : RpAll K dk G vs ds) (h : atI ds i = some d) : ∃ v, atI vs i = some v ∧ Rp K dk G v d := by
  unfold atI at h ⊢
  rw [r.len]
  cases e : ixN ds.length i with
  | none => rw [e] at h; cases h
  | some j =>
    rw [e] at h
    exact r.at' h
theorem atI_map {α β : Type} (f : α → β) (l : List α) (i : Int) : atI (l.map f) i = (atI l i).map f := by
  unfold atI
  rw [List.length_map]
  cases ixN l.length i with
  | none => rfl
  | some j => show (l.map f)[j]? = _; rw [List.getElem?_map]; rfl
theorem d_ixScr {c : Base} {W : WX} {σ : L2.St} {w : Wd} {x y : D} {v u : V} {Q : VK} (k : WOk c w) (r1 : RpW c w v x) (r2 : RpW c w u y) (h : (scrGo x fun ns => match y with | .int i => ixL (ns.map PyData.int) i | _ => .bad).wp w.fu (PQ c w Q) (EK c W σ w)) : rIx c.K v u w.H Q := by
  obtain ⟨ns, a, rfl, rfl, e, h⟩ := scrGo_wp r1 h
  cases y with
  | int i =>
    obtain rfl := r2.isInt
    have h : (ixL (ns.map PyData.int) i).wp w.fu (PQ c w Q) (EK c W σ w) := h
    unfold ixL at h
    rw [atI_map] at h
    cases e2 : atI ns i with
    | none => rw [e2] at h; exact h.elim
    | some n =>
      rw [e2] at h
      refine .inl ⟨a, ns.map V.int, i, .int n, rfl, rfl, e, by rw [atI_map, e2]; rfl, PQ.here (d := .int n) k h (.int n)⟩
  | _ => exact h.elim
theorem d_ix : OpDK rIx gIx := fun c W σ w x y v u Q k r1 r2 h => by
  cases x <;> cases y <;> first
    | exact h.elim
    | exact d_ixScr k r1 r2 h
    | skip
  · obtain rfl := r1.isStr
    obtain rfl := r2.isInt
    obtain ⟨h1, h2⟩ := wp_guard.mp h
    split at h2
    · rename_i e
      exact .inr (.inr ⟨_, _, _, rfl, rfl, line_eq.mpr (of_decide_eq_true h1), e, PQ.here k h2 (.str _)⟩)
    · exact h2.elim
  · obtain ⟨a, xs, rfl, s1, a1⟩ := r1.isLst
    obtain rfl := r2.isInt
    rename_i da ia
    have h : (ixL da ia).wp w.fu (PQ c w Q) (EK c W σ w) := h
    unfold ixL at h
    split at h
    · rename_i d e
      obtain ⟨z, e2, r⟩ := atI_rp a1 e
      exact .inl ⟨a, xs, _, z, rfl, rfl, sqL_vis s1, e2, PQ.here k h r⟩
    · exact h.elim
  · obtain ⟨a, xs, rfl, s1, a1⟩ := r1.isTup
    obtain rfl := r2.isInt
    rename_i da ia
    have h : (ixL da ia).wp w.fu (PQ c w Q) (EK c W σ w) := h
    unfold ixL at h
    split at h
    · rename_i d e
      obtain ⟨z, e2, r⟩ := atI_rp a1 e
      exact .inr (.inl ⟨a, xs, _, z, rfl, rfl, sqT_vis s1, e2, PQ.here k h r⟩)
    · exact h.elim
def cutD {α : Type} (xs : List α) (lo hi : Option Int) : List α := (xs.drop (HT.sIx xs.length 0 lo)).take (HT.sIx xs.length xs.length hi - HT.sIx xs.length 0 lo)
def gSl (x : D) (lo hi : Option Int) : R D := match x with
  | .list ds => .ret (.list (cutD ds lo hi))
  | .tuple ds => .ret (.tuple (cutD ds lo hi))
  | .str z => guard' (decide (z.length ≤ 16777216)) (.ret (.str (cutS z lo hi)))
  | _ => .bad
def rSlAll (K : PySem.W.Frag) : V → Option Int → Option Int → Hp → VK → Prop := fun x lo hi H Q => rSlL K x lo hi H Q ∨ (fun x lo hi H Q => rSlF K x lo hi H Q ∨ rSlS x lo hi H Q) x lo hi H Q
theorem sl_all {X : Cx} : SlR X (rSlAll X.K) := SlR.or sl_list (SlR.or sl_tupF sl_str)
theorem cutV_rp {K : KM} {dk : List Addr} {G : Hp} {vs : List V} {ds : List D} {lo hi : Option Int} (r : RpAll K dk G vs ds) : RpAll K dk G (cutV vs lo hi) (cutD ds lo hi) := by
  unfold cutV cutD
  rw [r.len]
  exact (r.drop _).take _
def SlDK (r : PySem.W.Frag → V → Option Int → Option Int → Hp → VK → Prop) (g : D → Option Int → Option Int → R D) : Prop := ∀ c : Base, SlAt c (r c.K) g
theorem d_sl : SlDK rSlAll gSl := fun c W σ w x v lo hi Q k r1 h => by
  cases x <;> first
    | exact h.elim
    | skip
  · obtain rfl := r1.isStr
    obtain ⟨h1, h2⟩ := wp_guard.mp h
    exact .inr (.inr ⟨_, rfl, line_eq.mpr (of_decide_eq_true h1), PQ.here k h2 (.str _)⟩)
  · obtain ⟨a, xs, rfl, s1, a1⟩ := r1.isLst
    exact .inl ⟨a, xs, rfl, sqL_vis s1, new_lst k (cutV_rp a1) h⟩
  · obtain ⟨a, xs, rfl, s1, a1⟩ := r1.isTupN
    refine .inr (.inl ⟨a, xs, rfl, sqT_vis s1.sqT, fun e => ?_, fun _ => new_tup k (cutV_rp a1) h⟩)
    refine PQ.here k h ?_
    have e2 : cutV xs lo hi = xs := by
      unfold cutV
      rw [e.1, e.2]; simp
    have := cutV_rp (lo := lo) (hi := hi) a1
    rw [e2] at this
    exact .tup s1 this
def CallDK (r : PySem.W.Frag → List V → Hp → VK → Prop) (g : List D → R D) : Prop := ∀ c : Base, CallAt c (r c.K) g
def lenD : D → R Int
  | .str z => guard' (decide (z.length ≤ 16777216)) (.ret z.length)
  | .list ds => .ret ds.length
  | .tuple ds => .ret ds.length
  | .dict k => scrGo (.dict k) fun ns => .ret ns.length
  | _ => .bad
def gLen (xs : List D) : R D := match xs with
  | [x] => (lenD x).bind fun n => .ret (.int n)
  | _ => .bad
def rLenV (K : PySem.W.Frag) : List V → Hp → VK → Prop := fun xs H Q => ∃ x n, xs = [x] ∧ LenV K x H n ∧ Q (.int n) H
theorem c_lenV {X : Cx} : CallR X (.builtin "len") (rLenV X.K) := call_len
theorem d_len : CallDK rLenV gLen := fun c W σ w x v Q k r h => by
  cases r with
  | nil => exact h.elim
  | cons r1 r2 =>
    cases r2 with
    | cons _ _ => exact h.elim
    | nil =>
      rename_i v d
      have h : ((lenD d).bind fun n => R.ret (PyData.int n)).wp w.fu (PQ c w Q) (EK c W σ w) := h
      have h := wp_b h
      cases d with
      | str z =>
        obtain rfl := r1.isStr
        obtain ⟨h1, h2⟩ := guard_line h
        exact ⟨_, z.length, rfl, ⟨h1, rfl⟩, PQ.here (d := .int _) k h2 (.int _)⟩
      | list ds =>
        obtain ⟨a, xs, rfl, s1, a1⟩ := r1.isLst
        refine ⟨_, xs.length, rfl, .inl ⟨xs, sqL_vis s1, rfl⟩, ?_⟩
        rw [a1.len]
        exact PQ.here (d := .int _) k h (.int _)
      | tuple ds =>
        obtain ⟨a, xs, rfl, s1, a1⟩ := r1.isTup
        refine ⟨_, xs.length, rfl, .inr ⟨xs, sqT_vis s1, rfl⟩, ?_⟩
        rw [a1.len]
        exact PQ.here (d := .int _) k h (.int _)
      | dict kv =>
        obtain ⟨ns, a, e1, rfl, e2, h⟩ := scrGo_wp r1 h
        refine ⟨_, ns.length, rfl, .inl ⟨_, e2, by rw [List.length_map]⟩, ?_⟩
        exact PQ.here (d := .int _) k h (.int _)
      | _ => exact h.elim
def gInt (xs : List D) : R D := match xs with
  | [.int i] => .ret (.int i)
  | [.bool k] => .ret (.int (if k then 1 else 0))
  | _ => .bad
def gAbs (xs : List D) : R D := match xs with
  | [.int i] => .ret (.int (if i < 0 then -i else i))
  | _ => .bad
def gMax (xs : List D) : R D := match xs with
  | [.int i, .int j] => .ret (.int (if j > i then j else i))
  | _ => .bad
def gMin (xs : List D) : R D := match xs with
  | [.int i, .int j] => .ret (.int (if j < i then j else i))
  | _ => .bad
theorem d_max : CallD (fun xs H Q => ∃ i j, xs = [.int i, .int j] ∧ Q (.int (if j > i then j else i)) H) gMax := fun c W σ w x v Q k r h => by
  unfold gMax at h
  split at h
  · cases r with | cons r1 r2 => cases r2 with | cons r2 r3 => cases r3; obtain rfl := r1.isInt; obtain rfl := r2.isInt; exact ⟨_, _, rfl, PQ.here k h (.int _)⟩
  · exact h.elim
theorem d_min : CallD (fun xs H Q => ∃ i j, xs = [.int i, .int j] ∧ Q (.int (if j < i then j else i)) H) gMin := fun c W σ w x v Q k r h => by
  unfold gMin at h
  split at h
  · cases r with | cons r1 r2 => cases r2 with | cons r2 r3 => cases r3; obtain rfl := r1.isInt; obtain rfl := r2.isInt; exact ⟨_, _, rfl, PQ.here k h (.int _)⟩
  · exact h.elim
def blsOf : List D → Option (List Bool)
  | [] => some []
  | .bool i :: r => (blsOf r).map (i :: ·)
  | _ => none
theorem blsOf_map : ∀ {ds : List D} {ns : List Bool}, blsOf ds = some ns → ds = ns.map PyData.bool
  | [], ns, h => by cases h; rfl
  | d :: r, ns, h => by
    cases d with
    | bool i =>
      unfold blsOf at h
      cases e : blsOf r with
      | none => rw [e] at h; cases h
      | some ms =>
        rw [e] at h
        cases h
        rw [blsOf_map e]; rfl
    | _ => cases h
theorem blsOf_of (ns : List Bool) : blsOf (ns.map PyData.bool) = some ns := by
  induction ns with
  | nil => rfl
  | cons n r ih =>
    show (blsOf (r.map PyData.bool)).map (n :: ·) = _
    rw [ih]; rfl
theorem rpBls {K : KM} {dk : List Addr} {G : Hp} : ∀ {ns : List Bool} {vs : List V}, RpAll K dk G vs (ns.map PyData.bool) → vs = ns.map V.bl
  | [], _, h => by cases h; rfl
  | n :: r, _, h => by
    cases h with
    | cons h1 h2 => rw [h1.isBl, rpBls h2]; rfl
def gBls (f : List Bool → Bool) (xs : List D) : R D := match xs with
  | [.list ds] => match blsOf ds with
    | some bs => .ret (.bool (f bs))
    | none => .bad
  | _ => .bad
theorem bls_go {f : List Bool → Bool} {c : Base} {W : WX} {σ : L2.St} {w : Wd} {x : List D} {v : List V} {Q : VK} (k : WOk c w) (r : RpsW c w v x) (h : (gBls f x).wp w.fu (PQ c w Q) (EK c W σ w)) : ∃ (a : Addr) (bs : List Bool), v = [V.ref a] ∧ SqL c.K w.H a (bs.map V.bl) ∧ Q (.bl (f bs)) w.H := by
  unfold gBls at h
  split at h
  · split at h
    · rename_i bs e
      have e := blsOf_map e
      subst e
      cases r with
      | cons r1 r2 =>
        cases r2
        obtain ⟨a, xs, rfl, s1, a1⟩ := r1.isLst
        obtain rfl := rpBls a1
        exact ⟨a, bs, rfl, sqL_vis s1, PQ.here (d := .bool _) k h (.bl _)⟩
    · exact h.elim
  · exact h.elim
def gAll : List D → R D := gBls fun bs => bs.all id
def gAny : List D → R D := gBls fun bs => bs.any id
theorem d_all : CallDK rAll gAll := fun c W σ w x v Q k r h => bls_go k r h
def gSum (xs : List D) : R D := match xs with
  | [.list ds] => match intsOf ds with
    | some ns => .ret (.int ns.sum)
    | none => .bad
  | _ => .bad
/-- tuple(x) -/
def gTuple (xs : List D) : R D := match xs with
  | [.list ds] => .ret (.tuple ds)
  | [.tuple ds] => .ret (.tuple ds)
  | _ => .bad
theorem d_tuple : CallDK rTupOf gTuple := fun c W σ w x v Q k r h => by
  unfold gTuple at h
  split at h
  · cases r with
    | cons r1 r2 =>
      cases r2
      obtain ⟨a, xs, rfl, s1, a1⟩ := r1.isLst
      exact ⟨a, xs, rfl, .inl ⟨sqL_vis s1, new_tup k a1 h⟩⟩
  · cases r with
    | cons r1 r2 =>
      cases r2
      obtain ⟨a, xs, rfl, s1, a1⟩ := r1.isTupN
      exact ⟨a, xs, rfl, .inr ⟨sqT_vis s1.sqT, PQ.here k h (.tup s1 a1)⟩⟩
  · exact h.elim
/-- list(x), a new list -/
def elems (x : D) : R (List D) := match x with
  | .list ds => .ret ds
  | .tuple ds => .ret ds
  | .dict k => scrGo (.dict k) fun ns => .ret (ns.map PyData.int)
  | _ => .bad
def listF (f : Env → R D) : Env → R (List D) := fun env => (f env).bind elems
def rLstOf (K : PySem.W.Frag) : List V → Hp → VK → Prop := fun xs H Q => ∃ p ys, xs = [.ref p] ∧ (SqL K H p ys ∨ SqT K H p ys) ∧ ∀ l, H l = none → Q (.ref l) (upd H l (.lst ys))
theorem c_lstOf {X : Cx} : CallR X (.type "list") (rLstOf X.K) := call_list_of
theorem elems_wp {c : Base} {w : Wd} {v : V} {d : D} {fu : Nat} {Q : Nat → List D → Prop} {E : Nat → Er → Prop} (r : RpW c w v d) (h : (elems d).wp fu Q E) : ∃ a ys ds, v = .ref a ∧ (SqL c.K w.H a ys ∨ SqT c.K w.H a ys) ∧ RpsW c w ys ds ∧ Q fu ds := by
  unfold elems at h
  split at h
  · obtain ⟨a, xs, rfl, s1, a1⟩ := r.isLst
    exact ⟨a, xs, _, rfl, .inl (sqL_vis s1), a1, h⟩
  · obtain ⟨a, xs, rfl, s1, a1⟩ := r.isTup
    exact ⟨a, xs, _, rfl, .inr (sqT_vis s1), a1, h⟩
  · obtain ⟨ns, a, e1, rfl, e2, h⟩ := scrGo_wp r h
    exact ⟨a, _, _, rfl, .inl e2, RpAll.ints ns, h⟩
  · exact h.elim
section
variable {X : Cx} {c : Base} {W : WX} {w w' w1 w2 : Wd} {σ : L2.St} {env : Env} {e a b d : Expr} {fa fb fc : Env → R D} {ft fu : Env → R Bool} {fr fi : Env → R (List D)} {pos p pos2 : Pos} {st : Stmt} {es : List Expr} {rest : List Stmt} {f g : Env → R Out} {x : Str}
/-- a new list, laid here -/
theorem own_new {H : Hp} (a : At c σ H w env) (g1 : Grow c w w1) {vs : List V} {ds : List D} {Q : VK} (r : RpsW c w1 vs ds)
    (h : ∀ p vs w', w'.fu = w1.fu → w'.O = p :: w.O → w.H p = none → w'.H p = some (.lst vs) → WOk c w' → Grow c w { w' with O := w.O } → RpsW c w' vs ds → Q (.ref p) w'.H) : ∀ p, w1.H p = none → Q (.ref p) (upd w1.H p (.lst vs)) := fun p hp => by
  obtain ⟨k1, k2⟩ := Grow.asOwn (vs := vs) g1.ok hp
  exact h p vs { O := p :: w1.O, nk := w1.nk, H := upd w1.H p (.lst vs), fu := w1.fu } rfl (by rw [g1.O]) (g1.free _ hp) upd_same k1 (by
    have g := g1.trans a.ok (Grow.new (o := .lst vs) g1.ok hp)
    have e : ({ O := w.O, nk := w1.nk, H := upd w1.H p (.lst vs), fu := w1.fu } : Wd) = { w1 with H := upd w1.H p (.lst vs) } := by rw [g1.O]
    show Grow c w { O := w.O, nk := w1.nk, H := upd w1.H p (.lst vs), fu := w1.fu }
    rw [e]; exact g) (k2 _ _ r)
theorem dl_list (hK : c.K = X.K) (h : PE X e (tCB (rLstOf X.K) (L2.tCons (liftE c W fa) L2.tNil))) : PE X e (liftL c W (listF fa)) := pe_imp h fun σ H Q ⟨w, env, a, q⟩ => by
  refine ⟨w, env, a, R.wp_mono (wp_b q) (fun fu x hx v w1 e1 g1 r1 => ?_) fun _ _ h => h⟩
  subst e1
  obtain ⟨a', ys, ds, rfl, hs, rs, h⟩ := elems_wp r1 hx
  exact ⟨a', ys, rfl, hK ▸ hs, own_new a g1 rs h⟩
/-- list(range(..)), the ends told -/
def rngD (i j : Int) : List D := (List.range (j - i).toNat).map fun k => .int (i + (k : Nat))
def rngOk (i j : Int) : Bool := decide (-(2 ^ 62) ≤ i ∧ i < 2 ^ 62 ∧ -(2 ^ 62) ≤ j ∧ j < 2 ^ 62)
def rngL (fr : Env → R (List D)) : Env → R (List D) := fun env => (fr env).bind fun ds => match ds with
  | [.int j] => guard' (rngOk 0 j) (.ret (rngD 0 j))
  | [.int i, .int j] => guard' (rngOk i j) (.ret (rngD i j))
  | _ => .bad
def rng1 (fa : Env → R D) : Env → R (List D) := fun env => (fa env).bind fun x => (asI x).bind fun j => guard' (rngOk 0 j && decide (j ≤ 16777216)) (.ret (rngD 0 j))
def rng2 (fa fb : Env → R D) : Env → R (List D) := fun env => (fa env).bind fun x => (fb env).bind fun y => (asI x).bind fun i => (asI y).bind fun j => guard' (rngOk i j && decide (j - i ≤ 16777216)) (.ret (rngD i j))
def tyName : D → String
  | .none => "NoneType" | .bool _ => "bool" | .int _ => "int" | .str _ => "str" | .list _ => "list" | .tuple _ => "tuple" | .dict _ => "dict"
def isiV (T : String) (d : D) : R D := match d with
  | .dict ((.list _, _) :: _) => .bad
  | d => match kitB (tyName d) T with
    | some b => .ret (.bool b)
    | none => .bad
def isiD (T : String) (fa : Env → R D) : Env → R D := fun env => (fa env).bind (isiV T)
theorem Rp.ty {v : V} {d : D} (h : RpW c w v d) (n : ∀ l v r, d ≠ .dict ((.list l, v) :: r)) : TyX c.K w.H v (.type (tyName d)) := by
  cases h with
  | non => exact .base .non
  | bl b => exact .base (.bl b)
  | int i => exact .base (.int i)
  | str x => exact .base (.str x)
  | scr e => exact absurd rfl (n _ _ _)
  | deck e => exact absurd rfl (n _ _ _)
  | exc _ _ => exact absurd rfl (n _ _ _)
  | rng _ => exact absurd rfl (n _ _ _)
  | lst e _ =>
    rcases e with e | ⟨o, its, n, e, c, _⟩
    · exact .base (.lst (vis_sub e))
    · exact .kList e c
  | dct e _ => exact .fDict (vis_sub e)
  | tup hs _ =>
    rcases hs.sqT with (h | ⟨o, h⟩) | ⟨o, its, n, e, c, _⟩
    · exact .base (.tup (vis_sub h))
    · exact .fTuple (vis_sub h)
    · exact .kTuple e c
def rIsi1 (K : PySem.W.Frag) (T : String) : List V → Hp → VK → Prop := fun xs H Q => ∃ (x : V) (t : String) (b : Bool), xs = [x, .ty T] ∧ TyX K H x (.type t) ∧ kitB t T = some b ∧ Q (.bl b) H
theorem c_isi1 {T : String} : CallR X (.builtin "isinstance") (rIsi1 X.K T) := fun pins s σ H xs us Q I r ⟨x, t, b, e, ty, hk, q⟩ => call_isi pins s σ H xs us Q I r ⟨x, .ty T, .type t, .type T, b, e, .ty T, ty, kit_ty hk, q⟩
theorem de_isi {T : String} (hK : c.K = X.K) (h : PE X e (tCB (rIsi1 X.K T) (L2.tCons (liftE c W fa) (L2.tCons (tC (.ty T)) L2.tNil)))) : PE X e (liftE c W (isiD T fa)) := pe_imp h fun σ H Q ⟨w, env, a, q⟩ => step a q fun x v w1 g1 r1 q1 => by
  have hx : (∀ l v r, x ≠ .dict ((.list l, v) :: r)) ∧ ∃ b, kitB (tyName x) T = some b ∧ (R.ret (PyData.bool b)).wp w1.fu (PQ c w1 Q) (EK c W σ w1) := by
    have gen : ∀ (m : D), (match kitB (tyName m) T with | some b => R.ret (PyData.bool b) | none => R.bad).wp w1.fu (PQ c w1 Q) (EK c W σ w1) → ∃ b, kitB (tyName m) T = some b ∧ (R.ret (PyData.bool b)).wp w1.fu (PQ c w1 Q) (EK c W σ w1) := fun m h => by
      split at h
      · rename_i b e; exact ⟨b, e, h⟩
      · exact h.elim
    unfold isiV at q1
    split at q1
    · exact q1.elim
    · rename_i hno
      exact ⟨fun l v r z => hno _ _ _ z, gen _ q1⟩
  obtain ⟨hn, b, hb, q2⟩ := hx
  exact ⟨v, tyName x, b, rfl, hK ▸ Rp.ty r1 hn, hb, PQ.here g1.ok q2 (.bl b)⟩
end
def chars (z : Str) : List D := z.cps.toList.map fun n => .str ⟨#[n]⟩
def iterE (x : D) : R (List D) := match x with
  | .list ds => .ret ds
  | .tuple ds => .ret ds
  | .str z => .ret (chars z)
  | .dict k => scrGo (.dict k) fun ns => .ret (ns.map PyData.int)
  | _ => .bad
def iterF (f : Env → R D) : Env → R (List D) := fun env => (f env).bind iterE
/-- a walk of a list, a tuple or a text -/
def iAny (K : PySem.W.Frag) (te : TE) : TI := fun σ H R => te σ H fun x H1 => (∃ a xs, x = .ref a ∧ SqL K H1 a xs ∧ R (Itl K a) H1) ∨ (∃ a xs, x = .ref a ∧ SqT K H1 a xs ∧ R (Itt K a) H1) ∨ ∃ z, x = .str z ∧ R (Its z) H1
section
variable {X : Cx} {tg e : Expr} {te : TE}
theorem pi_any (he : PE X e te) : PI X tg e (iAny X.K te) := by
  constructor
  intro pins s σ H R' I h
  refine thn (he.run pins s σ H _ I h) fun v s1 hh => ?_
  obtain ⟨y, Hy, Iy, ry, ⟨a, xs, rfl, hq, qy⟩ | ⟨a, xs, rfl, hq, qy⟩ | ⟨z, rfl, qy⟩⟩ := hh
  · cases ry
    obtain ⟨its, _, pl, _⟩ := Iy.list hq
    exact wpAny_pyIter_list pl.isList (pi_one (tk := s1.toks) Iy _ (turn_list a _) ⟨_, Heap.get?_push_size _ rfl, rfl, rfl⟩ qy)
  · cases ry
    obtain ⟨its, _, pl, _⟩ := Iy.tuple hq
    exact wpAny_pyIter_tuple (show s1.heap.IsTuple a its.toArray from pl) (pi_one (tk := s1.toks) Iy _ (turn_tuple a _) ⟨_, Heap.get?_push_size _ rfl, rfl, rfl⟩ qy)
  · obtain ⟨t, rfl⟩ := ry
    cases hz : z.cps.all (· < 128)
    · exact wpAny_pyIter_wide hz (pi_one (tk := s1.toks) Iy _ (turn_str _ z t "str_iterator" (.inr rfl)) ⟨_, Heap.get?_push_size _ rfl, rfl, rfl⟩ qy)
    · exact wpAny_pyIter_ascii hz (pi_one (tk := s1.toks) Iy _ (turn_str _ z t "str_ascii_iterator" (.inl rfl)) ⟨_, Heap.get?_push_size _ rfl, rfl, rfl⟩ qy)
end
section
variable {X : Cx} {c : Base} {W : WX} {w w' w1 w2 : Wd} {σ : L2.St} {env : Env} {tg iter e a b d : Expr} {fa fb fc : Env → R D} {ft fu : Env → R Bool} {fr fi : Env → R (List D)} {pos p pos2 : Pos} {st : Stmt} {es : List Expr} {rest : List Stmt} {f g : Env → R Out} {x : Str} {ds : List D}
theorem pi_imp {e : Expr} {t t' : TI} (h : PI X tg e t) (i : ∀ σ H Q, t' σ H Q → t σ H Q) : PI X tg e t' := ⟨fun pins s σ H Q I q => h.run pins s σ H Q I (i _ _ _ q)⟩
theorem itd_list {a : Addr} {xs : List V} (h : SqLt c.K (c.vis w) a xs) (r : RpsW c w xs ds) : ItD c (Itl c.K a) w ds := by
  refine ⟨fun w' i le k hi => ?_, fun w' i x H2 le k hy d hd => ?_, fun w' i le k hi => ?_⟩
  · obtain ⟨v, e, _⟩ := r.at' (List.getElem?_eq_getElem hi)
    exact ⟨xs, v, sqL_vis (sqLt_mono le.ex h).sqL, e⟩
  · obtain ⟨e1, e2⟩ := hy
    obtain ⟨v, e, rv⟩ := r.at' hd
    have e3 := e2 xs (sqL_vis (sqLt_mono le.ex h).sqL)
    rw [e] at e3
    cases e3
    exact ⟨w', e1.symm, rfl, Grow.refl k, le.rp rv⟩
  · exact ⟨xs, sqL_vis (sqLt_mono le.ex h).sqL, by rw [r.len]; omega⟩
theorem itd_tup {a : Addr} {xs : List V} (h : SqT c.K (c.vis w) a xs) (r : RpsW c w xs ds) : ItD c (Itt c.K a) w ds := by
  refine ⟨fun w' i le k hi => ?_, fun w' i x H2 le k hy d hd => ?_, fun w' i le k hi => ?_⟩
  · obtain ⟨v, e, _⟩ := r.at' (List.getElem?_eq_getElem hi)
    exact ⟨xs, v, sqT_vis (sqT_mono le.ex h), e⟩
  · obtain ⟨e1, e2⟩ := hy
    obtain ⟨v, e, rv⟩ := r.at' hd
    have e3 := e2 xs (sqT_vis (sqT_mono le.ex h))
    rw [e] at e3
    cases e3
    exact ⟨w', e1.symm, rfl, Grow.refl k, le.rp rv⟩
  · exact ⟨xs, sqT_vis (sqT_mono le.ex h), by rw [r.len]; omega⟩
theorem itd_scr {a : Addr} {ns : List Int} (h : SqL c.K (c.vis w) a (ns.map V.int)) : ItD c (Itl c.K a) w (ns.map PyData.int) := by
  refine ⟨fun w' i le k hi => ?_, fun w' i x H2 le k hy d hd => ?_, fun w' i le k hi => ?_⟩
  · rw [List.length_map] at hi
    exact ⟨_, .int ns[i], sqL_vis (sqL_mono le.ex h), by rw [List.getElem?_map, List.getElem?_eq_getElem hi]; rfl⟩
  · obtain ⟨e1, e2⟩ := hy
    have e3 := e2 _ (sqL_vis (sqL_mono le.ex h))
    rw [List.getElem?_map] at e3 hd
    cases e : ns[i]? with
    | none => rw [e] at hd; cases hd
    | some n =>
      rw [e] at hd e3
      cases hd
      cases e3
      exact ⟨w', e1.symm, rfl, Grow.refl k, .int n⟩
  · exact ⟨_, sqL_vis (sqL_mono le.ex h), by rw [List.length_map] at hi ⊢; omega⟩
theorem itd_str {z : Str} : ItD c (Its z) w (chars z) := by
  refine ⟨fun w' i le k hi => ?_, fun w' i x H2 le k hy d hd => ?_, fun w' i le k hi => ?_⟩
  · have : i < (z.cps.toList.map fun n => (PyData.str ⟨#[n]⟩ : D)).length := hi
    rw [List.length_map, Array.length_toList] at this
    exact this
  · obtain ⟨e1, n, e2, rfl⟩ := hy
    have hd : (z.cps.toList.map fun n => (PyData.str ⟨#[n]⟩ : D))[i]? = some d := hd
    rw [List.getElem?_map, Array.getElem?_toList, e2] at hd
    cases hd
    exact ⟨w', e1.symm, rfl, Grow.refl k, .str _⟩
  · have : i = (z.cps.toList.map fun n => (PyData.str ⟨#[n]⟩ : D)).length := hi
    rw [List.length_map, Array.length_toList] at this
    show z.cps.size ≤ i
    omega
theorem itd_range {i j : Int} : ItD c (Itr i (j - i).toNat) w (rngD i j) := by
  have hl : (rngD i j).length = (j - i).toNat := by unfold rngD; rw [List.length_map, List.length_range]
  refine ⟨fun w' m le k hi => by rw [hl] at hi; exact hi, fun w' m x H2 le k hy d hd => ?_, fun w' m le k hi => by rw [hl] at hi; exact Nat.le_of_eq hi.symm⟩
  obtain ⟨e1, rfl⟩ := hy
  unfold rngD at hd
  rw [List.getElem?_map] at hd
  by_cases hm : m < (j - i).toNat
  · rw [List.getElem?_range hm] at hd
    cases hd
    exact ⟨w', e1.symm, rfl, Grow.refl k, .int _⟩
  · rw [List.getElem?_eq_none (by rw [List.length_range]; omega)] at hd; cases hd
theorem di_any (hK : c.K = X.K) (he : PE X e (liftE c W fa)) : PI X tg e (liftI c W (iterF fa)) := pi_imp (pi_any he) fun σ H Q ⟨w, env, a, q⟩ => by
  refine ⟨w, env, a, R.wp_mono (wp_b q) (fun fu x hx v w1 e1 g1 r1 => ?_) fun _ _ h => h⟩
  subst e1
  unfold iterE at hx
  split at hx
  · obtain ⟨a', xs, rfl, s1, a1⟩ := r1.isLst'
    exact .inl ⟨a', xs, rfl, hK ▸ sqL_vis s1.sqL, hK ▸ hx _ w1 rfl g1 (itd_list s1 a1)⟩
  · obtain ⟨a', xs, rfl, s1, a1⟩ := r1.isTup
    exact .inr (.inl ⟨a', xs, rfl, hK ▸ sqT_vis s1, hK ▸ hx _ w1 rfl g1 (itd_tup s1 a1)⟩)
  · obtain rfl := r1.isStr
    exact .inr (.inr ⟨_, rfl, hx _ w1 rfl g1 itd_str⟩)
  · rename_i k
    unfold scrGo at hx
    split at hx
    · rename_i ns e
      have e := scrOf_eq e
      rw [e] at r1
      obtain ⟨a', rfl, s1⟩ := r1.isScr
      exact .inl ⟨a', _, rfl, hK ▸ sqL_vis s1, hK ▸ hx _ w1 rfl g1 (itd_scr s1)⟩
    · exact hx.elim
  · exact hx.elim
def rngI (fr : Env → R (List D)) : Env → R (List D) := fun env => (fr env).bind fun ds => match ds with
  | [.int j] => guard' (rngOk 0 j) (.ret (rngD 0 j))
  | [.int i, .int j] => guard' (rngOk i j) (.ret (rngD i j))
  | _ => .bad
theorem di_rng1 {n : Str} (h : PI X tg e (iRng1 (liftA c W fr))) (hl : ∀ env fu (Q : Nat → List D → Prop) E, (fr env).wp fu Q E → (fr env).wp fu (fun fu ds => Q fu ds ∧ ds.length = 1) E) : PI X tg e (liftI c W (rngI fr)) := pi_imp h fun σ H Q ⟨w, env, a, q⟩ => by
  refine ⟨w, env, a, R.wp_mono (hl _ _ _ _ (wp_b q)) (fun fu ds ⟨hx, hl⟩ v w1 e1 g1 r1 => ?_) fun _ _ h => h⟩
  subst e1
  match ds, hl, r1, hx with
  | [d], _, .cons r1 .nil, hx =>
    cases d with
    | int j =>
      obtain rfl := r1.isInt
      obtain ⟨h1, h2⟩ := wp_guard.mp hx
      obtain ⟨b1, b2, b3, b4⟩ := of_decide_eq_true h1
      refine ⟨j, rfl, b3, b4, ?_⟩
      have := h2 _ w1 rfl g1 (itd_range (i := 0) (j := j))
      simpa using this
    | _ => exact hx.elim
theorem di_rng2 {n : Str} (h : PI X tg e (iRng2 (liftA c W fr))) (hl : ∀ env fu (Q : Nat → List D → Prop) E, (fr env).wp fu Q E → (fr env).wp fu (fun fu ds => Q fu ds ∧ ds.length = 2) E) : PI X tg e (liftI c W (rngI fr)) := pi_imp h fun σ H Q ⟨w, env, a, q⟩ => by
  refine ⟨w, env, a, R.wp_mono (hl _ _ _ _ (wp_b q)) (fun fu ds ⟨hx, hl⟩ v w1 e1 g1 r1 => ?_) fun _ _ h => h⟩
  subst e1
  match ds, hl, r1, hx with
  | [d, d'], _, .cons r1 (.cons r2 .nil), hx =>
    cases d with
    | int i =>
      cases d' with
      | int j =>
        obtain rfl := r1.isInt
        obtain rfl := r2.isInt
        obtain ⟨h1, h2⟩ := wp_guard.mp hx
        obtain ⟨b1, b2, b3, b4⟩ := of_decide_eq_true h1
        exact ⟨i, j, rfl, ⟨b1, b2, b3, b4⟩, h2 _ w1 rfl g1 (itd_range (i := i) (j := j))⟩
      | _ => exact hx.elim
    | _ => exact hx.elim
theorem len_cons {fr : Env → R (List D)} {n : Nat} (hl : ∀ env fu (Q : Nat → List D → Prop) E, (fr env).wp fu Q E → (fr env).wp fu (fun fu ds => Q fu ds ∧ ds.length = n) E) : ∀ env fu (Q : Nat → List D → Prop) E, (consA fa fr env).wp fu Q E → (consA fa fr env).wp fu (fun fu ds => Q fu ds ∧ ds.length = n + 1) E := fun env fu Q E h => by
  refine (R.wp_bind _ _ _ _ _).mpr (R.wp_mono (wp_b h) (fun fu x hx => ?_) fun _ _ h => h)
  refine (R.wp_bind _ _ _ _ _).mpr (R.wp_mono (hl _ _ _ _ (wp_b hx)) (fun fu r ⟨h1, h2⟩ => ⟨h1, ?_⟩) fun _ _ h => h)
  show r.length + 1 = _; rw [h2]
theorem len_nil : ∀ env fu (Q : Nat → List D → Prop) E, (nilA env).wp fu Q E → (nilA env).wp fu (fun fu ds => Q fu ds ∧ ds.length = 0) E := fun env fu Q E h => ⟨h, rfl⟩

def appS (i : Nat) (fa : Env → R D) : Env → R Out := fun env => match env[i]? with
  | some (some (.own es)) => exS fa (fun d env => guard' (decide (es.length < 16777216)) (.ret (.nx (env.set i (some (.own (es ++ [d]))))))) env
  | _ => .bad
theorem own_here (a : At c σ w.H w env) {i : Nat} {es : List D} (h : env[i]? = some (some (.own es))) : ∃ p vs, σ[i]? = some (some (.ref p)) ∧ p ∈ w.O ∧ w.H p = some (.lst vs) ∧ RpsW c w vs es := a.env.own i es h
theorem own_mut (a : At c σ w.H w env) {i : Nat} {es es' : List D} {p : Addr} {vs vs' : List V} (h : env[i]? = some (some (.own es))) (h1 : σ[i]? = some (some (.ref p))) (h2 : p ∈ w.O) (r : RpsW c w vs' es') {Dn : Ends}
    (q : SK c W Dn w w.fu (.nx (env.set i (some (.own es'))))) : Dn.nx σ (upd w.H p (.lst vs')) := by
  have k := a.ok.mut (o := .lst vs') h2
  have ev := vis_mut (c := c) (o := .lst vs') h2
  have le : LE c w { w with H := upd w.H p (.lst vs') } := ⟨fun x o e => by rw [ev]; exact e, fun _ h => h, Nat.le_refl _⟩
  have E : EnvOk c { w with H := upd w.H p (.lst vs') } σ (env.set i (some (.own es'))) := by
    refine ⟨by rw [List.length_set]; exact a.env.len, fun j d hj => ?_, fun j ds hj => ?_, fun j kvs hj => ?_, fun j j' q' x1 x2 n e1 e2 b1 b2 e3 e4 => ?_⟩
    · rcases set_get hj with ⟨_, z⟩ | ⟨_, z⟩
      · cases z
      · obtain ⟨v, e1, e2⟩ := a.env.val j d z
        exact ⟨v, e1, le.rp e2⟩
    · rcases set_get hj with ⟨hji, z⟩ | ⟨hji, z⟩
      · cases z
        subst hji
        exact ⟨p, vs', h1, h2, upd_same, le.rpAll r⟩
      · obtain ⟨p', us, e1, e2, e3, e4⟩ := a.env.own j ds z
        refine ⟨p', us, e1, e2, ?_, le.rpAll e4⟩
        show upd w.H p _ p' = _
        rw [upd_ne (fun z' => a.env.sep j i p _ _ hji z h rfl rfl (by rw [← z']; exact e1) h1)]; exact e3
    · rcases set_get hj with ⟨_, z⟩ | ⟨hji, z⟩
      · cases z
      · obtain ⟨p', e1, e2, e3⟩ := a.env.dic j kvs z
        refine ⟨p', e1, e2, e3.le le ?_⟩
        show upd w.H p _ p' = _
        exact upd_ne (fun z' => a.env.sep j i p _ _ hji z h rfl rfl (by rw [← z']; exact e1) h1)
    · have old : ∀ {m : Nat} {x : DV}, (env.set i (some (.own es')))[m]? = some (some x) → x.held = true → ∃ u', env[m]? = some (some u') ∧ u'.held = true := fun {m x} e hx => by
        rcases set_get e with ⟨hm, _⟩ | ⟨_, z⟩
        · subst hm; exact ⟨_, h, rfl⟩
        · exact ⟨x, z, hx⟩
      obtain ⟨u1, o1, c1⟩ := old e1 b1
      obtain ⟨u2, o2, c2⟩ := old e2 b2
      exact a.env.sep j j' q' u1 u2 n o1 o2 c1 c2 e3 e4
  exact q σ { w with H := upd w.H p (.lst vs') } rfl k E le
theorem ds_app {i : Nat} (h : PS X st (tDrop (tBM X.K "list" rAppend (tVar i) (L2.tCons (liftE c W fa) L2.tNil)))) : PS X st (liftS c W (appS i fa)) := ps_imp h fun Dn σ H ⟨w, env, a, q⟩ => by
  obtain ⟨rfl⟩ := a.h
  unfold appS at q
  split at q
  · rename_i es he
    obtain ⟨p, vs, h1, h2, h3, h4⟩ := own_here a he
    refine ⟨.ref p, h1, .inl ⟨rfl, vs, .inl (.inl h3)⟩, ?_⟩
    refine stS a q fun x v w1 g1 a1 r1 q1 => ?_
    obtain ⟨hl, q2⟩ := wp_guard.mp q1
    have h3' := g1.keep _ _ h3 (own_notdk a.ok h2)
    have h4' := (g1.le a.ok).rpAll h4
    refine ⟨p, vs, v, rfl, rfl, h3', ?_, ?_⟩
    · rw [h4.len, sizeLine_eq]; exact of_decide_eq_true hl
    · exact own_mut (vs := vs) a1 he h1 (by rw [g1.O]; exact h2) (h4'.app (.cons r1 .nil)) q2
  · exact q.elim
/-- x[k] = e -/
def putS (i : Nat) (fe fk : Env → R D) : Env → R Out := exS fe fun d env => match env[i]? with
  | some (some (.own es)) => exS fk (fun k env => (match k with
    | .int j => match ixN es.length j with
      | some m => .ret (.nx (env.set i (some (.own (es.set m d)))))
      | none => .bad
    | _ => .bad)) env
  | _ => .bad
/-- x[k], x[a:b], len(x) of one's own or any -/
def ownIx (i : Nat) (fk : Env → R D) : Env → R D := fun env => match env[i]? with
  | some (some (.own es)) => (fk env).bind fun k => match k with
    | .int j => ixL es j
    | _ => .bad
  | some (some (.val d)) => (fk env).bind fun k => gIx d k
  | _ => .bad
def ownSl (i : Nat) (fl fh : Env → R (Option Int)) : Env → R D := fun env => match env[i]? with
  | some (some (.own es)) => (fl env).bind fun l => (fh env).bind fun h => .ret (.list (cutD es l h))
  | some (some (.val d)) => (fl env).bind fun l => (fh env).bind fun h => gSl d l h
  | _ => .bad
theorem de_ownSl {i : Nat} {fl fh : Env → R (Option Int)} (hK : c.K = X.K) (h : PE X e (tSl (rSlAll X.K) (tVar i) (liftO c W fl) (liftO c W fh))) : PE X e (liftE c W (ownSl i fl fh)) := pe_imp h fun σ H Q ⟨w, env, a, q⟩ => by
  obtain ⟨rfl⟩ := a.h
  unfold ownSl at q
  split at q
  · rename_i es he
    obtain ⟨p, vs, h1, h2, h3, h4⟩ := own_here a he
    refine ⟨.ref p, h1, w, env, a, R.wp_mono (wp_b q) (fun fu l hl w2 e1 g2 => ?_) fun _ _ h => h⟩
    subst e1
    refine ⟨w2, env, a.grow g2, R.wp_mono (wp_b hl) (fun fu u hu w3 e1 g3 => ?_) fun _ _ h => h.grow a.ok g2⟩
    subst e1
    have g13 := g2.trans a.ok g3
    have k3 := g13.keep _ _ h3 (own_notdk a.ok h2)
    exact .inl ⟨p, vs, rfl, .inl (.inl k3), new_lst g3.ok (cutV_rp ((g13.le a.ok).rpAll h4)) (PQ.grow a.ok g13 hu)⟩
  · rename_i d hd
    obtain ⟨v, h1, h2⟩ := a.env.val _ _ hd
    refine ⟨v, h1, w, env, a, R.wp_mono (wp_b q) (fun fu l hl w2 e1 g2 => ?_) fun _ _ h => h⟩
    subst e1
    refine ⟨w2, env, a.grow g2, R.wp_mono (wp_b hl) (fun fu u hu w3 e1 g3 => ?_) fun _ _ h => h.grow a.ok g2⟩
    subst e1
    have g13 := g2.trans a.ok g3
    exact hK ▸ d_sl c W σ w3 d v l u Q g3.ok ((g13.le a.ok).rp h2) (R.wp_mono hu (fun _ _ h => h.grow a.ok g13) fun _ _ h => h.grow a.ok g13)
  · exact q.elim
def ownLen (i : Nat) : Env → R D := fun env => match env[i]? with
  | some (some (.own es)) => .ret (.int es.length)
  | some (some (.val d)) => gLen [d]
  | _ => .bad
theorem de_ownLen {i : Nat} (hK : c.K = X.K) (h : PE X e (tCB (rLenV X.K) (L2.tCons (tVar i) L2.tNil))) : PE X e (liftE c W (ownLen i)) := pe_imp h fun σ H Q ⟨w, env, a, q⟩ => by
  obtain ⟨rfl⟩ := a.h
  unfold ownLen at q
  split at q
  · rename_i es he
    obtain ⟨p, vs, h1, h2, h3, h4⟩ := own_here a he
    refine ⟨.ref p, h1, .ref p, vs.length, rfl, .inl ⟨vs, .inl (.inl h3), rfl⟩, ?_⟩
    rw [h4.len]
    exact PQ.here (d := .int _) a.ok q (.int _)
  · rename_i d hd
    obtain ⟨v, h1, h2⟩ := a.env.val _ _ hd
    exact ⟨v, h1, hK ▸ d_len c W σ w [d] [v] Q a.ok (.cons h2 .nil) q⟩
  · exact q.elim
/-- code that is never come to -/
def badS : Env → R Out := fun _ => .bad
/-- a, b = x, y -/
def parS (i j : Nat) (fr : Env → R (List D)) : Env → R Out := exS fr fun ds env => match ds with
  | [x, y] => .ret (.nx ((env.set i (some (.val x))).set j (some (.val y))))
  | _ => .bad
/-- x += e -/
def augS (i : Nat) (g : D → D → R D) (fa : Env → R D) : Env → R Out := fun env => match env[i]? with
  | some (some (.val x)) => exS fa (fun y env => (g x y).both (fun z => .ret (.nx (env.set i (some (.val z))))) (fun er => .ret (.ex env er))) env
  | _ => .bad
def raiseS (n : Str) (fa : Env → R D) : Env → R Out := exS fa fun _ env => .ret (.ex env ⟨n, []⟩)
theorem ds_raise {n : Str} {C : Addr} (hm : c.mg n = some (.ref C)) (h : PS X st (fun _ σ H => liftE c W fa σ H fun _ H1 => W (.ref C) none σ H1)) : PS X st (liftS c W (raiseS n fa)) := ps_imp h fun Dn σ H ⟨w, env, a, q⟩ => by
  refine stS a q fun x v w1 g1 a1 r1 q1 => ?_
  have q2 : SK c W Dn w1 w1.fu (.ex env ⟨n, []⟩) := q1
  exact q2 (.ref C) none σ w1 rfl a1.ok a1.env (LE.refl c w1) ⟨hm, fun _ => rfl, fun _ _ z => by cases z⟩
def startE (n : Nat) (ds : List D) : Env := ds.map (fun d => some (.val d)) ++ List.replicate (n - ds.length) none
def outD (o : Out) : R D := match o with
  | .nx _ => .ret .none
  | .rt d => .ret d
  | .rl ds => .ret (.list ds)
  | .ex _ er => .err er
  | _ => .bad
def outL (o : Out) : R (List D) := match o with
  | .rl ds => .ret ds
  | .ex _ er => .err er
  | _ => .bad
/-- the same of a def that gives back a new list -/
def defL (n : Nat) (fb : Env → R Out) : List D → R (List D) := fun ds => (fb (startE n ds)).both outL fun _ => .bad
def defF (n : Nat) (fb : Env → R Out) : List D → R D := fun ds => (fb (startE n ds)).both outD fun _ => .bad
theorem start_ok {vs : List V} {n : Nat} {N : List Str} (hN : N.length = n) (r : RpsW c w vs ds) : EnvOk c w (L2.start N vs) (startE n ds) := by
  have hl := r.len
  refine ⟨?_, fun i d h => ?_, fun i es h => ?_, fun i kvs h => ?_, fun i j p x y n' h1 h2 b1 b2 h3 h4 => ?_⟩
  · unfold L2.start startE
    rw [List.length_append, List.length_append, List.length_map, List.length_map, List.length_replicate, List.length_replicate, hl, hN]
  · unfold startE at h
    unfold L2.start
    by_cases hi : i < ds.length
    · rw [List.getElem?_append_left (by rw [List.length_map]; exact hi), List.getElem?_map, List.getElem?_eq_getElem hi] at h
      cases h
      obtain ⟨v, e, rv⟩ := r.at' (List.getElem?_eq_getElem hi)
      refine ⟨v, ?_, rv⟩
      rw [List.getElem?_append_left (by rw [List.length_map, hl]; exact hi), List.getElem?_map, e]; rfl
    · rw [List.getElem?_append_right (by rw [List.length_map]; omega), List.getElem?_replicate] at h
      split at h <;> cases h
  · unfold startE at h
    by_cases hi : i < ds.length
    · rw [List.getElem?_append_left (by rw [List.length_map]; exact hi), List.getElem?_map, List.getElem?_eq_getElem hi] at h
      cases h
    · rw [List.getElem?_append_right (by rw [List.length_map]; omega), List.getElem?_replicate] at h
      split at h <;> cases h
  · unfold startE at h
    by_cases hi : i < ds.length
    · rw [List.getElem?_append_left (by rw [List.length_map]; exact hi), List.getElem?_map, List.getElem?_eq_getElem hi] at h
      cases h
    · rw [List.getElem?_append_right (by rw [List.length_map]; omega), List.getElem?_replicate] at h
      split at h <;> cases h
  · unfold startE at h1
    by_cases hi : i < ds.length
    · rw [List.getElem?_append_left (by rw [List.length_map]; exact hi), List.getElem?_map, List.getElem?_eq_getElem hi] at h1
      cases h1 <;> cases b1
    · rw [List.getElem?_append_right (by rw [List.length_map]; omega), List.getElem?_replicate] at h1
      split at h1 <;> cases h1
end
section
variable {P : Program} {w : World} {K : PySem.W.Frag} {mg : Str → Option Value} {base : Heap} {DP : Nat → Hp → List V → Prop}
theorem fn_D {x qual : Str} {st : Stmt} {f : Addr} {fd : FuncData} {N ps : List Str} {k n m : Nat} {fb : Env → R Out} (F : Fun K x qual st f fd) (S : FnScope N ps (defScope st)) (hn : N.length = n) (hm : ps.length = m)
    (hb : ∀ (cdv : Value) (A : Around) (outer : List PySem.Env) (s : Shared) (H : Hp) (E : XK) (S' dk : List Addr), Room k (A.deeper (envOfC qual (defScope st) s.heap.objs.size f cdv)) → A.guards = some [] →
      PSs (cxOf (L2.CX P w) P w K mg base N qual (defScope st) f cdv A outer s H E) (defBody st) (liftS ⟨w, K, mg, DP, S', dk, H⟩ (fun cls d _ H => E cls d H) fb)) :
    FnG P w K mg base (L2.CX P w) (k + 1) f fd ps (SpD w K mg DP m (defF n fb)) := by
  refine Fun.okG F S (fun vs H Q E h => h.1.trans hm.symm) fun cdv A outer s H vs Q E hr hgu ⟨hl, S', dk, ds, fu, k0, r, q⟩ => ⟨_, hb cdv A outer s H E S' dk hr hgu, ?_⟩
  refine ⟨⟨[], [], H, fu⟩, startE n ds, ⟨rfl, k0, start_ok hn r⟩, R.wp_mono (wp_bo q) (fun fu1 o h => ?_) fun _ er h => h⟩
  cases o with
  | nx e =>
    have h' : ∀ v w', w'.fu = fu1 → w'.fu ≤ fu → WOk ⟨w, K, mg, DP, S', dk, H⟩ w' → RpW ⟨w, K, mg, DP, S', dk, H⟩ w' v PyData.none → Q v w'.H := h
    exact fun σ' w' ef k' _ l => h' .non w' ef l.fu k' .non
  | rt d => exact fun v w' ef lf k' r' => (show ∀ v w', w'.fu = fu1 → w'.fu ≤ fu → WOk ⟨w, K, mg, DP, S', dk, H⟩ w' → RpW ⟨w, K, mg, DP, S', dk, H⟩ w' v d → Q v w'.H from h) v w' ef lf k' r'
  | rl l => exact fun p vs w' ef lf k' hp he r' => (show ∀ v w', w'.fu = fu1 → w'.fu ≤ fu → WOk ⟨w, K, mg, DP, S', dk, H⟩ w' → RpW ⟨w, K, mg, DP, S', dk, H⟩ w' v (.list l) → Q v w'.H from h) (.ref p) { w' with O := w'.O.filter fun x => decide (x ≠ p) } ef lf (k'.sub fun x hx => (List.mem_filter.mp hx).1) (own_free k' hp he r')
  | bk e => exact h.elim
  | ct e => exact h.elim
  | ex e er => exact fun cls dd σ' w' ef k' _ l er' => (show ∀ cls dd w', w'.fu = fu1 → w'.fu ≤ fu → WOk ⟨w, K, mg, DP, S', dk, H⟩ w' → ErOk ⟨w, K, mg, DP, S', dk, H⟩ w' cls dd er → E cls dd w'.H from h) cls dd w' ef l.fu k' er'
end
def gAddI (x y : D) : R D := match x, y with
  | .int i, .int j => .ret (.int (i + j))
  | _, _ => .bad
def gSubI (x y : D) : R D := match x, y with
  | .int i, .int j => .ret (.int (i - j))
  | _, _ => .bad
/-- the parameters' order: the k-th positional value (true) or the k-th keyword's -/
def gP0 {α : Type} (perm : List (Bool × Nat)) (us ws : List α) : List α := perm.filterMap fun p => if p.1 = true then us[p.2]? else ws[p.2]?
theorem gP0_vals {vs zs : List V} {us ws : List Value} (r : Vals vs us) (rz : Vals zs ws) : ∀ perm, Vals (gP0 perm vs zs) (gP0 perm us ws)
  | [] => .nil
  | (b, k) :: r' => by
    have ih := gP0_vals r rz r'
    unfold gP0 at ih ⊢
    rw [List.filterMap_cons, List.filterMap_cons]
    cases b with
    | true =>
      rw [if_pos rfl, if_pos rfl]
      cases e : vs[k]? with
      | none => rw [r.none_of e]; exact ih
      | some v =>
        obtain ⟨u, e2, r2⟩ := r.get e
        rw [e2]; exact .cons r2 ih
    | false =>
      rw [if_neg (show ¬ (false = true) by decide), if_neg (show ¬ (false = true) by decide)]
      cases e : zs[k]? with
      | none => rw [rz.none_of e]; exact ih
      | some v =>
        obtain ⟨u, e2, r2⟩ := rz.get e
        rw [e2]; exact .cons r2 ih
theorem gP0_rps {K : KM} {dk : List Addr} {G : Hp} {vs zs : List V} {us ws : List D} (r : RpAll K dk G vs us) (rz : RpAll K dk G zs ws) : ∀ perm, RpAll K dk G (gP0 perm vs zs) (gP0 perm us ws)
  | [] => .nil
  | (b, k) :: r' => by
    have ih := gP0_rps r rz r'
    have nn : ∀ {vs : List V} {us : List D}, RpAll K dk G vs us → vs[k]? = none → us[k]? = none := fun h e => by
      rw [List.getElem?_eq_none_iff] at e ⊢
      rw [← h.len]; exact e
    unfold gP0 at ih ⊢
    rw [List.filterMap_cons, List.filterMap_cons]
    cases b with
    | true =>
      rw [if_pos rfl, if_pos rfl]
      cases e : vs[k]? with
      | none => rw [nn r e]; exact ih
      | some v =>
        obtain ⟨u, e2, r2⟩ := r.at e
        rw [e2]; exact .cons r2 ih
    | false =>
      rw [if_neg (show ¬ (false = true) by decide), if_neg (show ¬ (false = true) by decide)]
      cases e : zs[k]? with
      | none => rw [nn rz e]; exact ih
      | some v =>
        obtain ⟨u, e2, r2⟩ := rz.at e
        rw [e2]; exact .cons r2 ih
def gPn (perm : List (Bool × Nat)) (b : Bool) : Nat := (perm.filter fun p => p.1 == b).length
def gP {α : Type} (perm : List (Bool × Nat)) (us ws : List α) : List α := if us.length = gPn perm true ∧ ws.length = gPn perm false then gP0 perm us ws else []
theorem gP_vals {vs zs : List V} {us ws : List Value} (r : Vals vs us) (rz : Vals zs ws) (perm) : Vals (gP perm vs zs) (gP perm us ws) := by
  unfold gP
  rw [r.length, rz.length]
  split
  · exact gP0_vals r rz perm
  · exact .nil
theorem gP_rps {K : KM} {dk : List Addr} {G : Hp} {vs zs : List V} {us ws : List D} (r : RpAll K dk G vs us) (rz : RpAll K dk G zs ws) (perm) : RpAll K dk G (gP perm vs zs) (gP perm us ws) := by
  unfold gP
  rw [r.len, rz.len]
  split
  · exact gP0_rps r rz perm
  · exact .nil
section
variable {X : Cx} {c : Base} {W : WX} {k n : Nat} {f : Addr} {fd : FuncData} {ps ks : List Str} {F : List D → R D} {x : Str} {p pos kpos : Pos} {e : Expr} {es : List Expr} {kws : List Keyword} {fa : Env → R D} {fr fk : Env → R (List D)} {nm : Option Str} {t tk' : TA} {sp : Sp}
theorem pk_imp {kws : List Keyword} {t t' : TA} (h : PK X kws t) (i : ∀ σ H Q, t' σ H Q → t σ H Q) : PK X kws t' := ⟨fun pos pins s σ H Q I q => h.run pos pins s σ H Q I (i _ _ _ q)⟩
theorem dk_nil : PK X [] (liftA c W nilA) := pk_imp pk_nil fun σ H Q ⟨w, env, a, q⟩ => by
  show Q [] H
  rw [← a.h]
  exact q [] w rfl (Grow.refl a.ok) .nil
theorem dk_cons (ha : PE X e (liftE c W fa)) (hr : PK X kws (liftA c W fr)) : PK X (⟨nm, e, kpos⟩ :: kws) (liftA c W (consA fa fr)) :=
  pk_imp (pk_cons ha hr) fun σ H Q ⟨w, env, a, q⟩ => stepEA a q fun x v w1 g1 r1 q1 => stepAA (a.grow g1) q1 fun xs vs w2 g2 r2 q2 => q2 _ w2 rfl (Grow.refl g2.ok) (.cons ((g2.le g1.ok).rp r1) r2)
def tCallKS (sp : Sp) (gV : List V → List V → List V) (E : L2.St → XK) (t tk : TA) : TE := fun σ H Q => t σ H fun vs H1 => tk σ H1 fun zs H2 => sp (gV vs zs) H2 Q (E σ)
variable {g : List Value → List Value → List Value} {gV : List V → List V → List V} {E : L2.St → XK} {CX : CXT}
theorem run_kwS {pins : List (Addr × Obj)} {σ : L2.St} {H : Hp} {s : Shared} {Q : VK} {us ws : List Value} {vs zs : List V} (FO : FnG X.prog X.w X.K X.mg X.base CX k f fd ps sp) (hr : Room k X.A) (hgu : X.A.guards = some []) (hb : KBinds X.K fd ps ks g gV) (hx : PassesAt CX X σ (E σ))
    (I : Inv X pins σ H s) (r : Vals vs us) (rz : Vals zs ws) (h : sp (gV vs zs) H Q (E σ)) : wpAny (model X.prog X.w) X.A (call (.ref f) us (ks.zip ws)) (EP X pins σ Q) X.xe s := by
  have rr := hb.rel r rz
  have hlen : (g us ws).length = ps.length := rr.length.symm.trans (FO.len _ _ _ _ h)
  refine wpAny_call (codeAny_mono (FO.run X.A X.stack s H ⟨us, ks.zip ws⟩ (g us ws) (gV vs zs) Q (E σ) hr hgu I.env0 (hb.to s us ws I.kIn hlen) rr h) fun res s' hq => ?_)
  match res, hq with
  | .error e, hq => exact hx pins H s e s' I hq
  | .ok (.ret u), hq => exact I.after hq
  | .ok .next, hq => exact False.elim hq
  | .ok .brk, hq => exact False.elim hq
  | .ok .cont, hq => exact False.elim hq
theorem pe_kwS0 (FO : FnG X.prog X.w X.K X.mg X.base CX k f fd ps sp) (hr : Room k X.A) (hgu : X.A.guards = some []) (hg : Gl X x) (hm : X.mg x = some (.ref f)) (hk : PySem.W.keepIn X.K (.ref f) = true) (hb : KBinds X.K fd ps ks g gV) (hx : ∀ σ, PassesAt CX X σ (E σ))
    (hkw : PK X kws tk') (hall : (backToKw pos (keywordEach kws X.env)).all (·.1.isSome) = true := by rfl) (hks : (backToKw pos (keywordEach kws X.env)).filterMap (·.1) = ks := by rfl)
    (hdb : (x == ("__debug__" : Str)) = false := by decide)
    (hpl : ((backTo pos (starEach [] X.env)).any (·.1) || (backToKw pos (keywordEach kws X.env)).any (·.1.isNone)) = false := by rfl) :
    PE X (.Call (.Name x p) [] kws pos) (tCallKS sp gV E L2.tNil tk') := by
  constructor
  intro pins s σ H Q I h
  refine wpAny_Call_Name_kw (ld_glob I hg hm (PySem.W.callWith_KW0 (h₀ := X.base) I.ok.mod.kin hk hall (thn (hkw.run pos pins s σ H _ I h) fun ws s2 ⟨zs, H2, I2, rz, q2⟩ => ⟨I2.kIn, ?_⟩) hpl) hdb)
  rw [hks]
  exact run_kwS FO hr hgu hb (hx σ) I2 .nil rz q2
def callK (n : Nat) (F : List D → R D) (perm : List (Bool × Nat)) (fr fk : Env → R (List D)) : Env → R D := fun env => (fr env).bind fun ds => (fk env).bind fun es => guard' (decide ((gP perm ds es).length = n)) (F (gP perm ds es))
theorem tCallKS_nil {perm : List (Bool × Nat)} : ∀ σ H Q, liftE c W (callK n F perm nilA fk) σ H Q → tCallKS (SpD c.wl c.K c.mg c.DP n F) (gP perm) (WE W) L2.tNil (liftA c W fk) σ H Q := fun σ H Q ⟨w, env, a, q⟩ => by
  obtain ⟨rfl⟩ := a.h
  show liftA c W fk σ w.H fun zs H2 => SpD c.wl c.K c.mg c.DP n F (gP perm [] zs) H2 Q (WE W σ)
  refine stepAE a (show ((fk env).bind _).wp _ _ _ from q) fun ys zs w2 g2 r2 q2 => ?_
  obtain ⟨h1, h2⟩ := wp_guard.mp q2
  exact spD_of (K := c.K) g2.ok (gP_rps .nil r2 perm) (of_decide_eq_true h1) h2
theorem de_callK0 {perm : List (Bool × Nat)} (FO : FnG X.prog X.w X.K X.mg X.base (L2.CX X.prog X.w) k f fd ps (SpD c.wl c.K c.mg c.DP n F)) (hr : Room k X.A) (hgu : X.A.guards = some []) (hg : Gl X x) (hm : X.mg x = some (.ref f)) (hk : PySem.W.keepIn X.K (.ref f) = true) (hb : KBinds X.K fd ps ks (gP perm) (gP perm)) (tk : Takes X W)
    (hkw : PK X kws (liftA c W fk)) (hall : (backToKw pos (keywordEach kws X.env)).all (·.1.isSome) = true := by rfl) (hks : (backToKw pos (keywordEach kws X.env)).filterMap (·.1) = ks := by rfl)
    (hdb : (x == ("__debug__" : Str)) = false := by decide)
    (hpl : ((backTo pos (starEach [] X.env)).any (·.1) || (backToKw pos (keywordEach kws X.env)).any (·.1.isNone)) = false := by rfl) :
    PE X (.Call (.Name x p) [] kws pos) (liftE c W (callK n F perm nilA fk)) :=
  pe_imp (pe_kwS0 (E := WE W) FO hr hgu hg hm hk hb (fun σ => passAt tk σ) hkw hall hks hdb hpl) tCallKS_nil
end
theorem kb_mk {K : PySem.W.Frag} (fd : FuncData) {ps ks : List Str} (perm : List (Bool × Nat)) (to : ∀ (s : Shared) (us ws : List Value), (gP perm us ws).length = ps.length → BindsTo s fd ⟨us, ks.zip ws⟩ (ps.zip (gP perm us ws))) : KBinds K fd ps ks (gP perm) (gP perm) :=
  ⟨fun s us ws _ hl => to s us ws hl, fun r rz => gP_vals r rz perm⟩
def rSortU (K : PySem.W.Frag) : List V → Hp → VK → Prop := fun vs H Q => ∃ (a : Addr) (xs : List V) (ds : List D), vs = [V.ref a] ∧ SqL K H a xs ∧ DpAll K H xs ds ∧ PyData.canLayAll0 ds = true ∧ PySem.W.AllAlike ds ∧ PySem.W.Sortable ds ∧ ds.length ≤ sizeLine ∧ (∀ d ∈ ds, d.depth ≤ 60) ∧
  ∀ ys p, PySem.W.EachIs (fun v d => (v, d) ∈ xs.zip ds) ys (ds.mergeSort (PySem.W.dataLe false id)) → H p = none → Q (.ref p) (upd H p (.lst ys))
def allAlikeB (ds : List D) : Bool := ds.all fun d => ds.all fun d' => PySem.W.alike d d'
def sortableB (ds : List D) : Bool := (ds.all fun d => match d with | .tuple (_ :: _) => true | _ => false) || (ds.all fun d => match d with | .none => false | .tuple _ => false | _ => true)
def sortOk (ds : List D) : Bool := PyData.canLayAll0 ds && (allAlikeB ds && (sortableB ds && (decide (ds.length ≤ 16777216) && ds.all fun d => decide (d.depth ≤ 60))))
def sortD (ds : List D) : List D := ds.mergeSort (PySem.W.dataLe false id)
def sortF (f : Env → R D) : Env → R (List D) := fun env => (f env).bind fun x => match x with
  | .list ds => guard' (sortOk ds) (.ret (sortD ds))
  | _ => .bad
section
variable {X : Cx} {c : Base} {W : WX} {w w' w1 w2 : Wd} {σ : L2.St} {env : Env} {e a b d : Expr} {fa fb fc : Env → R D}
end
def gCount (x : D) (ys : List D) : R D := match x, ys with
  | .str a, [.str b] => .ret (.int (Txt.count a b))
  | _, _ => .bad
def strsOf : List D → Option (List Str)
  | [] => some []
  | .str i :: r => (strsOf r).map (i :: ·)
  | _ => none
def gJoin (x : D) (ys : List D) : R D := match x, ys with
  | .str a, [.list ds] => match strsOf ds with
    | some zs => guard' (decide ((zs.map (·.length)).sum + zs.length * a.length ≤ 16777216)) (.ret (.str (Txt.join a zs)))
    | none => .bad
  | _, _ => .bad
def rJoinU (K : PySem.W.Frag) : V → List V → Hp → VK → Prop := fun x xs H Q => ∃ a p, ∃ ys : List Str, x = .str a ∧ xs = [.ref p] ∧ (SqL K H p (ys.map V.str) ∨ SqT K H p (ys.map V.str)) ∧ (ys.map (·.length)).sum + ys.length * a.length ≤ 16777216 ∧ Q (.str (Txt.join a ys)) H
def toV : D → V
  | .bool b => .bl b | .int i => .int i | .str x => .str x | _ => .non
def inB (neg b : Bool) : Bool := if neg then !b else b
def gInN (neg : Bool) (x y : D) : R D := match y with
  | .list ds => guard' (SeqAt.shaped x && SeqAt.shaped (.list ds)) (.ret (.bool (inB neg (ds.any fun z => PyData.eqv z x))))
  | .tuple ds => if (scalD x && ds.all scalD) = true then .ret (.bool (if neg then !inV (toV x) (ds.map toV) else inV (toV x) (ds.map toV)))
    else guard' (SeqAt.shaped x && SeqAt.shaped (.tuple ds)) (.ret (.bool (inB neg (ds.any fun z => PyData.eqv z x))))
  | .str z => match x with
    | .str t => guard' (decide (t.cps.size = 1)) (.ret (.bool (inB neg (decide (t.cps.toList.headD 0 ∈ z.cps.toList)))))
    | _ => .bad
  | _ => .bad
def gInA : D → D → R D := gInN false
def gNotInA : D → D → R D := gInN true
def rInTD (K : PySem.W.Frag) : R2 := fun x y H Q => ∃ d ds, Dp K H x d ∧ Dp K H y (.tuple ds) ∧ SeqAt.shaped d = true ∧ SeqAt.shaped (.tuple ds) = true ∧ Q (.bl (ds.any fun z => PyData.eqv z d)) H
def rNotInTD (K : PySem.W.Frag) : R2 := fun x y H Q => ∃ d ds, Dp K H x d ∧ Dp K H y (.tuple ds) ∧ SeqAt.shaped d = true ∧ SeqAt.shaped (.tuple ds) = true ∧ Q (.bl (!ds.any fun z => PyData.eqv z d)) H
def rInAll (K : PySem.W.Frag) : R2 := orR (rInD K) (orR (rIn K false) (orR rInS (rInTD K)))
def rNotInAll (K : PySem.W.Frag) : R2 := orR (rNotInD K) (orR (rIn K true) (orR rNotInS (rNotInTD K)))
def rng3D (i c : Int) (n : Nat) : List D := (List.range n).map fun k => .int (i + (k : Nat) * c)
def rng3 (fa fb fc : Env → R D) : Env → R (List D) := fun env => (fa env).bind fun x => (fb env).bind fun y => (fc env).bind fun z => (asI x).bind fun i => (asI y).bind fun j => (asI z).bind fun c =>
  guard' (decide (c ≠ 0 ∧ c.natAbs < 1073741824) && (Builtin.Range.small i j c && decide (0 ≤ Builtin.Range.rangeSize i j c ∧ Builtin.Range.rangeSize i j c ≤ 10000000))) (.ret (rng3D i c (Builtin.Range.rangeSize i j c).toNat))
section
variable {X : Cx} {c : Base} {W : WX} {w w' w1 w2 : Wd} {σ : L2.St} {env : Env} {e a b d : Expr} {fa fb fc : Env → R D}
end
def isDeckD : D → Bool
  | .dict [(.list [], .none)] => true
  | _ => false
theorem isDeckD_of {d : D} (h : isDeckD d = true) : d = deckD := by
  unfold isDeckD at h
  split at h
  · rfl
  · cases h
def F_draw : List D → R D := fun ds => match ds with
  | [x, .int n] => guard' (isDeckD x && decide (0 < n ∧ n ≤ 1000000000000000000000)) (.any n fun k => .ret (.int k))
  | _ => .bad
def F_hand : List D → R D := fun ds => match ds with
  | [x] => scrGo x fun ns => guard' (decide (ns.length ≤ 1000)) (.ret deckD)
  | _ => .bad
/-- five places: a list of ints, then four ints -/
def DPh (_ : Nat) (G : Hp) (vs : List V) : Prop := ∃ (sc : Addr) (ns : List Int) (i b m c : Int), vs = [.ref sc, .int i, .int b, .int m, .int c] ∧ G sc = some (.lst (ns.map V.int)) ∧ 0 ≤ i ∧ 0 ≤ b ∧ 0 ≤ m ∧ m < 2147483563
theorem DPh.mono {f f' : Nat} {G G' : Hp} {vs : List V} (_ : f' ≤ f) (e : ∀ a o, G a = some o → G' a = some o) (h : DPh f G vs) : DPh f' G' vs := by
  obtain ⟨sc, ns, i, b, m, c, e1, e2, h⟩ := h
  exact ⟨sc, ns, i, b, m, c, e1, e _ _ e2, h⟩
/-- three ints: what is left of a number, a seed, a counter -/
def DP3 (f : Nat) (_ : Hp) (vs : List V) : Prop := ∃ (a s c : Int), vs = [.int a, .int s, .int c] ∧ 0 ≤ a ∧ 0 ≤ s ∧ s < 2 ^ 200 ∧ 0 ≤ c ∧ c + f ≤ 2 ^ 60
theorem DP3.mono {f f' : Nat} {G G' : Hp} {vs : List V} (hf : f' ≤ f) (_ : ∀ a o, G a = some o → G' a = some o) (h : DP3 f G vs) : DP3 f' G' vs := by
  obtain ⟨a, s, c, e1, h1, h2, h3, h4, h5⟩ := h
  exact ⟨a, s, c, e1, h1, h2, h3, h4, by omega⟩
theorem WOk.deckmut {c : Base} {f f' : Nat} {H' : Hp} {a : Addr} {vs : List V} (k : WOk c ⟨[], [], c.H0, f⟩) (hf : f' ≤ f) (ha : a ∈ c.dk) (h : ∀ b, b ≠ a → H' b = c.H0 b) (e : H' a = some (.lst vs)) (dp : c.DP f' (hide c.S c.H0) vs) : WOk c ⟨[], [], H', f'⟩ := by
  have hv : hide c.S H' = hide c.S c.H0 := by
    funext b
    unfold hide
    by_cases z : b ∈ c.S
    · rw [if_pos z, if_pos z]
    · rw [if_neg z, if_neg z]
      exact h b fun q => z (by rw [q]; exact k.dS _ ha)
  refine ⟨k.dS, k.SH, fun b o e1 n => ?_, fun b e1 => ?_, fun b m => (by cases m), fun b m => (by cases m), fun b m => (by cases m), fun b m => (by cases m), fun b hb => ?_, k.mono, Nat.le_trans hf k.fb⟩
  · show H' b = _
    rw [h b fun q => n (by rw [q]; exact ha)]; exact e1
  · by_cases z : b = a
    · subst z
      have : H' b = none := e1
      rw [e] at this; cases this
    · have : H' b = none := e1
      rw [h b z] at this; exact this
  · by_cases z : b = a
    · subst z
      exact ⟨vs, e, by show c.DP f' (hide c.S H') vs; rw [hv]; exact dp⟩
    · obtain ⟨us, e1, e2⟩ := k.deck b hb
      exact ⟨us, (h b z).trans e1, by show c.DP f' (hide c.S H') us; rw [hv]; exact k.mono _ _ _ _ _ hf (fun _ _ h => h) e2⟩
def Pt (a : Addr) (H H' : Hp) : Prop := ∀ b, b ≠ a → H' b = H b
theorem Pt.put {a : Addr} {H : Hp} {o : HO} : Pt a H (upd H a o) := fun b h => upd_ne h
theorem Pt.refl {a : Addr} {H : Hp} : Pt a H H := fun _ _ => rfl
theorem Pt.trans {a : Addr} {H H1 H2 : Hp} (x : Pt a H H1) (y : Pt a H1 H2) : Pt a H H2 := fun b h => (y b h).trans (x b h)
/-- a new deck beside the world -/
theorem WOk.newdeck {c : Base} {w : Wd} {p : Addr} {vs : List V} (k : WOk c w) (h : w.H p = none) (dp : c.DP w.fu (c.vis w) vs) : WOk c { w with nk := p :: w.nk, H := upd w.H p (.lst vs) } := by
  have hv : ∀ b o, c.vis w b = some o → c.vis { w with nk := p :: w.nk, H := upd w.H p (.lst vs) } b = some o := fun b o e => by
    obtain ⟨h1, h2⟩ := hide_some.mp e
    refine hide_some.mpr ⟨fun z => h1 ?_, by show upd w.H p _ b = _; rw [upd_ne (ne_of_none h2 h)]; exact h2⟩
    have z : b ∈ w.O ++ ((p :: w.nk) ++ c.S) := z
    simp only [List.mem_append, List.mem_cons] at z
    show b ∈ w.O ++ (w.nk ++ c.S)
    simp only [List.mem_append]
    rcases z with z | (z | z) | z
    · exact .inl z
    · rw [z, h] at h2; cases h2
    · exact .inr (.inl z)
    · exact .inr (.inr z)
  refine ⟨k.dS, k.SH, fun a u e n => ?_, fun a e => ?_, fun a m => ?_, k.Of, fun a ha => ?_, fun a ha m => ?_, fun a ha => ?_, k.mono, k.fb⟩
  · have := k.keep0 _ _ e n
    show upd w.H p _ a = _
    rw [upd_ne (ne_of_none this h)]; exact this
  · by_cases z : a = p
    · subst z; exact k.free0 _ h
    · have e' : upd w.H p (.lst vs) a = none := e
      rw [upd_ne z] at e'; exact k.free0 _ e'
  · rcases List.mem_cons.mp (show a ∈ p :: w.nk from m) with m | m
    · rw [m]; exact k.free0 _ h
    · exact k.nkf _ m
  · have := k.Oh _ ha
    show upd w.H p _ a ≠ none
    rw [upd_ne (fun z => this (by rw [z]; exact h))]; exact this
  · rcases List.mem_cons.mp (show a ∈ p :: w.nk from m) with m | m
    · exact k.Oh _ ha (by rw [m]; exact h)
    · exact k.dis _ ha m
  · rcases List.mem_cons.mp (show a ∈ p :: (w.nk ++ c.dk) from ha) with m | m
    · subst m
      exact ⟨vs, upd_same, k.mono _ _ _ _ _ (Nat.le_refl _) hv dp⟩
    · obtain ⟨us, e1, e2⟩ := k.deck a m
      refine ⟨us, ?_, k.mono _ _ _ _ _ (Nat.le_refl _) hv e2⟩
      show upd w.H p _ a = _
      rw [upd_ne (ne_of_none e1 h)]; exact e1
/-- what the law is to keep: for every script of at most 63 ints it gives True -/
def spLaw (K : PySem.W.Frag) : Sp := fun vs H Q _ => ∃ (a : Addr) (ns : List Int), vs = [.ref a] ∧ SqL K H a (ns.map V.int) ∧ ns.length ≤ 63 ∧ ∀ H', Q (.bl true) H'
theorem cx_no {P : Program} {w : World} {outer : List PySem.Env} {H : Hp} {s : Shared} {u : Value} {s' : Shared} (h : L2.CX P w outer H s (fun _ _ _ => False) u s') : False := by
  obtain ⟨_, _, _, _, _, _, _, _, _, _, _, _, z⟩ := h
  exact z
section
variable {α β γ : Type}
end
theorem shaped_int (i : Int) : SeqAt.shaped (.int i) = true := by simp [SeqAt.shaped, PyData.canLay0, PyData.depth]
theorem shaped_bl (i : Bool) : SeqAt.shaped (.bool i) = true := by simp [SeqAt.shaped, PyData.canLay0, PyData.depth]
theorem eq_ii (i j : Int) : gEq (.int i) (.int j) = .ret (.bool (decide (i = j))) := by
  show guard' (SeqAt.shaped (.int i) && SeqAt.shaped (.int j)) _ = _
  rw [shaped_int, shaped_int]
  show R.ret _ = _
  congr 2
  first | done | (simp only [PyData.eqv]; done) | (simp only [PyData.eqv]; by_cases h : i = j <;> simp [h])
theorem ne_ii (i j : Int) : gNe (.int i) (.int j) = .ret (.bool (!decide (i = j))) := by
  show guard' (SeqAt.shaped (.int i) && SeqAt.shaped (.int j)) _ = _
  rw [shaped_int, shaped_int]
  show R.ret _ = _
  congr 3
  first | done | (simp only [PyData.eqv]; done) | (simp only [PyData.eqv]; by_cases h : i = j <;> simp [h])
theorem eq_bb (i j : Bool) : gEq (.bool i) (.bool j) = .ret (.bool (decide (i = j))) := by
  show guard' (SeqAt.shaped (.bool i) && SeqAt.shaped (.bool j)) _ = _
  rw [shaped_bl, shaped_bl]
  cases i <;> cases j <;> rfl
theorem ne_bb (i j : Bool) : gNe (.bool i) (.bool j) = .ret (.bool (!decide (i = j))) := by
  show guard' (SeqAt.shaped (.bool i) && SeqAt.shaped (.bool j)) _ = _
  rw [shaped_bl, shaped_bl]
  cases i <;> cases j <;> rfl
abbrev isIntD : D → Bool
  | .int _ => true | .bool _ => true | _ => false
abbrev isBoolD : D → Bool
  | .bool _ => true | _ => false
abbrev isStrD : D → Bool
  | .str _ => true | _ => false
abbrev isTupD : D → Bool
  | .tuple _ => true | _ => false
abbrev isLstD : D → Bool
  | .list _ => true | _ => false
/-- not one of the tokens that stand for the law's own -/
def plainD : D → Bool
  | .dict ((.list _, _) :: _) => false | _ => true
theorem isi_int {d : D} (h : plainD d = true) : isiV "int" d = .ret (.bool (isIntD d)) := by
  have e : isiV "int" d = (match kitB (tyName d) "int" with | some b => R.ret (PyData.bool b) | none => R.bad) := by
    unfold isiV
    split
    · cases h
    · rfl
  rw [e]
  cases d with
  | none  => simp only [tyName, isIntD, show kitB "NoneType" "int" = some false by decide +kernel]
  | bool _ => simp only [tyName, isIntD, show kitB "bool" "int" = some true by decide +kernel]
  | int _ => simp only [tyName, isIntD, show kitB "int" "int" = some true by decide +kernel]
  | str _ => simp only [tyName, isIntD, show kitB "str" "int" = some false by decide +kernel]
  | list _ => simp only [tyName, isIntD, show kitB "list" "int" = some false by decide +kernel]
  | tuple _ => simp only [tyName, isIntD, show kitB "tuple" "int" = some false by decide +kernel]
  | dict _ => simp only [tyName, isIntD, show kitB "dict" "int" = some false by decide +kernel]
theorem isi_bool {d : D} (h : plainD d = true) : isiV "bool" d = .ret (.bool (isBoolD d)) := by
  have e : isiV "bool" d = (match kitB (tyName d) "bool" with | some b => R.ret (PyData.bool b) | none => R.bad) := by
    unfold isiV
    split
    · cases h
    · rfl
  rw [e]
  cases d with
  | none  => simp only [tyName, isBoolD, show kitB "NoneType" "bool" = some false by decide +kernel]
  | bool _ => simp only [tyName, isBoolD, show kitB "bool" "bool" = some true by decide +kernel]
  | int _ => simp only [tyName, isBoolD, show kitB "int" "bool" = some false by decide +kernel]
  | str _ => simp only [tyName, isBoolD, show kitB "str" "bool" = some false by decide +kernel]
  | list _ => simp only [tyName, isBoolD, show kitB "list" "bool" = some false by decide +kernel]
  | tuple _ => simp only [tyName, isBoolD, show kitB "tuple" "bool" = some false by decide +kernel]
  | dict _ => simp only [tyName, isBoolD, show kitB "dict" "bool" = some false by decide +kernel]
theorem isi_str {d : D} (h : plainD d = true) : isiV "str" d = .ret (.bool (isStrD d)) := by
  have e : isiV "str" d = (match kitB (tyName d) "str" with | some b => R.ret (PyData.bool b) | none => R.bad) := by
    unfold isiV
    split
    · cases h
    · rfl
  rw [e]
  cases d with
  | none  => simp only [tyName, isStrD, show kitB "NoneType" "str" = some false by decide +kernel]
  | bool _ => simp only [tyName, isStrD, show kitB "bool" "str" = some false by decide +kernel]
  | int _ => simp only [tyName, isStrD, show kitB "int" "str" = some false by decide +kernel]
  | str _ => simp only [tyName, isStrD, show kitB "str" "str" = some true by decide +kernel]
  | list _ => simp only [tyName, isStrD, show kitB "list" "str" = some false by decide +kernel]
  | tuple _ => simp only [tyName, isStrD, show kitB "tuple" "str" = some false by decide +kernel]
  | dict _ => simp only [tyName, isStrD, show kitB "dict" "str" = some false by decide +kernel]
theorem isi_tup {d : D} (h : plainD d = true) : isiV "tuple" d = .ret (.bool (isTupD d)) := by
  have e : isiV "tuple" d = (match kitB (tyName d) "tuple" with | some b => R.ret (PyData.bool b) | none => R.bad) := by
    unfold isiV
    split
    · cases h
    · rfl
  rw [e]
  cases d with
  | none  => simp only [tyName, isTupD, show kitB "NoneType" "tuple" = some false by decide +kernel]
  | bool _ => simp only [tyName, isTupD, show kitB "bool" "tuple" = some false by decide +kernel]
  | int _ => simp only [tyName, isTupD, show kitB "int" "tuple" = some false by decide +kernel]
  | str _ => simp only [tyName, isTupD, show kitB "str" "tuple" = some false by decide +kernel]
  | list _ => simp only [tyName, isTupD, show kitB "list" "tuple" = some false by decide +kernel]
  | tuple _ => simp only [tyName, isTupD, show kitB "tuple" "tuple" = some true by decide +kernel]
  | dict _ => simp only [tyName, isTupD, show kitB "dict" "tuple" = some false by decide +kernel]
theorem isi_lst {d : D} (h : plainD d = true) : isiV "list" d = .ret (.bool (isLstD d)) := by
  have e : isiV "list" d = (match kitB (tyName d) "list" with | some b => R.ret (PyData.bool b) | none => R.bad) := by
    unfold isiV
    split
    · cases h
    · rfl
  rw [e]
  cases d with
  | none  => simp only [tyName, isLstD, show kitB "NoneType" "list" = some false by decide +kernel]
  | bool _ => simp only [tyName, isLstD, show kitB "bool" "list" = some false by decide +kernel]
  | int _ => simp only [tyName, isLstD, show kitB "int" "list" = some false by decide +kernel]
  | str _ => simp only [tyName, isLstD, show kitB "str" "list" = some false by decide +kernel]
  | list _ => simp only [tyName, isLstD, show kitB "list" "list" = some true by decide +kernel]
  | tuple _ => simp only [tyName, isLstD, show kitB "tuple" "list" = some false by decide +kernel]
  | dict _ => simp only [tyName, isLstD, show kitB "dict" "list" = some false by decide +kernel]
/-- an item at a place that is told -/
theorem ixL_at {ds : List D} {k : Nat} {d : D} (h : ds[k]? = some d) : ixL ds (k : Int) = .ret d := by
  have hk : k < ds.length := (List.getElem?_eq_some_iff.mp h).1
  have e : atI ds (k : Int) = some d := by
    unfold atI ixN
    rw [if_pos (by omega), if_pos (by omega)]
    show ds[(k : Int).toNat]? = _
    rw [Int.toNat_natCast]; exact h
  unfold ixL
  rw [e]
theorem ixL_0 (a : D) (r : List D) : ixL (a :: r) 0 = .ret a := ixL_at (k := 0) rfl
theorem ixL_1 (a b : D) (r : List D) : ixL (a :: b :: r) 1 = .ret b := ixL_at (k := 1) rfl
theorem ixL_2 (a b c : D) (r : List D) : ixL (a :: b :: c :: r) 2 = .ret c := ixL_at (k := 2) rfl
theorem ixL_3 (a b c d : D) (r : List D) : ixL (a :: b :: c :: d :: r) 3 = .ret d := ixL_at (k := 3) rfl
def fmtR (x : D) : R D := match x with
  | .str y => guard' (decide (y.length ≤ 16777216)) (.ret (.str y))
  | .int i => guard' (decide (i.natAbs.log2 < 1920)) (.ret (.str (toString i)))
  | _ => .bad
def fmtD (fa : Env → R D) : Env → R D := fun env => (fa env).bind fmtR
def jsD : List (Env → R D) → Str → Env → R D
  | [], acc => fun _ => .ret (.str acc)
  | f :: fs, acc => fun env => (f env).bind fun x => match x with
    | .str y => guard' (decide ((acc ++ y).length ≤ 16777216)) (jsD fs (acc ++ y) env)
    | _ => .bad
inductive JsOk (X : Cx) (c : Base) (W : WX) : List Expr → List (Env → R D) → Prop
  | nil : JsOk X c W [] []
  | cons {e : Expr} {f : Env → R D} {es : List Expr} {fs : List (Env → R D)} (h : PE X e (liftE c W f)) (r : JsOk X c W es fs) : JsOk X c W (e :: es) (f :: fs)
section
variable {X : Cx} {c : Base} {W : WX} {w w' w1 w2 : Wd} {σ : L2.St} {env : Env} {e a b d : Expr} {fa fb fc : Env → R D} {ft fu : Env → R Bool} {fr fi : Env → R (List D)} {pos p pos2 : Pos} {st : Stmt} {es : List Expr} {rest : List Stmt} {f g : Env → R Out} {x : Str} {ds : List D}
theorem de_fmt (h : PE X e (liftE c W fa)) : PE X (.FormattedValue e (-1) none pos) (liftE c W (fmtD fa)) := pe_imp (pe_fmt h) fun σ H Q ⟨w, env, a, q⟩ => step a q fun x v w1 g1 r1 q1 => by
  cases x with
  | str y =>
    obtain ⟨h1, h2⟩ := guard_line (m := R.ret (PyData.str y)) q1
    exact .inl ⟨y, r1.isStr, h1, PQ.here g1.ok h2 (.str y)⟩
  | int i =>
    obtain ⟨h1, h2⟩ := wp_guard.mp (show (guard' (decide (i.natAbs.log2 < 1920)) (R.ret (PyData.str (toString i)))).wp w1.fu (PQ c w1 Q) (EK c W σ w1) from q1)
    exact .inr ⟨i, r1.isInt, of_decide_eq_true h1, PQ.here g1.ok h2 (.str _)⟩
  | _ => exact q1.elim
theorem JsOk.pj {fs : List (Env → R D)} (h : JsOk X c W es fs) : PJ X es (fs.map (liftE c W)) := by
  induction h with
  | nil => exact .nil
  | cons h _ ih => exact .cons h ih
theorem tJs_of : ∀ (fs : List (Env → R D)) (acc : Str) (σ : L2.St) (w : Wd) (env : Env) (Q : VK), At c σ w.H w env → (jsD fs acc env).wp w.fu (PQ c w Q) (EK c W σ w) → tJs (fs.map (liftE c W)) acc σ w.H fun out H1 => Q (.str out) H1
  | [], acc, σ, w, env, Q, a, q => PQ.here (d := .str acc) a.ok q (.str acc)
  | f :: fs, acc, σ, w, env, Q, a, q => step a q fun x v w1 g1 r1 q1 => by
    cases x with
    | str y =>
      obtain ⟨h1, h2⟩ := wp_guard.mp (show (guard' (decide ((acc ++ y).length ≤ 16777216)) (jsD fs (acc ++ y) env)).wp w1.fu (PQ c w1 Q) (EK c W σ w1) from q1)
      exact ⟨y, r1.isStr, line_eq.mpr (of_decide_eq_true h1), tJs_of fs (acc ++ y) σ w1 env Q (a.grow g1) h2⟩
    | _ => exact q1.elim
theorem de_fstr {v1 v2 : Expr} {fs : List (Env → R D)} (h : JsOk X c W (v1 :: v2 :: es) fs) : PE X (.JoinedStr (v1 :: v2 :: es) pos) (liftE c W (jsD fs Str.empty)) := pe_imp (pe_joined h.pj) fun σ H Q ⟨w, env, a, q⟩ => by
  obtain ⟨rfl⟩ := a.h
  exact tJs_of fs Str.empty σ w env Q a q
mutual
/-- how long a text it is at most -/
def wt : D → Nat
  | .none => 4
  | .bool _ => 5
  | .int i => i.natAbs.log2 + 3
  | .str x => 10 * x.length + 2
  | .list xs => wtAll xs + 3
  | .tuple xs => wtAll xs + 3
  | .dict _ => 100000000
def wtAll : List D → Nat
  | [] => 0
  | x :: xs => wt x + 2 + wtAll xs
end
def reprOk (d : D) : Bool := PyData.canLay0 d && (PyData.showable d && (!PyData.hasDict d && (decide (PyData.depth d ≤ 60) && decide (d.shown.length ≤ 16777216))))
def gRepr (xs : List D) : R D := match xs with
  | [d] => guard' (reprOk d) (.ret (.str d.shown))
  | _ => .bad
def rRepr (K : PySem.W.Frag) : List V → Hp → VK → Prop := fun xs H Q => ∃ (x : V) (d : D), xs = [x] ∧ Dp K H x d ∧ PyData.showable d = true ∧ PyData.hasDict d = false ∧ PyData.depth d ≤ 60 ∧ d.shown.length ≤ sizeLine ∧ Q (.str d.shown) H
end
def gMulA (x y : D) : R D := match x, y with
  | .int i, .int j => gMul (.int i) (.int j)
  | .tuple ds, .int k => guard' (decide (ds ≠ [] ∧ 2 ≤ k ∧ k ≤ 1000 ∧ ds.length ≤ 1000)) (.ret (.tuple (List.replicate k.toNat ds).flatten))
  | _, _ => .bad
def rMulAll (K : PySem.W.Frag) : R2 := orR (rI CMul fun i j => .int (i * j)) (rRepF K)
theorem op_mulAll {X : Cx} : OpR X (binaryOp .Mult) (rMulAll X.K) := OpR.or op_mul op_repF
theorem rp_rep {K : KM} {dk : List Addr} {G : Hp} {vs : List V} {ds : List D} (r : RpAll K dk G vs ds) : ∀ n : Nat, RpAll K dk G (List.replicate n vs).flatten (List.replicate n ds).flatten
  | 0 => .nil
  | n + 1 => by
    rw [List.replicate_succ, List.replicate_succ, List.flatten_cons, List.flatten_cons]
    exact r.app (rp_rep r n)
theorem d_mulA : OpDK rMulAll gMulA := fun c W σ w x y v u Q k r1 r2 h => by
  cases x with
  | int i =>
    cases y with
    | int j => exact .inl (d_mul c W σ w _ _ v u Q k r1 r2 h)
    | _ => exact h.elim
  | tuple ds =>
    cases y with
    | int j =>
      obtain ⟨a, xs, rfl, s1, a1⟩ := r1.isTup
      obtain rfl := r2.isInt
      obtain ⟨h1, h2⟩ := wp_guard.mp (show (guard' (decide (ds ≠ [] ∧ 2 ≤ j ∧ j ≤ 1000 ∧ ds.length ≤ 1000)) (R.ret (PyData.tuple (List.replicate j.toNat ds).flatten))).wp w.fu (PQ c w Q) (EK c W σ w) from h)
      obtain ⟨c0, c1, c2, c3⟩ := of_decide_eq_true h1
      refine .inr ⟨a, j, xs, rfl, rfl, sqT_vis s1, fun e => ?_, c1, c2, by rw [a1.len]; exact c3, new_tup k (rp_rep a1 _) h2⟩
      subst e
      cases a1
      exact c0 rfl
    | _ => exact h.elim
  | _ => cases y <;> exact h.elim
def repL (f : Env → R (List D)) (fb : Env → R D) : Env → R (List D) := fun env => (f env).bind fun ds => (fb env).bind fun k => match k with
  | .int k => guard' (decide (0 ≤ k ∧ k ≤ 100000 ∧ ds.length * k.toNat ≤ 16777216)) (.ret (List.replicate k.toNat ds).flatten)
  | _ => .bad
section
variable {X : Cx} {c : Base} {W : WX} {w w' w1 w2 : Wd} {σ : L2.St} {env : Env} {e a b d : Expr} {fa fb fc : Env → R D} {ft fu : Env → R Bool} {fr fi : Env → R (List D)} {pos p pos2 : Pos} {st : Stmt} {es : List Expr} {rest : List Stmt} {f g : Env → R Out} {x : Str} {ds : List D}
/-- behind a list that is newly one's own -/
theorem At.own {H : Hp} (a : At c σ H w env) {p : Addr} (hO : w'.O = p :: w.O) (hp : w.H p = none) (k : WOk c w') (g : Grow c w { w' with O := w.O }) : LE c w w' ∧ At c σ w'.H w' env := by
  have hs : ∀ x ∈ w.O, x ∈ w'.O := fun x hx => by rw [hO]; exact List.mem_cons_of_mem _ hx
  have le := g.le a.ok
  have vv : ∀ a' o, c.vis w a' = some o → c.vis w' a' = some o := fun a' o e => by
    obtain ⟨h1, h2⟩ := hide_some.mp (le.ex _ _ e)
    refine hide_some.mpr ⟨fun z => h1 ?_, h2⟩
    have z : a' ∈ w'.O ++ (w'.nk ++ c.S) := z
    rw [hO] at z
    rcases List.mem_cons.mp z with z | z
    · exact absurd (vis_sub e) (by rw [z, hp]; intro q; cases q)
    · exact z
  have l2 : LE c w w' := ⟨vv, le.dk, le.fu⟩
  exact ⟨l2, rfl, k, a.env.le l2 fun q hq => ⟨hs q hq, by
    cases e : w.H q with
    | none => exact absurd e (a.ok.Oh _ hq)
    | some o => exact g.keep _ _ e (own_notdk a.ok hq)⟩⟩
theorem EK.grow2 {Wx : WX} (k : WOk c w) (hO : ∀ x ∈ w.O, x ∈ w1.O) (gg : ∀ w2, Grow c w1 w2 → Grow c w { w2 with O := w.O }) {fu : Nat} {er : Er} (h : EK c Wx σ w fu er) : EK c Wx σ w1 fu er := fun cls dd w' e1 g' e => by
  refine h cls dd { w' with O := w.O } e1 (gg _ g') ⟨e.cls, e.none, fun n d z => ?_⟩
  obtain ⟨p, v, h1, h2, h3⟩ := e.one n d z
  exact ⟨p, v, h1, h2, (LE.sub (c := c) (w := w') (O := w.O) fun x hx => by rw [g'.O]; exact hO x hx).rp h3⟩
end
/-- what the written part says of an own error's class -/
structure ExF (K : PySem.W.Frag) (mg : Str → Option Value) (n : Str) (C : Addr) : Prop where
  g : mg n = some (.ref C)
  x : PySem.W.excIn K C [.type "ValueError", .type "Exception", .type "BaseException", .type "object"] "ValueError.__new__" = true
  k : PySem.W.keepIn K (.ref C) = true
  b : PySem.W.subIn K (.ref C) (.type "BaseException") = some true
  t : PySem.W.typeIn K (.ref C) = some (.type "type")
section
variable {X : Cx} {c : Base} {W : WX} {w w' w1 w2 : Wd} {σ : L2.St} {env : Env} {e a b d : Expr} {fa fb fc : Env → R D} {ft fu : Env → R Bool} {fr fi : Env → R (List D)} {pos p pos2 : Pos} {st : Stmt} {es : List Expr} {rest : List Stmt} {f g : Env → R Out} {x : Str} {ds : List D}
theorem ds_raiseX {C : Addr} (F : ExF X.K X.mg x C) (hm : c.mg = X.mg) (hc : X.calm = true) (tk : Takes X W) (hg : Gl X x) (ha : PE X e (liftE c W fa)) (hs : starEach [e] X.env = (false, eval e X.env) :: starEach [] X.env := by rfl) (hdb : (x == ("__debug__" : Str)) = false := by decide) :
    PS X (.Raise (some (.Call (.Name x p) [e] [] pos)) none pos2) (liftS c W (raiseS x fa)) :=
  ds_raise (hm ▸ F.g) (ps_raise hc tk (SkE.pmk_own1 PySem.F.excBase_ValueError F.x F.g F.k (raises_own F.b F.t) hg ha hs hdb))
/-- the clauses of a try: what a class's name says of it, and the suite -/
def handle : List ((Str → Option Bool) × (Env → R Out)) → Env → Er → R Out
  | [], e, er => .ret (.ex e er)
  | (t, f) :: r, e, er => match t er.cls with
    | some true => (f e).bind fun o => match o with
      | .ex _ _ => .bad
      | o => .ret o
    | some false => handle r e er
    | none => .bad
def tryS (fb : Env → R Out) (hs : List ((Str → Option Bool) × (Env → R Out))) : Env → R Out := fun env => (fb env).bind fun o => match o with
  | .ex e er => handle hs e er
  | o => .ret o
/-- the clauses' derivations -/
inductive HdD (X : Cx) (c : Base) : List ExceptHandler → List ((Str → Option Bool) × (Env → R Out)) → List (Value × (Addr → Value → Option Addr → TS)) → Prop
  | nil : HdD X c [] [] []
  | cons {x : Str} {cv : Value} {b₀ : Stmt} {suite : List Stmt} {np pos' : Pos} {hds : List ExceptHandler} {t : Str → Option Bool} {f : Env → R Out} {fs : List ((Str → Option Bool) × (Env → R Out))} {l : List (Value × (Addr → Value → Option Addr → TS))} (hc : Names X x cv)
      (ht : ∀ n b cls, t n = some b → c.mg n = some cls → PySem.W.exmOne X.K cls cv = some b)
      (hsu : ∀ (a : Addr) (oe : Obj) (pn : List (Addr × Obj)), PSs (X.suite a ((a, oe) :: pn)) (b₀ :: suite) (liftS c (fun _ _ _ _ => False) f)) (r : HdD X c hds fs l) :
      HdD X c (.ExceptHandler (some (.Name x np)) none (b₀ :: suite) pos' :: hds) ((t, f) :: fs) ((cv, fun _ _ _ => liftS c (fun _ _ _ _ => False) f) :: l)
theorem HdD.ok {hds : List ExceptHandler} {fs : List ((Str → Option Bool) × (Env → R Out))} {l : List (Value × (Addr → Value → Option Addr → TS))} (h : HdD X c hds fs l) : HdsOk X hds l := by
  induction h with
  | nil => exact .nil
  | cons hc _ hsu _ ih => exact .cons hc (fun a oe _ _ pn _ _ => hsu a oe pn) ih
end
section
variable {X : Cx} {c : Base} {W : WX} {w w' w1 w2 : Wd} {σ : L2.St} {env : Env} {pos p : Pos}
/-- a new thing that can be changed is held fast from here on -/
def tFrz (t : TE) : TE := fun σ H Q => t σ H fun v H' => ∃ d u, H' d = some u ∧ Mut (some u) ∧ ∀ od, Q v (upd H' d (.frz od u))
theorem Grow.dct (k : WOk c w) {p : Addr} {od : Obj} {kvs : List (Key × V)} {ds : List (D × D)} (hp : w.H p = none) (r : RpKV c.KM (c.dks w) (c.vis w) kvs ds) {Q : VK} (h : PQ c w Q w.fu (.dict ds)) : Q (.ref p) (upd w.H p (.frz od (.dK kvs))) := by
  have g := Grow.new (o := .frz od (.dK kvs)) k hp
  exact h _ _ (by rfl) g (.dct (vis_new k hp) (r.mono (g.le k).ex (g.le k).dk))
end
def KtAtI (K : PySem.W.Frag) (mg : Str → Option Value) (x : Str) (qs : List Int) : Prop := ∃ a, mg x = some (.ref a) ∧ ∃ (o : Obj) (its : Array Value) (n : Nat), K.lookup a = some o ∧ o.cls = .type "tuple" ∧ o.dict = none ∧ o.data = .seq its n ∧ its.size ≤ sizeLine ∧ Vals (qs.map V.int) its.toList
def KtAt (K : PySem.W.Frag) (mg : Str → Option Value) (x : Str) (qs : List Str) : Prop := ∃ a, mg x = some (.ref a) ∧ ∃ (o : Obj) (its : Array Value) (n : Nat), K.lookup a = some o ∧ o.cls = .type "tuple" ∧ o.dict = none ∧ o.data = .seq its n ∧ its.size ≤ sizeLine ∧ Vals (qs.map V.str) its.toList
/-- a new source of drawn numbers, from the script -/
def F_open : List D → R D := fun ds => match ds with
  | [x, .int k] => scrGo x fun _ => guard' (decide (0 ≤ k ∧ k ≤ 1000)) (.ret deckD)
  | _ => .bad
end DL
namespace PySem
open Sem (wp)
open PyProof.Rows
set_option maxHeartbeats 1000000 in
theorem dl_meets_enum1 {v : Value} {o : Obj} {H : Heap → Prop} (B : Begins v o H) :
    Meets (Builtin.«enumerate.__new__» ⟨[.type "enumerate", v], []⟩) (fun _ R s => H s.heap ∧ R (.ok (.ret (.ref (s.heap.push o).objs.size)))
      { s with heap := (s.heap.push o).push { cls := .type "enumerate", data := .fields #[.none, .bool false, .ref s.heap.objs.size, rawInt 0, .none, .none] } }) := .of_wp fun prog w A R s ht => by
    obtain ⟨hp, gg, dd, kk, os⟩ := s; obtain ⟨h1, h⟩ := ht
    have hsub := sub_enumerate
    have q1 : ∀ {A' : Around} {E : Value → Shared → Prop} {Q : Value → Shared → Prop}, Q (.ref hp.objs.size) ⟨hp.push o, gg, dd, kk, os⟩ → wpAny (model prog w) A' (pyIter v) Q E ⟨hp, gg, dd, kk, os⟩ := fun q => B.iter prog w _ _ ⟨hp, gg, dd, kk, os⟩ _ h1 q
    wp_walk using q1
    refine wpAny_stack_any fun st => wpAny_pure ?_
    split
    · rename_i c _ _ _ _ _
      cases (c == Value.type "enumerate") <;> (wp_walk using q1; exact ⟨_, rfl, h⟩)
    · wp_walk using q1
      exact ⟨_, rfl, h⟩
theorem dl_call_enum1 {prog : Program} {w : World} {A : Around} {E : Value → Shared → Prop} {s : Shared} {v : Value} {o : Obj} {H : Heap → Prop} {Q : Value → Shared → Prop} (B : Begins v o H) (hv : H s.heap)
    (k : ∀ h', IsEnum h' (s.heap.objs.size + 1) s.heap.objs.size 0 .none → h'.get? s.heap.objs.size = some o → h'.objs.size = s.heap.objs.size + 2 → (∀ b u, s.heap.get? b = some u → h'.get? b = some u) → Q (.ref (s.heap.objs.size + 1)) { s with heap := h' }) :
    wpAny (model prog w) A (call (.type "enumerate") [v]) Q E s := by
  refine callType_new F.called_enumerate (by decide) (F.typeCall_enumerate_1 _) (F.newCall_enumerate_1 _) (fun obj => F.args_object_init_2 obj _) F.entry_enumerate_new (dl_meets_enum1 B) ⟨hv, ?_⟩
  have hsz : (s.heap.push o).objs.size = s.heap.objs.size + 1 := Heap.size_push ..
  show _ ∧ _
  rw [hsz]
  have hen : IsEnum ((s.heap.push o).push { cls := .type "enumerate", data := .fields #[.none, .bool false, .ref s.heap.objs.size, rawInt 0, .none, .none] }) (s.heap.objs.size + 1) s.heap.objs.size 0 .none := by
    have q := Heap.get?_push_size (s.heap.push o) (o := { cls := .type "enumerate", data := .fields #[.none, .bool false, .ref s.heap.objs.size, rawInt 0, .none, .none] }) rfl
    rw [hsz] at q; exact q
  exact ⟨⟨_, hen, rfl⟩, k _ hen (Heap.get?_push_of_some _ (Heap.get?_push_size _ B.free)) (by rw [Heap.size_push, hsz]) fun b u x => Heap.get?_push_of_some _ (Heap.get?_push_of_some _ x)⟩
end PySem
namespace DL
open PySem PySem.Spec PyProof.Rows L2
def IteT (K : PySem.W.Frag) (a : Addr) : It := ⟨fun i H => ∃ (xs : List V) (x : V), SqT K H a xs ∧ xs[i]? = some x,
  fun i H v H' => ∃ T x ob, v = .ref T ∧ H T = none ∧ ob.dict = none ∧ H' = upd H T (.frz ob (.tup [.int (i : Nat), x])) ∧ ∀ xs, SqT K H a xs → xs[i]? = some x, fun i H => ∃ xs : List V, SqT K H a xs ∧ xs.length = i⟩
theorem turn_enumT {P : Program} {w : World} {K : PySem.W.Frag} {elts : List Expr} {kk : Nat} {tpos : Pos} (a e it : Addr) (hea : e ≠ a) (hia : a ≠ it) :
    Turn P w K (.Tuple elts kk tpos) (IteT K a) [e, it] e (fun i h => (∃ old, IsEnum h e it ((i : Nat) : Int) old) ∧ h.IsTupleIter it a i ∧ e ≠ it) where
  mem := by simp
  obj := fun i h st b hb => by
    obtain ⟨⟨old, he⟩, ⟨u, hu, hcu, hdu⟩, _⟩ := st
    rcases (by simpa using hb : b = e ∨ b = it) with rfl | rfl
    · exact ⟨_, he, fun v q => nomatch q⟩
    · exact ⟨u, hu, fun v q => by rw [hdu] at q; cases q⟩
  keep := fun i h h' ⟨⟨old, he⟩, hi, hne⟩ k => ⟨⟨old, k e (by simp) _ he⟩, hi.at fun o q => k it (by simp) o q, hne⟩
  item := by
    intro X hP hw hK hc i pins s σ H E I hf st hg
    subst hP hw hK
    obtain ⟨⟨old, he⟩, hit, hne⟩ := st
    obtain ⟨xs, x, hq, hx⟩ := hg
    obtain ⟨its, rv, p, hz⟩ := I.tuple hq
    obtain ⟨u, hu, ru⟩ := rv.get hx
    have hel : e < s.heap.objs.size := Heap.lt_size he
    have hil : it < s.heap.objs.size := by obtain ⟨_, q, _⟩ := hit; exact Heap.lt_size q
    have hlt : i < its.toArray.size := by
      have := (List.getElem?_eq_some_iff.mp hu).1
      simpa using this
    have Dt : Draws X.prog X.w X.A.in1 it [it, a] its.toArray.size (fun i v => its.toArray[i]? = some v) (fun i h => h.IsTupleIter it a i ∧ h.IsTuple a its.toArray) := Draws.tuple (show X.A.in1.handled = none from I.ok.hd hc) it a hia its.toArray
    refine wpAny_pyNext_enum_itemD Dt he ⟨hit, p⟩ hlt hne (by simp; exact ⟨hne, hea⟩) fun y h' tk hy ho hst hT hsz hk => ?_
    obtain rfl : u = y := by
      have q : its.toArray[i]? = some u := by simpa using hu
      rw [q] at hy; exact Option.some.inj hy
    refine ⟨_, rfl, wpAny_letOwnedTupleGo_enum (s := { s with heap := h', toks := tk + 1 }) ho fun h'' he' sb => ?_⟩
    have hT2 : h''.get? s.heap.objs.size = some { cls := .type "tuple", data := .seq #[.int i tk, u] } := (sb.2 _ (Nat.ne_of_gt hel)).trans hT
    have new : ObjOk X.prog X.w (upd H s.heap.objs.size (.frz { cls := .type "tuple", data := .seq #[.int i tk, u] } (.tup [.int (i : Nat), x]))) h'' s.heap.objs.size (.frz { cls := .type "tuple", data := .seq #[.int i tk, u] } (.tup [.int (i : Nat), x])) := ⟨hT2, by show 2 ≤ sizeLine; decide, [.int i tk, u], .cons ⟨_, rfl⟩ (.cons ru .nil), ⟨_, hT2, rfl, _, rfl⟩⟩
    have I1 : Inv X pins σ (upd H s.heap.objs.size (.frz { cls := .type "tuple", data := .seq #[.int i tk, u] } (.tup [.int (i : Nat), x]))) { s with heap := h'', toks := tk + 1 } :=
      I.turnedNew (ch := [e, it]) (fun b ob hb q => (sb.2 b (fun z => hb (by simp [z]))).trans (hk b ob (fun z => hb (by simp [z])) (fun z => hb (by simp [z])) q)) hf (Nat.le_refl _) new
    refine ⟨.ref s.heap.objs.size, _, I1, rfl, ⟨_, x, _, rfl, I.hok.fresh (Nat.le_refl _), rfl, rfl, fun ys hys => by rw [I.tuple_inj hys hq]; exact hx⟩, ⟨⟨u, ?_⟩, hst.1.at fun o q => (sb.2 it (Ne.symm hne)).trans q, hne⟩, fun b hb => ?_⟩
    · rw [show ((i + 1 : Nat) : Int) = (i : Int) + 1 by omega]; exact he'
    · have hb' : b < s.heap.objs.size := by
        rcases (by simpa using hb : b = e ∨ b = it) with rfl | rfl
        · exact hel
        · exact hil
      rw [upd_ne (Nat.ne_of_lt hb')]
      exact (hf b hb).1
  done := by
    intro X hP hw hK hc i pins s σ H E I hf st hg
    subst hP hw hK
    obtain ⟨⟨old, he⟩, hit, hne⟩ := st
    obtain ⟨xs, hq, hx⟩ := hg
    obtain ⟨its, rv, p, hz⟩ := I.tuple hq
    have hl := rv.length
    have hn : its.toArray.size = i := by rw [List.size_toArray]; omega
    have Dt : Draws X.prog X.w X.A.in1 it [it, a] its.toArray.size (fun i v => its.toArray[i]? = some v) (fun i h => h.IsTupleIter it a i ∧ h.IsTuple a its.toArray) := Draws.tuple (show X.A.in1.handled = none from I.ok.hd hc) it a hia its.toArray
    obtain ⟨f0, f1, f2, f3, f4, f5⟩ := hf it (by simp)
    exact wpAny_pyNext_enum_endD Dt he (by rw [hn]; exact ⟨hit, p⟩) fun h' eb => ⟨rfl, I.turned (t' := s.toks) (fun b o hb q => eb b o hb q) f0 f1 f3 f4 f5⟩
  self := fun A i s Q E ⟨⟨_, he⟩, _⟩ h => wpAny_pyIter_enum he h
def IteL (K : PySem.W.Frag) (a : Addr) : It := ⟨fun i H => ∃ (xs : List V) (x : V), SqL K H a xs ∧ xs[i]? = some x,
  fun i H v H' => ∃ T x ob, v = .ref T ∧ H T = none ∧ ob.dict = none ∧ H' = upd H T (.frz ob (.tup [.int (i : Nat), x])) ∧ ∀ xs, SqL K H a xs → xs[i]? = some x, fun i H => ∃ xs : List V, SqL K H a xs ∧ xs.length = i⟩
theorem turn_enumL {P : Program} {w : World} {K : PySem.W.Frag} {elts : List Expr} {kk : Nat} {tpos : Pos} (a e it : Addr) (hea : e ≠ a) (hia : a ≠ it) :
    Turn P w K (.Tuple elts kk tpos) (IteL K a) [e, it] e (fun i h => (∃ old, IsEnum h e it ((i : Nat) : Int) old) ∧ h.IsListIter it a i ∧ e ≠ it) where
  mem := by simp
  obj := fun i h st b hb => by
    obtain ⟨⟨old, he⟩, ⟨u, hu, hcu, hdu⟩, _⟩ := st
    rcases (by simpa using hb : b = e ∨ b = it) with rfl | rfl
    · exact ⟨_, he, fun v q => nomatch q⟩
    · exact ⟨u, hu, fun v q => by rw [hdu] at q; cases q⟩
  keep := fun i h h' ⟨⟨old, he⟩, hi, hne⟩ k => ⟨⟨old, k e (by simp) _ he⟩, hi.at fun o q => k it (by simp) o q, hne⟩
  item := by
    intro X hP hw hK hc i pins s σ H E I hf st hg
    subst hP hw hK
    obtain ⟨⟨old, he⟩, hit, hne⟩ := st
    obtain ⟨xs, x, hq, hx⟩ := hg
    obtain ⟨its, rv, p0, hz⟩ := I.list hq
    have p := p0.isList
    obtain ⟨u, hu, ru⟩ := rv.get hx
    have hel : e < s.heap.objs.size := Heap.lt_size he
    have hil : it < s.heap.objs.size := by obtain ⟨_, q, _⟩ := hit; exact Heap.lt_size q
    have hlt : i < its.toArray.size := by
      have := (List.getElem?_eq_some_iff.mp hu).1
      simpa using this
    have Dt : Draws X.prog X.w X.A.in1 it [it, a] its.toArray.size (fun i v => its.toArray[i]? = some v) (fun i h => h.IsListIter it a i ∧ h.IsList a its.toArray) := Draws.list (show X.A.in1.handled = none from I.ok.hd hc) it a hia its.toArray
    refine wpAny_pyNext_enum_itemD Dt he ⟨hit, p⟩ hlt hne (by simp; exact ⟨hne, hea⟩) fun y h' tk hy ho hst hT hsz hk => ?_
    obtain rfl : u = y := by
      have q : its.toArray[i]? = some u := by simpa using hu
      rw [q] at hy; exact Option.some.inj hy
    refine ⟨_, rfl, wpAny_letOwnedTupleGo_enum (s := { s with heap := h', toks := tk + 1 }) ho fun h'' he' sb => ?_⟩
    have hT2 : h''.get? s.heap.objs.size = some { cls := .type "tuple", data := .seq #[.int i tk, u] } := (sb.2 _ (Nat.ne_of_gt hel)).trans hT
    have new : ObjOk X.prog X.w (upd H s.heap.objs.size (.frz { cls := .type "tuple", data := .seq #[.int i tk, u] } (.tup [.int (i : Nat), x]))) h'' s.heap.objs.size (.frz { cls := .type "tuple", data := .seq #[.int i tk, u] } (.tup [.int (i : Nat), x])) := ⟨hT2, by show 2 ≤ sizeLine; decide, [.int i tk, u], .cons ⟨_, rfl⟩ (.cons ru .nil), ⟨_, hT2, rfl, _, rfl⟩⟩
    have I1 : Inv X pins σ (upd H s.heap.objs.size (.frz { cls := .type "tuple", data := .seq #[.int i tk, u] } (.tup [.int (i : Nat), x]))) { s with heap := h'', toks := tk + 1 } :=
      I.turnedNew (ch := [e, it]) (fun b ob hb q => (sb.2 b (fun z => hb (by simp [z]))).trans (hk b ob (fun z => hb (by simp [z])) (fun z => hb (by simp [z])) q)) hf (Nat.le_refl _) new
    refine ⟨.ref s.heap.objs.size, _, I1, rfl, ⟨_, x, _, rfl, I.hok.fresh (Nat.le_refl _), rfl, rfl, fun ys hys => by rw [I.list_inj hys hq]; exact hx⟩, ⟨⟨u, ?_⟩, hst.1.at fun o q => (sb.2 it (Ne.symm hne)).trans q, hne⟩, fun b hb => ?_⟩
    · rw [show ((i + 1 : Nat) : Int) = (i : Int) + 1 by omega]; exact he'
    · have hb' : b < s.heap.objs.size := by
        rcases (by simpa using hb : b = e ∨ b = it) with rfl | rfl
        · exact hel
        · exact hil
      rw [upd_ne (Nat.ne_of_lt hb')]
      exact (hf b hb).1
  done := by
    intro X hP hw hK hc i pins s σ H E I hf st hg
    subst hP hw hK
    obtain ⟨⟨old, he⟩, hit, hne⟩ := st
    obtain ⟨xs, hq, hx⟩ := hg
    obtain ⟨its, rv, p0, hz⟩ := I.list hq
    have p := p0.isList
    have hl := rv.length
    have hn : its.toArray.size = i := by rw [List.size_toArray]; omega
    have Dt : Draws X.prog X.w X.A.in1 it [it, a] its.toArray.size (fun i v => its.toArray[i]? = some v) (fun i h => h.IsListIter it a i ∧ h.IsList a its.toArray) := Draws.list (show X.A.in1.handled = none from I.ok.hd hc) it a hia its.toArray
    obtain ⟨f0, f1, f2, f3, f4, f5⟩ := hf it (by simp)
    exact wpAny_pyNext_enum_endD Dt he (by rw [hn]; exact ⟨hit, p⟩) fun h' eb => ⟨rfl, I.turned (t' := s.toks) (fun b o hb q => eb b o hb q) f0 f1 f3 f4 f5⟩
  self := fun A i s Q E ⟨⟨_, he⟩, _⟩ h => wpAny_pyIter_enum he h
def iEnumA (K : PySem.W.Frag) (te : TE) : TI := fun σ H R => te σ H fun x H1 => (∃ a xs, x = .ref a ∧ SqL K H1 a xs ∧ R (IteL K a) H1) ∨ ∃ a xs, x = .ref a ∧ SqT K H1 a xs ∧ R (IteT K a) H1
theorem pi_enumA {X : Cx} {e : Expr} {te : TE} {p pos tpos : Pos} {elts : List Expr} {kk : Nat} (hg : Gl X "enumerate") (hm : X.mg "enumerate" = none) (he : PE X e te) (hs : starEach [e] X.env = [(false, eval e X.env)] := by rfl) :
    PI X (.Tuple elts kk tpos) (.Call (.Name "enumerate" p) [e] [] pos) (iEnumA X.K te) := by
  have one : PA X [e] (L2.tCons te L2.tNil) := pa_cons he pa_nil (by rw [hs]; rfl)
  refine ⟨fun pins s σ H R I h => Call_ (ld_blt I hg hm boot_enumerate (PyProof.Rows.callWith_type1 (thn (one.run pos pins s σ H (fun vs H1 => match vs with
    | [x] => (∃ a xs, x = .ref a ∧ SqL X.K H1 a xs ∧ R (IteL X.K a) H1) ∨ ∃ a xs, x = .ref a ∧ SqT X.K H1 a xs ∧ R (IteT X.K a) H1
    | _ => False) I h) fun us s1 ⟨vs, H1, I1, r1, q1⟩ => ?_) hs rfl))⟩
  obtain ⟨x, rfl⟩ : ∃ x, vs = [x] := by
    match vs, q1 with
    | [x], _ => exact ⟨x, rfl⟩
  have q : (∃ a xs, x = .ref a ∧ SqL X.K H1 a xs ∧ R (IteL X.K a) H1) ∨ ∃ a xs, x = .ref a ∧ SqT X.K H1 a xs ∧ R (IteT X.K a) H1 := q1
  cases r1 with
  | cons r rr =>
    cases rr
    rcases q with ⟨a, xs, rfl, hq, q⟩ | ⟨a, xs, rfl, hq, q⟩
    · cases r
      obtain ⟨its, rv, p', hz⟩ := I1.list hq
      have hal : a < s1.heap.objs.size := by obtain ⟨n, q, _⟩ := p'.isList; exact Heap.lt_size q
      refine call_enumerate_list p'.isList fun h' he hit hsz hk => wpAny_pyIter_enum he ?_
      have I2 : Inv X pins σ H1 { s1 with heap := h' } := I1.kept (t' := s1.toks) hk
      refine ⟨s1.heap.objs.size + 1, [s1.heap.objs.size + 1, s1.heap.objs.size], _, _, H1, rfl, I2, turn_enumL a (s1.heap.objs.size + 1) s1.heap.objs.size (Nat.ne_of_gt (Nat.lt_succ_of_lt hal)) (Nat.ne_of_lt hal), ⟨⟨.none, he⟩, hit, Nat.succ_ne_self _⟩, fun b hb => ?_, q⟩
      have hle : s1.heap.objs.size ≤ b := by
        rcases (by simpa using hb : b = s1.heap.objs.size + 1 ∨ b = s1.heap.objs.size) with z | z
        · rw [z]; exact Nat.le_add_right _ _
        · rw [z]; exact Nat.le_refl _
      exact I1.fpOk hle (I1.hok.fresh hle)
    · cases r
      obtain ⟨its, rv, p', hz⟩ := I1.tuple hq
      have hal : a < s1.heap.objs.size := by obtain ⟨o, q, _⟩ := p'; exact Heap.lt_size q
      refine dl_call_enum1 (begins_tuple a its.toArray) p' fun h' he hit hsz hk => wpAny_pyIter_enum he ?_
      have I2 : Inv X pins σ H1 { s1 with heap := h' } := I1.kept (t' := s1.toks) hk
      refine ⟨s1.heap.objs.size + 1, [s1.heap.objs.size + 1, s1.heap.objs.size], _, _, H1, rfl, I2, turn_enumT a (s1.heap.objs.size + 1) s1.heap.objs.size (Nat.ne_of_gt (Nat.lt_succ_of_lt hal)) (Nat.ne_of_lt hal), ⟨⟨.none, he⟩, ⟨_, hit, rfl, rfl⟩, Nat.succ_ne_self _⟩, fun b hb => ?_, q⟩
      have hle : s1.heap.objs.size ≤ b := by
        rcases (by simpa using hb : b = s1.heap.objs.size + 1 ∨ b = s1.heap.objs.size) with z | z
        · rw [z]; exact Nat.le_add_right _ _
        · rw [z]; exact Nat.le_refl _
      exact I1.fpOk hle (I1.hok.fresh hle)
def gRev (x : D) : R D := match x with
  | .list ds => .ret (.list ds.reverse)
  | .tuple ds => .ret (.tuple ds.reverse)
  | _ => .bad
def enumD (ds : List D) : List D := ds.mapIdx fun i d => .tuple [.int (i : Nat), d]
def zipD (ds es : List D) : List D := (ds.zip es).map fun p => .tuple [p.1, p.2]
def enumF (fa : Env → R D) : Env → R (List D) := fun env => (fa env).bind fun x => match x with
  | .list ds => .ret (enumD ds)
  | .tuple ds => .ret (enumD ds)
  | _ => .bad
def zipF (fa fb : Env → R D) : Env → R (List D) := fun env => (fa env).bind fun x => (fb env).bind fun y => match x, y with
  | .list ds, .list es => .ret (zipD ds es)
  | .tuple ds, .tuple es => .ret (zipD ds es)
  | _, _ => .bad
def revRI (fa : Env → R D) : Env → R (List D) := fun env => (fa env).bind fun x => (asI x).bind fun j => guard' (rngOk 0 j) (.ret (rngD 0 j).reverse)
def gDivmod (xs : List D) : R D := match xs with
  | [.int i, .int j] => guard' (decide (0 < j ∧ j < 1073741824)) (.ret (.tuple [.int (i / j), .int (i % j)]))
  | _ => .bad
section
variable {X : Cx} {c : Base} {W : WX} {w w' w1 w2 : Wd} {σ : L2.St} {env : Env} {tg iter e a b d : Expr} {fa fb fc : Env → R D} {ft fu : Env → R Bool} {fr fi : Env → R (List D)} {pos p pos2 : Pos} {st : Stmt} {es : List Expr} {rest : List Stmt} {f g : Env → R Out} {x : Str} {ds : List D}
theorem enumD_at {ds : List D} {i : Nat} {d : D} (h : (enumD ds)[i]? = some d) : ∃ y, ds[i]? = some y ∧ d = .tuple [.int (i : Nat), y] := by
  unfold enumD at h
  rw [List.getElem?_mapIdx] at h
  cases e : ds[i]? with
  | none => rw [e] at h; cases h
  | some y => rw [e] at h; cases h; exact ⟨y, rfl, rfl⟩
theorem enum_len {ds : List D} : (enumD ds).length = ds.length := by unfold enumD; rw [List.length_mapIdx]
theorem enum_yld {w' : Wd} (k : WOk c w') {i : Nat} {T : Addr} {v : V} {y : D} {ob : Obj} (hT : w'.H T = none) (hob : ob.dict = none) (r : RpW c w' v y) :
    ∃ w2, w2.H = upd w'.H T (.frz ob (.tup [.int (i : Nat), v])) ∧ w2.fu = w'.fu ∧ Grow c w' w2 ∧ RpW c w2 (.ref T) (.tuple [.int (i : Nat), y]) := by
  have g := Grow.new (o := .frz ob (.tup [.int (i : Nat), v])) k hT
  exact ⟨{ w' with H := upd w'.H T (.frz ob (.tup [.int (i : Nat), v])) }, rfl, rfl, g, .tup (sqN_new k hT hob) ((g.le k).rpAll (.cons (.int _) (.cons r .nil)))⟩
theorem itd_enumL {a : Addr} {xs : List V} (h : SqLt c.K (c.vis w) a xs) (r : RpsW c w xs ds) : ItD c (IteL c.K a) w (enumD ds) := by
  refine ⟨fun w' i le k hi => ?_, fun w' i x H2 le k hy d hd => ?_, fun w' i le k hi => ?_⟩
  · rw [enum_len] at hi
    obtain ⟨v, e, _⟩ := r.at' (List.getElem?_eq_getElem hi)
    exact ⟨xs, v, sqL_vis (sqLt_mono le.ex h).sqL, e⟩
  · obtain ⟨T, v', ob, rfl, hT, hob, e1, e2⟩ := hy
    obtain ⟨y, hy, rfl⟩ := enumD_at hd
    obtain ⟨v, e, rv⟩ := r.at' hy
    have e3 := e2 xs (sqL_vis (sqLt_mono le.ex h).sqL)
    rw [e] at e3
    cases e3
    obtain ⟨w2, q1, q2, q3, q4⟩ := enum_yld (i := i) k hT hob (le.rp rv)
    exact ⟨w2, by rw [q1, e1], q2, q3, q4⟩
  · exact ⟨xs, sqL_vis (sqLt_mono le.ex h).sqL, by rw [enum_len] at hi; rw [r.len]; omega⟩
theorem itd_enumT {a : Addr} {xs : List V} (h : SqT c.K (c.vis w) a xs) (r : RpsW c w xs ds) : ItD c (IteT c.K a) w (enumD ds) := by
  refine ⟨fun w' i le k hi => ?_, fun w' i x H2 le k hy d hd => ?_, fun w' i le k hi => ?_⟩
  · rw [enum_len] at hi
    obtain ⟨v, e, _⟩ := r.at' (List.getElem?_eq_getElem hi)
    exact ⟨xs, v, sqT_vis (sqT_mono le.ex h), e⟩
  · obtain ⟨T, v', ob, rfl, hT, hob, e1, e2⟩ := hy
    obtain ⟨y, hy, rfl⟩ := enumD_at hd
    obtain ⟨v, e, rv⟩ := r.at' hy
    have e3 := e2 xs (sqT_vis (sqT_mono le.ex h))
    rw [e] at e3
    cases e3
    obtain ⟨w2, q1, q2, q3, q4⟩ := enum_yld (i := i) k hT hob (le.rp rv)
    exact ⟨w2, by rw [q1, e1], q2, q3, q4⟩
  · exact ⟨xs, sqT_vis (sqT_mono le.ex h), by rw [enum_len] at hi; rw [r.len]; omega⟩
theorem di_enum (hK : c.K = X.K) (h : PI X tg e (iEnumA X.K (liftE c W fa))) : PI X tg e (liftI c W (enumF fa)) := pi_imp h fun σ H Q ⟨w, env, a, q⟩ => by
  refine ⟨w, env, a, R.wp_mono (wp_b q) (fun fu x hx v w1 e1 g1 r1 => ?_) fun _ _ h => h⟩
  subst e1
  split at hx
  · obtain ⟨a', xs, rfl, s1, a1⟩ := r1.isLst'
    exact .inl ⟨a', xs, rfl, hK ▸ sqL_vis s1.sqL, hK ▸ hx _ w1 rfl g1 (itd_enumL s1 a1)⟩
  · obtain ⟨a', xs, rfl, s1, a1⟩ := r1.isTup
    exact .inr ⟨a', xs, rfl, hK ▸ sqT_vis s1, hK ▸ hx _ w1 rfl g1 (itd_enumT s1 a1)⟩
  · exact hx.elim
/-- tuple(x), x a list held as one's own -/
def ownTup (i : Nat) : Env → R D := fun env => match env[i]? with
  | some (some (.own es)) => .ret (.tuple es)
  | some (some (.val d)) => gTuple [d]
  | _ => .bad
theorem de_ownTup {i : Nat} (hK : c.K = X.K) (h : PE X e (tCB (rTupOf X.K) (L2.tCons (tVar i) L2.tNil))) : PE X e (liftE c W (ownTup i)) := pe_imp h fun σ H Q ⟨w, env, a, q⟩ => by
  obtain ⟨rfl⟩ := a.h
  unfold ownTup at q
  split at q
  · rename_i es he
    obtain ⟨p, vs, h1, h2, h3, h4⟩ := own_here a he
    exact ⟨.ref p, h1, p, vs, rfl, .inl ⟨.inl (.inl h3), new_tup a.ok h4 q⟩⟩
  · rename_i d hd
    obtain ⟨v, h1, h2⟩ := a.env.val _ _ hd
    exact ⟨v, h1, hK ▸ d_tuple c W σ w [d] [v] Q a.ok (.cons h2 .nil) q⟩
  · exact q.elim
end
section
variable {X : Cx} {c : Base} {W : WX} {w w' w1 w2 : Wd} {σ : L2.St} {env : Env} {tg iter e a b d : Expr} {fa fb fc : Env → R D} {ft fu : Env → R Bool} {fr fi : Env → R (List D)} {pos p pos2 : Pos} {st : Stmt} {es : List Expr} {rest : List Stmt} {f g : Env → R Out} {x : Str} {ds : List D}
/-- in, of a list held as one's own -/
def ownIn (neg : Bool) (i : Nat) (fa : Env → R D) : Env → R D := fun env => (fa env).bind fun x => match env[i]? with
  | some (some (.own es)) => guard' (SeqAt.shaped x && SeqAt.shaped (.list es)) (.ret (.bool (inB neg (es.any fun z => PyData.eqv z x))))
  | some (some (.val y)) => gInN neg x y
  | _ => .bad
/-- ==, != of a list held as one's own -/
def ownEq (neg : Bool) (i : Nat) (fb : Env → R D) : Env → R D := fun env => match env[i]? with
  | some (some (.own es)) => (fb env).bind fun y => if neg = true then gNe (.list es) y else gEq (.list es) y
  | some (some (.val x)) => (fb env).bind fun y => if neg = true then gNe x y else gEq x y
  | _ => .bad
/-- isinstance of a list held as one's own -/
def ownIsi (T : String) (i : Nat) : Env → R D := fun env => match env[i]? with
  | some (some (.own es)) => isiV T (.list es)
  | some (some (.val x)) => isiV T x
  | _ => .bad
/-- a comprehension over a list of one's own -/
def ownIt (i : Nat) : Env → R (List D) := fun env => match env[i]? with
  | some (some (.own es)) => .ret es
  | some (some (.val y)) => iterE y
  | _ => .bad
theorem liftI.toC {tg e : Expr} (h : PI X tg e (liftI c W fi)) : PI X tg e (liftIc c W fi) := pi_imp h fun σ H Q ⟨w, env, a, q⟩ => ⟨w, env, a, R.wp_mono q (fun fu ds hd J w1 e1 g1 it => hd J w1 e1 g1 it.toC) fun _ _ h => h⟩
end
def SpDL (wl : World) (K : PySem.W.Frag) (mg : Str → Option Value) (DP : Nat → Hp → List V → Prop) (n : Nat) (F : List D → R (List D)) : Sp := fun vs H Q E => vs.length = n ∧ ∃ S dk ds fu, 
  WOk ⟨wl, K, mg, DP, S, dk, H⟩ ⟨[], [], H, fu⟩ ∧ RpAll ⟨K, mg⟩ dk (hide S H) vs ds ∧ (F ds).wp fu
    (fun fu' d => ∀ p us w', w'.fu = fu' → w'.fu ≤ fu → WOk ⟨wl, K, mg, DP, S, dk, H⟩ w' → p ∈ w'.O → w'.H p = some (.lst us) → RpsW ⟨wl, K, mg, DP, S, dk, H⟩ w' us d → Q (.ref p) w'.H)
    (fun fu' er => ∀ cls dd w', w'.fu = fu' → w'.fu ≤ fu → WOk ⟨wl, K, mg, DP, S, dk, H⟩ w' → ErOk ⟨wl, K, mg, DP, S, dk, H⟩ w' cls dd er → E cls dd w'.H)
section
variable {X : Cx} {c : Base} {W : WX} {w w' w1 w2 : Wd} {σ : L2.St} {env : Env}
def backL (w w' : Wd) (p : Addr) : Wd := { O := p :: w.O, nk := w'.nk ++ w.nk, H := w'.H, fu := w'.fu }
end
section
variable {X : Cx} {c : Base} {W : WX} {k n : Nat} {f : Addr} {fd : FuncData} {ps ks : List Str} {F : List D → R (List D)} {x : Str} {p pos : Pos} {e : Expr} {es : List Expr} {kws : List Keyword} {fr fk : Env → R (List D)}
def callL (n : Nat) (F : List D → R (List D)) (fr : Env → R (List D)) : Env → R (List D) := fun env => (fr env).bind fun ds => guard' (decide (ds.length = n)) (F ds)
end
section
variable {P : Program} {w : World} {K : PySem.W.Frag} {mg : Str → Option Value} {base : Heap} {DP : Nat → Hp → List V → Prop}
end
def keyOfD : D → Option Key
  | .int i => some (.inl i)
  | .str x => some (.inr x)
  | _ => none
def pairsD : List D → Option (List (Key × D))
  | [] => some []
  | .tuple [k, v] :: r => match keyOfD k, pairsD r with
    | some k, some m => some ((k, v) :: m)
    | _, _ => none
  | _ => none
def putD (kvs : List (Key × D)) (k : Key) (v : D) : List (Key × D) := if (kvs.any fun p => decide (p.1 = k)) = true then kvs.map (fun p => if p.1 = k then (p.1, v) else p) else kvs ++ [(k, v)]
def mergeD (kvs more : List (Key × D)) : List (Key × D) := more.foldl (fun acc p => putD acc p.1 p.2) kvs
def valD (kvs : List (Key × D)) (k : Key) : Option D := (kvs.find? fun p => decide (p.1 = k)).map (·.2)
def encD (kvs : List (Key × D)) : List (D × D) := kvs.map fun p => (kD p.1, p.2)
def decD : List (D × D) → Option (List (Key × D))
  | [] => some []
  | (k, v) :: r => match keyOfD k, decD r with
    | some k, some m => some ((k, v) :: m)
    | _, _ => none
theorem keyOf_kD (k : Key) : keyOfD (kD k) = some k := by cases k <;> rfl
section
variable {K : KM} {dk : List Addr} {G : Hp}
inductive KR (K : KM) (dk : List Addr) (G : Hp) : List (Key × V) → List (Key × D) → Prop
  | nil : KR K dk G [] []
  | cons {k : Key} {v : V} {d : D} {kvs : List (Key × V)} {ds : List (Key × D)} : Rp K dk G v d → KR K dk G kvs ds → KR K dk G ((k, v) :: kvs) ((k, d) :: ds)
theorem KR.enc : ∀ {kvs : List (Key × V)} {ds : List (Key × D)}, KR K dk G kvs ds → RpKV K dk G kvs (encD ds)
  | _, _, .nil => .nil
  | _, _, .cons h r => .cons h r.enc
theorem KR.of : ∀ {kvs : List (Key × V)} {ds : List (D × D)}, RpKV K dk G kvs ds → ∃ m, decD ds = some m ∧ KR K dk G kvs m
  | _, _, .nil => ⟨[], rfl, .nil⟩
  | _, _, .cons (k := k) (d := d) (ds := ds) h r => by
    obtain ⟨m, e, r'⟩ := KR.of r
    refine ⟨(k, d) :: m, ?_, .cons h r'⟩
    show (match keyOfD (kD k), decD ds with | some k, some m => some ((k, d) :: m) | _, _ => none) = _
    rw [keyOf_kD, e]
theorem KR.any {kvs : List (Key × V)} {ds : List (Key × D)} (h : KR K dk G kvs ds) (k : Key) : (kvs.any fun p => decide (p.1 = k)) = ds.any fun p => decide (p.1 = k) := by
  induction h with
  | nil => rfl
  | cons h r ih => rw [List.any_cons, List.any_cons, ih]
theorem KR.app {kvs lvs : List (Key × V)} {ds es : List (Key × D)} (h : KR K dk G kvs ds) (h2 : KR K dk G lvs es) : KR K dk G (kvs ++ lvs) (ds ++ es) := by
  induction h with
  | nil => exact h2
  | cons h r ih => exact .cons h ih
theorem KR.over {kvs : List (Key × V)} {ds : List (Key × D)} (h : KR K dk G kvs ds) {k : Key} {v : V} {d : D} (r : Rp K dk G v d) : KR K dk G (kvs.map (fun p => if p.1 = k then (p.1, v) else p)) (ds.map (fun p => if p.1 = k then (p.1, d) else p)) := by
  induction h with
  | nil => exact .nil
  | @cons k' v' d' kvs ds h1 h2 ih =>
    rw [List.map_cons, List.map_cons]
    by_cases e : k' = k
    · rw [if_pos e, if_pos e]; exact .cons r ih
    · rw [if_neg e, if_neg e]; exact .cons h1 ih
theorem KR.put {kvs : List (Key × V)} {ds : List (Key × D)} (h : KR K dk G kvs ds) {k : Key} {v : V} {d : D} (r : Rp K dk G v d) : KR K dk G (putK kvs k v) (putD ds k d) := by
  unfold putK putD
  rw [h.any k]
  split
  · exact h.over r
  · exact h.app (.cons r .nil)
theorem KR.val {kvs : List (Key × V)} {ds : List (Key × D)} (h : KR K dk G kvs ds) (k : Key) : (valV kvs k = none ∧ valD ds k = none) ∨ ∃ v d, valV kvs k = some v ∧ valD ds k = some d ∧ Rp K dk G v d := by
  unfold valV valD
  induction h with
  | nil => exact .inl ⟨rfl, rfl⟩
  | @cons k' v' d' kvs ds h1 h2 ih =>
    by_cases e : k' = k
    · right
      refine ⟨v', d', ?_, ?_, h1⟩
      · rw [List.find?_cons_of_pos (by simpa using e)]; rfl
      · rw [List.find?_cons_of_pos (by simpa using e)]; rfl
    · rw [List.find?_cons_of_neg (by simpa using e), List.find?_cons_of_neg (by simpa using e)]
      exact ih
end
/-- d[y] -/
def gGetK (x y : D) : R D := match x with
  | .dict ds => match decD ds, keyOfD y with
    | some m, some k => match valD m k with
      | some d => .ret d
      | none => .bad
    | _, _ => .bad
  | _ => .bad
def gInK (neg : Bool) (x y : D) : R D := match y with
  | .dict ds => match decD ds, keyOfD x with
    | some m, some k => .ret (.bool (inB neg (valD m k).isSome))
    | _, _ => .bad
  | _ => .bad
/-- dict(t), t a tuple of pairs -/
def gDict (xs : List D) : R D := match xs with
  | [.tuple ps] => match pairsD ps with
    | some m => .ret (.dict (encD (mergeD [] m)))
    | none => .bad
  | _ => .bad
def rDGet : R2 := fun x y H Q => ∃ a v, x = .ref a ∧ DGet H a y (some v) ∧ Q v H
def rDIn : R2 := fun x y H Q => ∃ a o, y = .ref a ∧ DGet H a x o ∧ Q (.bl o.isSome) H
def rDNotIn : R2 := fun x y H Q => ∃ a o, y = .ref a ∧ DGet H a x o ∧ Q (.bl (!o.isSome)) H
section
variable {X : Cx}
end
section
variable {X : Cx}
def rDictN (K : PySem.W.Frag) : List V → Hp → VK → Prop := fun xs H Q => ∃ (a : Addr) (ps : List Addr) (kvs : List (Key × V)), xs = [.ref a] ∧ SqN K H a (ps.map V.ref) ∧ Paired (fun p kv => SqT K H p [kV kv.1, kv.2]) ps kvs ∧
  ∀ p od, H p = none → Q (.ref p) (upd H p (.frz od (.dK (mergeK [] kvs))))
theorem seqN_at {pins : List (Addr × Obj)} {σ : L2.St} {H : Hp} {s : Shared} {a : Addr} {xs : List V} (I : Inv X pins σ H s) (h : SqN X.K H a xs) : ∃ (o : Obj) (its : List Value) (n : Nat), s.heap.get? a = some o ∧ o.cls = .type "tuple" ∧ o.dict = none ∧ o.data = .seq its.toArray n ∧ xs.length ≤ sizeLine ∧ Vals xs its := by
  rcases h with ⟨o, h, hd⟩ | ⟨o, its, n, h1, h2, h3, h4, h5, h6⟩
  · obtain ⟨ho, hz, its, rv, o', ho', hc, n, hdat⟩ := (show ObjOk X.prog X.w H s.heap a (.frz o (.tup xs)) from I.hok a _ h)
    rw [ho] at ho'
    cases ho'
    exact ⟨o, its, n, ho, hc, hd, hdat, hz, rv⟩
  · exact ⟨o, its.toList, n, I.kIn a o h1, h2, h3, by simpa using h4, by rw [h6.length]; simpa using h5, h6⟩
end
end DL
namespace J
open PySem PySem.Spec PyProof.Rows L2
section
variable {prog : Program} {w : World} {A : Around} {s : Shared} {E : Value → Shared → Prop}
end
/-- t[::-1] of a tuple -/
def RevB (K : PySem.W.Frag) (x : V) (H : Hp) (Q : VK) : Prop := ∃ a xs, x = .ref a ∧ SqT K H a xs ∧ ∀ p, H p = none → Q (.ref p) (upd H p (.tup xs.reverse))
def tRevT (K : PySem.W.Frag) (te : TE) : TE := fun σ H Q => te σ H fun x H1 => RevB K x H1 Q
/-- divmod, slices of texts -/
def rDivmod : List V → Hp → VK → Prop := fun xs H Q => ∃ i j, xs = [.int i, .int j] ∧ CDiv i j ∧ ∀ p, H p = none → Q (.ref p) (upd H p (.tup [.int (i / j), .int (i % j)]))
def LRg (x y : V) (H : Hp) (Q : VK) : Prop := ∃ i j, x = .int i ∧ y = .int j ∧ RgOk i j ∧ ∀ q, H q = none → Q (.ref q) (upd H q (.lst (rgV i j)))
end J
namespace DL
open PySem PySem.Spec PyProof.Rows L2
def RevF (K : PySem.W.Frag) (x : V) (H : Hp) (Q : VK) : Prop := ∃ a xs, x = .ref a ∧ SqT K H a xs ∧ ∀ p o, H p = none → o.dict = none → Q (.ref p) (upd H p (.frz o (.tup xs.reverse)))
def gRevT (x : D) : R D := match x with
  | .tuple ds => .ret (.tuple ds.reverse)
  | _ => .bad
section
variable {X : Cx}
def rRng1 : List V → Hp → VK → Prop := fun vs H Q => ∃ j, vs = [V.int j] ∧ ∀ p, H p = none → Q (.ref p) (upd H p (.rng 0 j))
def rInRng (n : Bool) : R2 := fun x y H Q => ∃ i a lo hi, x = V.int i ∧ y = V.ref a ∧ H a = some (.rng lo hi) ∧ Q (.bl (n ^^ decide (lo ≤ i ∧ i < hi))) H
end
def gInR (n : Bool) (x y : D) : R D := match x, y with
  | .int i, .int j => .ret (.bool (n ^^ decide (0 ≤ i ∧ i < j)))
  | _, _ => .bad
section
variable {X : Cx} {c : Base} {W : WX} {w w' w1 w2 : Wd} {σ : L2.St} {env : Env} {a b d : Expr} {fa fb fc : Env → R D}
end
section
variable {env : Env} {fu : Nat} {E : Nat → Er → Prop} {QD : Nat → D → Prop} {i j : Int}
end
end DL
namespace PySem.W
open PySem Sem PyProof.Rows
section
variable {prog : Program} {w : World} {A : Around} {E : Value → Shared → Prop} {s : Shared} {β : Type} {vs : List Value} {bs : List β} {enc : β → PyData} {R : Value → β → Prop}
end
end PySem.W
namespace DL
open PySem PySem.Spec PyProof.Rows L2
def rSortT (K : PySem.W.Frag) : List V → Hp → VK → Prop := fun vs H Q => ∃ (a : Addr) (xs : List V) (ds : List D), vs = [V.ref a] ∧ SqT K H a xs ∧ DpAll K H xs ds ∧ PyData.canLayAll0 ds = true ∧ PySem.W.AllAlike ds ∧ PySem.W.Sortable ds ∧ ds.length ≤ sizeLine ∧ (∀ d ∈ ds, d.depth ≤ 60) ∧
  ∀ ys p, PySem.W.EachIs (fun v d => (v, d) ∈ xs.zip ds) ys (ds.mergeSort (PySem.W.dataLe false id)) → H p = none → Q (.ref p) (upd H p (.lst ys))
def rSortB (K : PySem.W.Frag) : List V → Hp → VK → Prop := fun vs H Q => rSortU K vs H Q ∨ rSortT K vs H Q
def sortG (f : Env → R D) : Env → R (List D) := fun env => (f env).bind fun x => match x with
  | .list ds => guard' (sortOk ds) (.ret (sortD ds))
  | .tuple ds => guard' (sortOk ds) (.ret (sortD ds))
  | _ => .bad
section
variable {X : Cx} {c : Base} {W : WX} {w w' w1 w2 : Wd} {σ : L2.St} {env : Env} {e a b d : Expr} {fa fb fc : Env → R D}
end
def IzF (K : PySem.W.Frag) (a b : Addr) : It := ⟨(RZ.ItzT K a b).go,
  fun i H v H' => ∃ (T : Addr) (ob : Obj) (x y : V), v = .ref T ∧ H T = none ∧ ob.dict = none ∧ H' = upd H T (.frz ob (.tup [x, y])) ∧ (∀ l, SqT K H a l → l[i]? = some x) ∧ ∀ l, SqT K H b l → l[i]? = some y, (RZ.ItzT K a b).stop⟩
def iZipF (K : PySem.W.Frag) (ta : TA) : TI := fun σ H R => ta σ H fun vs H1 => ∃ a b xs ys, vs = [.ref a, .ref b] ∧ SqT K H1 a xs ∧ SqT K H1 b ys ∧ R (IzF K a b) H1
def zipG (fr : Env → R (List D)) : Env → R (List D) := fun env => (fr env).bind fun xs => match xs with
  | [.tuple ds, .tuple es] => .ret (zipD ds es)
  | _ => .bad
section
variable {X : Cx} {c : Base} {W : WX} {w w' w1 w2 : Wd} {σ : L2.St} {env : Env} {e a b d : Expr} {tg : Expr} {fr : Env → R (List D)} {ds es : List D} {xs ys : List V}
end
end DL
namespace PySem
open Sem (wp)
open PyProof.Rows
section
variable {prog : Program} {w : World} {A : Around} {E : Value → Shared → Prop} {s : Shared}
/-- an enumerator whose last tuple is kept elsewhere -/
def KeptEnum (h : Heap) (e it : Addr) (i : Int) : Prop := ∃ (a : Addr) (b : Bool) (x : Value) (o : Obj),
  h.get? e = some { cls := .type "enumerate", dict := none, data := .fields #[rawInt a, .bool b, .ref it, rawInt i, .none, x], slots := #[] } ∧ h.get? a = some o ∧ a ≠ e ∧ a ≠ it
def EnAt (h : Heap) (e it : Addr) (i : Int) : Prop := (∃ old, IsEnum h e it i old) ∨ KeptEnum h e it i
end
end PySem
namespace DL
open PySem PySem.Spec PyProof.Rows L2
section
variable {X : Cx} {pins : List (Addr × Obj)} {σ : L2.St} {H : Hp} {s : Shared} {A1 : Around} {a e it S : Addr} {xs : List V}
/-- the list at S filled by the enumerator's pairs -/
def FillsT (K : PySem.W.Frag) (a S : Addr) (xs : List V) (P : Nat → List V → Hp → Prop) : Prop :=
  (∀ i acc H, P i acc H → SqT K H a xs ∧ H S = some (.lst acc) ∧ acc.length = i) ∧
  ∀ i acc H x T ob, P i acc H → xs[i]? = some x → H T = none → ob.dict = none → P (i + 1) (acc ++ [.ref T]) (upd (upd H T (.frz ob (.tup [.int (i : Nat), x]))) S (.lst (acc ++ [.ref T])))
def tEnumL (K : PySem.W.Frag) (te : TE) : TE := fun σ H Q => te σ H fun x H1 => ∃ a xs, x = .ref a ∧ SqT K H1 a xs ∧ ∀ S, H1 S = none → ∃ P : Nat → List V → Hp → Prop, FillsT K a S xs P ∧ P 0 [] (upd H1 S (.lst [])) ∧ ∀ acc H2, P xs.length acc H2 → Q (.ref S) H2
end
def enumLF (fa : Env → R D) : Env → R (List D) := fun env => (fa env).bind fun x => match x with
  | .tuple ds => .ret (enumD ds)
  | _ => .bad
section
variable {X : Cx} {c : Base} {W : WX} {w w' w1 w2 : Wd} {σ : L2.St} {env : Env} {e a b d : Expr} {fa fb fc : Env → R D}
end
section
variable {env : Env} {fu : Nat} {E : Nat → Er → Prop} {QL : Nat → List D → Prop} {fa : Env → R D}
end
section
variable {X : Cx} {c : Base} {W : WX} {w w' w1 w2 : Wd} {σ : L2.St} {env : Env} {e a b d : Expr} {tg : Expr} {fa fb fc : Env → R D}
end
def tRevL (K : PySem.W.Frag) (te : TE) : TE := fun σ H Q => te σ H fun x H1 => ∃ a xs, x = .ref a ∧ SqL K H1 a xs ∧ ∀ p, H1 p = none → Q (.ref p) (upd H1 p (.lst xs.reverse))
theorem pe_revLst {X : Cx} {e : Expr} {te : TE} {k : Nat} {p1 p2 p3 pos : Pos} (he : PE X e te) : PE X (.Subscript e (.Slice none none (some (.UnaryOp .USub (.Constant (.int 1) k p1) p2)) p3) pos) (tRevL X.K te) := by
  refine ⟨fun pins s σ H Q I h => Subscript_ (thn (he.run pins s σ H _ I h) fun v s1 ⟨x, H1, I1, r1, q1⟩ => ?_)⟩
  obtain ⟨a, xs, rfl, hx, q⟩ := q1
  cases r1
  have step1 : PO X (some (.UnaryOp .USub (.Constant (.int 1) k p1) p2)) (tPart (tUn (rU fun i => .int (-i)) (tC (.int 1)))) := po_some (pe_un un_neg pe_int)
  refine wpAny_Slice (thn (po_none.run pins s1 σ H1 (fun o G => o = none ∧ G = H1) I1 ⟨rfl, rfl⟩) fun vl s2 ⟨l, G2, I2, pl, el, g2⟩ => ?_)
  subst el g2
  refine thn (po_none.run pins s2 σ G2 (fun o G => o = none ∧ G = G2) I2 ⟨rfl, rfl⟩) fun vu s3 ⟨u, G3, I3, pu, eu, g3⟩ => ?_
  subst eu g3
  refine thn (step1.run pins s3 σ G3 (fun o G => o = some (-1) ∧ G = G3) I3 ⟨1, rfl, -1, rfl, rfl, rfl⟩) fun vs s4 ⟨o, G4, I4, ps, eo, g4⟩ => ?_
  subst eo g4
  have I5 : Inv X pins σ G4 { s4 with heap := s4.heap.push { cls := .type "slice", data := .fields #[vl, vu, vs] } } := I4.kept (t' := s4.toks) fun b ob z => Heap.get?_push_of_some _ z
  obtain ⟨its, r, ht, hz⟩ := I5.list hx
  have hlen := r.length
  show wpAny (model X.prog X.w) X.A (subscriptTail e (.Slice none none (some (.UnaryOp .USub (.Constant (.int 1) k p1) p2)) p3) (.ref a) (.ref s4.heap.objs.size)) (EP X pins σ Q) X.xe { s4 with heap := s4.heap.push { cls := .type "slice", data := .fields #[vl, vu, vs] } }
  refine tail_any (ops := [.ref a, .ref s4.heap.objs.size]) ht.isList.typeIs PySem.F.slot_list_getitem.lookup ?_ (by with_unfolding_all rfl)
  refine wpAny_getItem_list_slice ht.isList (Heap.IsSliceOf.new _ vl vu vs) pl pu ps (by decide) ?_ (by rw [List.size_toArray]; omega)
  rw [PySem.W.krv_pick]
  exact ⟨.ref _, _, I5.lnew (t' := s4.toks) (its := its.reverse) r.reverse (by rw [List.length_reverse]; omega), rfl, q _ (I5.hok.fresh (Nat.le_refl _))⟩
def ownRev (i : Nat) : Env → R (List D) := fun env => match env[i]? with
  | some (some (.own es)) => .ret es.reverse
  | _ => .bad
section
variable {X : Cx} {c : Base} {W : WX} {w w' w1 w2 : Wd} {σ : L2.St} {env : Env} {e a b d : Expr} {fa fb fc : Env → R D}
end
def rGtT (K : PySem.W.Frag) : R2 := fun x y H Q => ∃ (a b : Addr) (ns ms : List Int), x = .ref a ∧ y = .ref b ∧ SqT K H a (ns.map V.int) ∧ SqT K H b (ms.map V.int) ∧ Q (.bl (HT.lexLt ms ns)) H
def gGtA (x y : D) : R D := match x, y with
  | .int i, .int j => .ret (.bool (decide (j < i)))
  | .tuple a, .tuple b => tupLt b a
  | _, _ => .bad
def rGtAll (K : PySem.W.Frag) : R2 := orR (rI0 fun i j => .bl (decide (j < i))) (rGtT K)
def rSumT (K : PySem.W.Frag) : List V → Hp → VK → Prop := fun vs H Q => ∃ (a : Addr) (ns : List Int), vs = [V.ref a] ∧ SqT K H a (ns.map V.int) ∧ Q (.int ns.sum) H
def rSumA (K : PySem.W.Frag) : List V → Hp → VK → Prop := fun vs H Q => rSum K vs H Q ∨ rSumT K vs H Q
def gSumA (xs : List D) : R D := match xs with
  | [.tuple ds] => match intsOf ds with
    | some ns => .ret (.int ns.sum)
    | none => .bad
  | _ => gSum xs
def gIsNotA (x y : D) : R D := match x, y with
  | x, .none => .ret (.bool (!isNonD x))
  | .bool a, .bool b => .ret (.bool (!decide (a = b)))
  | _, _ => .bad
def rNotBl : R2 := fun x y H Q => ∃ a b, x = .bl a ∧ y = .bl b ∧ Q (.bl (!decide (a = b))) H
theorem op_isNotA {X : Cx} : OpR X (compareOp .IsNot) (orR rNotNn rNotBl) := OpR.or op_notN op_isnot_bl
theorem d_isNotA : OpD (orR rNotNn rNotBl) gIsNotA := fun c W σ w x y v u Q k r1 r2 h => by
  cases y with
  | none =>
    have h' : (R.ret (PyData.bool (!isNonD x))).wp w.fu (PQ c w Q) (EK c W σ w) := by
      cases x <;> exact h
    refine .inl ⟨r2.isNon, ?_⟩
    rw [isNon_v r1]
    exact PQ.here k h' (.bl _)
  | bool b =>
    cases x with
    | bool a => exact .inr ⟨_, _, r1.isBl, r2.isBl, PQ.here k h (.bl _)⟩
    | _ => exact h.elim
  | _ => cases x <;> exact h.elim
section
variable {X : Cx} {ps : List (Addr × Obj)} {τ : L2.St} {G : Hp} {z : Shared}
/-- an object of ours, not tracked till now, is an error from now on -/
theorem track_exc (J : Inv X ps τ G z) {e : Addr} {ob : Obj} {fs : Array Value} {k : Value} (free : G e = none) (at_ : z.heap.get? e = some ob) (cl : Zc k none ob) (fd : ob.data = .fields fs)
    (old : X.s_0.heap.get? e = none) (nl : e ≠ X.env.locals) (np : ∀ q ∈ X.pn ++ ps, q.1 ≠ e) : Inv X ps τ (upd G e (EXO k e)) z := by
  have up : ∀ b u, G b = some u → upd G e (EXO k e) b = some u := fun b u h => by
    rw [upd_ne (ne_of_none h free)]
    exact h
  have un : ∀ b, b ≠ e → G b = none → upd G e (EXO k e) b = none := fun b h h2 => by
    rw [upd_ne h]
    exact h2
  refine ⟨J.ok, J.os, J.bare, ⟨J.base.keep, J.base.slot, fun b u h1 h2 h3 => un b (fun w => ?_) (J.base.free b u h1 h2 h3), J.base.there, fun b xs h => up _ _ (J.base.tups b xs h), fun b u xs h => up _ _ (J.base.frzs b u xs h), fun b xs h => ?_⟩,
    J.loc, J.cell, un _ nl.symm J.free, fun x c h => un c (fun w => ?_) (J.freeC x c h), fun q hq => ?_, ?_, J.len⟩
  · rw [w, old] at h1
    cases h1
  · obtain ⟨more, h2⟩ := J.base.tbls b xs h
    exact ⟨more, up _ _ h2⟩
  · obtain ⟨v, o, h2, h3⟩ := J.cell x c h
    rw [w, at_] at h2
    cases h2
    rw [fd] at h3
    cases h3
  · obtain ⟨h1, h2, h3⟩ := J.pin q hq
    exact ⟨h1, un _ (np q hq) h2, h3⟩
  · exact J.hok.laidN (fun _ _ h => h) free ⟨⟨ob, fs, at_, cl, fd⟩, ⟨ob, at_⟩, fun h1 h2 ⟨o, v, q, r⟩ kk => ⟨o, v, kk o q, r⟩⟩
/-- the clause 'except C as n: m = n' -/
def wKeep (K : PySem.W.Frag) (c : Value) (i m : Nat) (Wout : WX) (Dn : Ends) : WX := fun cls d τ G =>
  ∃ b, PySem.W.exmOne K cls c = some b ∧ (b = true → d = none ∧ ∀ e, G e = none → Dn.nx (((τ.set i (some (.ref e))).set m (some (.ref e))).set i none) (upd G e (EXO cls e))) ∧ (b = false → Wout cls d τ G)
variable {cx n : Str} {c : Value} {i m : Nat} {body suite : List Stmt} {st₀ : Stmt} {q1 q2 pos : Pos} {tb : WX → TS} {Wout : WX}
end
/-- try: body / except C as n: m = n -/
def keepIn (i m : Nat) (e : Env) (er : Er) : R Out := match er.fs with
  | [] => .ret (.nx (((e.set i none).set m (some (.val (excD er.cls)))).set i none))
  | _ => .bad
def tryE (fb : Env → R Out) (t : Str → Option Bool) (i m : Nat) : Env → R Out := fun env => (fb env).bind fun o => match o with
  | .ex e er => match t er.cls with
    | some true => keepIn i m e er
    | some false => .ret (.ex e er)
    | none => .bad
  | o => .ret o
section
variable {X : Cx} {c : Base} {W : WX} {w w' w1 w2 : Wd} {σ : L2.St} {env : Env} {e a b d : Expr} {fa fb fc : Env → R D} {ft fu : Env → R Bool} {fr fi : Env → R (List D)} {pos p pos2 : Pos} {st : Stmt} {rest : List Stmt} {f g : Env → R Out}
theorem Rp.isExc {K : KM} {dk : List Addr} {G : Hp} {v : V} {x : Str} (h : Rp K dk G v (excD x)) : ∃ a cls, v = .ref a ∧ K.mg x = some cls ∧ G a = some (EXO cls a) := by
  generalize hd : excD x = d at h
  cases h with
  | exc h1 h2 =>
    unfold excD at hd
    injection hd with hd
    injection hd with h3 h4
    injection h3 with h5 h6
    injection h5 with h7
    injection h7 with h8 h9
    injection h8 with h10
    subst h10
    exact ⟨_, _, rfl, h1, h2⟩
  | rng _ =>
    unfold excD rgD at hd
    injection hd with hd
    injection hd with h1 h2
    injection h1 with h3 h4
    cases h4
  | deck h =>
    unfold excD deckD at hd
    injection hd with hd
    injection hd with h1 h2
    injection h1 with h3 h4
    cases h4
  | scr h =>
    unfold excD scrD at hd
    injection hd with hd
    injection hd with h1 h2
    injection h1 with h3 h4
    cases h4
  | dct h r =>
    unfold excD at hd
    cases r with
    | nil => cases hd
    | @cons k v kvs d ds h1 h2 =>
      injection hd with hd
      injection hd with h3 h4
      injection h3 with h5 h6
      cases k <;> cases h5
  | _ => cases hd
def rIsX (K : PySem.W.Frag) : List V → Hp → VK → Prop := fun xs H Q => ∃ (a D : Addr) (y : V) (cv : Value) (b : Bool), xs = [.ref a, y] ∧ (∀ u, RelV y u → u = cv) ∧ H a = some (EXO (.ref D) a) ∧ ExcC K D ∧ PySem.W.kitOne K (.ref D) cv = some b ∧ Q (.bl b) H
theorem c_isX : CallR X (.builtin "isinstance") (rIsX X.K) := by
  intro pins s σ H xs us Q I r h
  obtain ⟨a, D, y, cv, b, rfl, hcv, ha, C, e, q⟩ := h
  cases r with
  | cons rx rr =>
    cases rr with
    | cons rt rr =>
      cases rr
      cases rx
      have ec := hcv _ rt
      subst ec
      obtain ⟨⟨oe, vs, hget, hz, hd⟩, _, _⟩ := I.hok a _ ha
      have J : PySem.W.InstAt s.heap a oe D none := by
        obtain ⟨o1, o2, o3, o4⟩ := oe
        obtain ⟨e1, e2⟩ := hz
        dsimp only at e1 e2 hd
        subst e1 e2 hd
        exact ⟨hget, rfl, rfl, trivial⟩
      exact PySem.W.kia_one (PySem.W.handS_kitx_exc C.hg C.hk C.hs C.hd C.ha C.hn C.ht C.hm) I.kIn J e (fun z => nomatch z) fun tk => ⟨.bl b, H, I.kept (t' := tk) fun _ _ z => z, rfl, q⟩
def excOf : D → Option Str
  | .dict [(.list [.str x], .bool false)] => some x
  | _ => none
theorem excOf_eq {d : D} {x : Str} (h : excOf d = some x) : d = excD x := by
  unfold excOf at h
  split at h
  · cases h; rfl
  · cases h
def isiX (t : Str → Option Bool) (d : D) : R D := match excOf d with
  | some x => match t x with
    | some b => .ret (.bool b)
    | none => .bad
  | none => .bad
def isiE (t : Str → Option Bool) (fa : Env → R D) : Env → R D := fun env => (fa env).bind (isiX t)
theorem de_isiE {t : Str → Option Bool} {y : V} {cv : Value} (hK : c.K = X.K) (hC : ∀ n b cls, t n = some b → c.mg n = some cls → ∃ D, cls = .ref D ∧ ExcC X.K D ∧ PySem.W.kitOne X.K (.ref D) cv = some b) (hv : ∀ u, RelV y u → u = cv)
    (h : PE X e (tCB (rIsX X.K) (L2.tCons (liftE c W fa) (L2.tCons (tC y) L2.tNil)))) : PE X e (liftE c W (isiE t fa)) := pe_imp h fun σ H Q ⟨w, env, a, q⟩ => step a q fun x v w1 g1 r1 q1 => by
  unfold isiX at q1
  split at q1
  · rename_i x e
    have e := excOf_eq e
    subst e
    split at q1
    · rename_i b hb
      obtain ⟨a, cls, rfl, h1, h2⟩ := Rp.isExc r1
      obtain ⟨D, rfl, h3, h4⟩ := hC _ _ _ hb h1
      exact ⟨a, D, y, cv, b, rfl, hv, vis_sub h2, h3, h4, PQ.here g1.ok q1 (.bl b)⟩
    · exact q1.elim
  · exact q1.elim
def extS (i : Nat) (fl : Env → R (List D)) : Env → R Out := fun env => match env[i]? with
  | some (some (.own es)) => exS fl (fun ds env => guard' (decide (es.length + ds.length ≤ 16777216)) (.ret (.nx (env.set i (some (.own (es ++ ds))))))) env
  | _ => .bad
end
section
variable {K : PySem.W.Frag} {A C : Addr} {b : Bool}
theorem kit_same : PySem.W.kitOne K (.ref A) (.ref A) = some true := by
  unfold PySem.W.kitOne
  rw [if_pos (by simp)]
theorem kit_own (hne : (Value.ref A == Value.ref C) = false) (hd : PySem.W.hasDictIn K C = true) (ht : PySem.W.typeIn K (.ref C) = some (.type "type")) (hs : PySem.W.subIn K (.ref A) (.ref C) = some b) : PySem.W.kitOne K (.ref A) (.ref C) = some b := by
  obtain ⟨cd, hc, _⟩ := PySem.W.any_some hd
  unfold PySem.W.kitOne PySem.W.kitCls
  rw [hne, if_neg (by decide)]
  show (if ((PySem.W.clsIn K C).isSome && PySem.W.typeIn K (.ref C) == some (.type "type")) = true then PySem.W.subIn K (.ref A) (.ref C) else none) = some b
  rw [if_pos (by rw [hc, ht]; rfl)]
  exact hs
end
def repS (z : Str) (k : Nat) : Str := ⟨(List.replicate k z.cps).foldl (fun x y => x ++ y) #[]⟩
def rRepS : R2 := fun x y H Q => ∃ (z : Str) (k : Int), x = .str z ∧ y = .int k ∧ 2 ≤ k ∧ k ≤ 1000 ∧ 1 ≤ z.length ∧ z.length ≤ 1000 ∧ Q (.str (repS z k.toNat)) H
def gMulS (x y : D) : R D := match x, y with
  | .str z, .int k => guard' (decide (2 ≤ k ∧ k ≤ 1000 ∧ 1 ≤ z.length ∧ z.length ≤ 1000)) (.ret (.str (repS z k.toNat)))
  | _, _ => .bad
def SetIO (w : World) (a : Addr) (S : Int → Bool) (n : Nat) : HO := .ext fun h => SetR w h a S n
def insU (i : Int) : List Int → List Int
  | [] => [i]
  | j :: r => if i < j then i :: j :: r else if i = j then j :: r else j :: insU i r
def usort : List Int → List Int
  | [] => []
  | i :: r => insU i (usort r)
section
variable {X : Cx}
def rSetI (K : PySem.W.Frag) (w : World) : List V → Hp → VK → Prop := fun xs H Q => ∃ (p : Addr) (ns : List Int), xs = [V.ref p] ∧ SqT K H p (ns.map V.int) ∧ ns.length ≤ 1000 ∧
  ∀ (a : Addr) (S : Int → Bool) (n : Nat), H a = none → (∀ k, S k = decide (k ∈ ns)) → n ≤ ns.length → Q (.ref a) (upd H a (SetIO w a S n))
def rSortSetI (w : World) : List V → Hp → VK → Prop := fun xs H Q => ∃ (a : Addr) (S : Int → Bool) (n : Nat), xs = [V.ref a] ∧ H a = some (SetIO w a S n) ∧ n < 64 ∧
  ∀ (p : Addr) (out : List Int), H p = none → out.Pairwise (· < ·) → (∀ k, k ∈ out ↔ S k = true) → Q (.ref p) (upd H p (.lst (out.map V.int)))
end
def setIntsD (x : D) : R (List Int) := match x with
  | .tuple ds => match intsOf ds with
    | some ns => guard' (decide (ns.length < 64)) (.ret ns)
    | none => .bad
  | _ => .bad
/-- sorted(set(x)), x a tuple of few ints -/
def sortSetF (fa : Env → R D) : Env → R (List D) := fun env => (fa env).bind fun x => (setIntsD x).bind fun ns => .ret ((usort ns).map PyData.int)
section
variable {X : Cx} {c : Base} {W : WX} {w w' w1 w2 : Wd} {σ : L2.St} {env : Env} {e a b d : Expr} {fa fb fc : Env → R D}
end
/-- a set just laid -/
def newSet (w : World) : Obj := { cls := .type "set", dict := none, data := .set #[] 0 (.fresh 0 0 (!w.params.followText "set-order")) }
section
variable {P : Program} {w : World} {A : Around} {E : Value → Shared → Prop} {z : Shared}
end
section
variable {X : Cx}
def rSetLI (K : PySem.W.Frag) (w : World) : List V → Hp → VK → Prop := fun xs H Q => ∃ (p : Addr) (ns : List Int), xs = [V.ref p] ∧ SqL K H p (ns.map V.int) ∧ ns.length ≤ 1000 ∧
  ∀ (a : Addr) (S : Int → Bool) (n : Nat), H a = none → (∀ k, S k = decide (k ∈ ns)) → n ≤ (usort ns).length → Q (.ref a) (upd H a (SetIO w a S n))
def setIntsL (x : D) : R (List Int) := match x with
  | .list ds => match intsOf ds with
    | some ns => guard' (decide (ns.length ≤ 1000 ∧ (usort ns).length < 64)) (.ret ns)
    | none => .bad
  | _ => .bad
/-- sorted(set(x)), x a list of ints of which few are unlike -/
def sortSetL (fa : Env → R D) : Env → R (List D) := fun env => (fa env).bind fun x => (setIntsL x).bind fun ns => .ret ((usort ns).map PyData.int)
variable {c : Base} {W : WX} {w w' w1 w2 : Wd} {σ : L2.St} {env : Env} {e a b d : Expr} {fa fb fc : Env → R D}
end
/-- without the lists held as one's own -/
def hideO (env : Env) : Env := env.map fun x => match x with
  | some (.val d) => some (.val d)
  | _ => none
def compL2 (body : D → R (List D)) : List D → R (List D)
  | [] => .ret []
  | x :: xs => (body x).bind fun a => (compL2 body xs).bind fun r => .ret (a ++ r)
def inner2 (tg1 : D → Env → R Env) (ft1 : Env → R Bool) (fe : Env → R D) (vs1 : List Nat) (e : Env) : D → R (Option D) := fun d => (tg1 d (wipeE (hideO e) vs1)).bind fun e1 => (ft1 e1).bind fun k => if k = true then (fe e1).bind fun y => .ret (some y) else .ret none
def outer2 (tg : D → Env → R Env) (ft : Env → R Bool) (fi1 : Env → R (List D)) (tg1 : D → Env → R Env) (ft1 : Env → R Bool) (fe : Env → R D) (vs vs1 : List Nat) (env : Env) : D → R (List D) := fun d => noErr ((tg d (wipeE (hideO env) vs)).bind fun e => (ft e).bind fun k =>
  if k = true then (fi1 e).bind fun ds => guard' (decide (ds.length ≤ 4000)) (compL (inner2 tg1 ft1 fe vs1 e) ds) else .ret [])
def compD2 (fi : Env → R (List D)) (tg : D → Env → R Env) (ft : Env → R Bool) (fi1 : Env → R (List D)) (tg1 : D → Env → R Env) (ft1 : Env → R Bool) (fe : Env → R D) (vs vs1 : List Nat) : Env → R (List D) := fun env => (fi env).bind fun ds => guard' (decide (ds.length ≤ 4000)) (compL2 (outer2 tg ft fi1 tg1 ft1 fe vs vs1 env) ds)
/-- the world behind w1 in which the new list at Dp is one's own -/
structure St2 (c : Base) (Os : List Addr) (Dp : Addr) (w1 w' : Wd) (us : List V) (acc : List D) : Prop where
  O : w'.O = Dp :: Os
  ok : WOk c w'
  gr : Grow c w1 { w' with O := Os }
  at_ : w'.H Dp = some (.lst us)
  rp : RpsW c w' us acc
section
variable {X : Cx} {c : Base} {W : WX} {w w' w1 w2 w3 : Wd} {σ : L2.St} {env : Env} {e a b d : Expr} {fa : Env → R D} {ft ft1 : Env → R Bool} {fi fi1 : Env → R (List D)} {Dp : Addr} {us : List V} {acc : List D}
theorem St2.le (h : St2 c w1.O Dp w1 w' us acc) (k1 : WOk c w1) (hDp : w1.H Dp = none) : LE c w1 w' := by
  have le := h.gr.le k1
  refine ⟨fun a' o e => ?_, le.dk, le.fu⟩
  obtain ⟨h1, h2⟩ := hide_some.mp (le.ex _ _ e)
  refine hide_some.mpr ⟨fun z => h1 ?_, h2⟩
  have z : a' ∈ w'.O ++ (w'.nk ++ c.S) := z
  rw [h.O] at z
  rcases List.mem_cons.mp z with z | z
  · exact absurd (vis_sub e) (by rw [z, hDp]; intro q; cases q)
  · exact z
theorem St2.grow (h : St2 c w1.O Dp w1 w' us acc) (k1 : WOk c w1) (g : Grow c w' w3) : St2 c w1.O Dp w1 w3 us acc := by
  have hDk := own_notdk h.ok (show Dp ∈ w'.O by rw [h.O]; exact List.mem_cons_self)
  have hs : ∀ x ∈ w1.O, x ∈ w'.O := fun x hx => by rw [h.O]; exact List.mem_cons_of_mem _ hx
  have gg : Grow c { w' with O := w1.O } { w3 with O := w1.O } := ⟨rfl, g.fu, g.keep, g.free, g.nk, g.ok.sub (by rw [g.O]; exact hs)⟩
  exact ⟨g.O.trans h.O, g.ok, h.gr.trans k1 gg, g.keep _ _ h.at_ hDk, (g.le h.ok).rpAll h.rp⟩
theorem St2.push (h : St2 c w1.O Dp w1 w' us acc) (hDp : w1.H Dp = none) {v : V} {y : D} (r : RpW c w' v y) : St2 c w1.O Dp w1 { w' with H := upd w'.H Dp (.lst (us ++ [v])) } (us ++ [v]) (acc ++ [y]) ∧ LE c w' { w' with H := upd w'.H Dp (.lst (us ++ [v])) } := by
  have hDO : Dp ∈ w'.O := by rw [h.O]; exact List.mem_cons_self
  have ev := vis_mut (c := c) (o := .lst (us ++ [v])) hDO
  refine ⟨⟨h.O, h.ok.mut hDO, ⟨h.gr.O, h.gr.fu, fun a' o e n => ?_, fun a' e => ?_, h.gr.nk, (h.ok.mut hDO).sub (fun x hx => by show x ∈ w'.O; rw [h.O]; exact List.mem_cons_of_mem _ hx)⟩, upd_same, ?_⟩, fun x o e => by rw [ev]; exact e, fun _ h => h, Nat.le_refl _⟩
  · show upd w'.H Dp _ a' = _
    rw [upd_ne (fun z => by rw [z, hDp] at e; cases e)]; exact h.gr.keep _ _ e n
  · by_cases z : a' = Dp
    · subst z; exact hDp
    · have e' : upd w'.H Dp (.lst (us ++ [v])) a' = none := e
      rw [upd_ne z] at e'; exact h.gr.free _ e'
  · show RpAll c.KM (c.dks w') (c.vis { w' with H := upd w'.H Dp (.lst (us ++ [v])) }) _ _
    rw [ev]
    exact h.rp.app (.cons r .nil)
/-- what is no list of one's own lasts -/
theorem EnvOk.hide (E : EnvOk c w σ env) (l : LE c w w') : EnvOk c w' σ (hideO env) := by
  have back : ∀ {i : Nat} {x : DV}, (hideO env)[i]? = some (some x) → env[i]? = some (some x) ∧ x.held = false := fun {i x} h => by
    unfold hideO at h
    rw [List.getElem?_map] at h
    cases e : env[i]? with
    | none => rw [e] at h; cases h
    | some y =>
      rw [e] at h
      cases y with
      | none => cases h
      | some y =>
        cases y with
        | val d => cases h; exact ⟨rfl, rfl⟩
        | own ds => cases h
        | dic kvs => cases h
  refine ⟨by unfold hideO; rw [List.length_map]; exact E.len, fun i d h => ?_, fun i ds h => absurd (back h).2 (by simp [DV.held]), fun i kvs h => absurd (back h).2 (by simp [DV.held]), fun i j p x y n h1 _ b1 _ _ _ => by rw [(back h1).2] at b1; cases b1⟩
  obtain ⟨v, h1, h2⟩ := E.val i d (back h).1
  exact ⟨v, h1, l.rp h2⟩
theorem tLc2_of {vs vs1 : List Nat} {g g1 : TG} {tg tg1 : D → Env → R Env} (hg : GD c vs g tg) (hg1 : GD c vs1 g1 tg1) : ∀ σ H Q, liftL c W (compD2 fi tg ft fi1 tg1 ft1 fa vs vs1) σ H Q → tLc2 (liftIc c W fi) g (liftT c (fun _ _ _ _ => False) ft) (liftI c (fun _ _ _ _ => False) fi1) g1 (liftT c (fun _ _ _ _ => False) ft1) (liftE c (fun _ _ _ _ => False) fa) vs vs1 σ H Q := fun σ H Q ⟨w, env, a, q⟩ => by
  refine ⟨w, env, a, R.wp_mono (wp_b q) (fun fu ds hd J w1 e1 gg it => ?_) fun _ _ h => h⟩
  subst e1
  obtain ⟨hl, hd⟩ := wp_guard.mp hd
  have hl := of_decide_eq_true hl
  intro Dp hDp
  generalize hbody : outer2 tg ft fi1 tg1 ft1 fa vs vs1 env = body at hd
  obtain ⟨k1, kr⟩ := Grow.asOwn (vs := []) gg.ok hDp
  have a1 := a.grow gg
  let Post : Nat → List D → Prop := fun fu ds => ∀ p vs w', w'.fu = fu → w'.O = p :: w.O → w.H p = none → w'.H p = some (.lst vs) → WOk c w' → Grow c w { w' with O := w.O } → RpsW c w' vs ds → Q (.ref p) w'.H
  -- all is well in front of the turn i
  let Inv1 : Nat → Hp → Prop := fun i H' => ∃ w' us acc, w'.H = H' ∧ St2 c w1.O Dp w1 w' us acc ∧ acc.length ≤ 4000 * i ∧ (compL2 body (ds.drop i)).wp w'.fu (fun fu r => Post fu (acc ++ r)) (EK c W σ w)
  refine ⟨fun i m H' => m = ds.length - i ∧ i ≤ ds.length ∧ Inv1 i H', ⟨ds.length, rfl, Nat.zero_le _, { O := Dp :: w1.O, nk := w1.nk, H := upd w1.H Dp (.lst []), fu := w1.fu }, [], [], rfl, ⟨rfl, k1, Grow.new (o := .lst []) gg.ok hDp, upd_same, .nil⟩, Nat.zero_le _, R.wp_mono hd (fun _ r h => h) fun _ _ h => h⟩, ?_⟩
  rintro i m H' ⟨rfl, hi, w', us, acc, rfl, S, hal, q'⟩
  have le1 := S.le gg.ok hDp
  have same1 : ∀ p ∈ w1.O, w'.H p = w1.H p := fun q hq => by
    cases e : w1.H q with
    | none => exact absurd e (gg.ok.Oh _ hq)
    | some o => exact S.gr.keep _ _ e (own_notdk gg.ok hq)
  by_cases hlt : i < ds.length
  · refine .inr ⟨it.go w' i le1 S.ok same1 hlt, Inv1 (i + 1), fun H2 h => ⟨ds.length - (i + 1), by omega, rfl, hlt, h⟩, fun x H2 hy => ?_⟩
    obtain ⟨w2, rfl, hf2, g2, r2⟩ := it.yld w' i x H2 le1 S.ok same1 hy ds[i] (List.getElem?_eq_getElem hlt)
    rw [drop_at (List.getElem?_eq_getElem hlt)] at q'
    have q3 := wp_b (show ((body ds[i]).bind fun o => (compL2 body (ds.drop (i + 1))).bind fun r => R.ret (o ++ r)).wp w'.fu (fun fu r => Post fu (acc ++ r)) (EK c W σ w) from q')
    rw [← hbody] at q3
    have q4 := noErr_wp q3
    rw [hbody, ← hf2] at q4
    have S2 := S.grow gg.ok g2
    have E2 : EnvOk c w2 (L2.wipe σ vs) (wipeE (hideO env) vs) := (a1.env.hide (le1.trans (g2.le S.ok))).wipe vs
    refine hg w2 _ _ x ds[i] _ g2.ok E2 r2 (R.wp_mono (wp_b q4) (fun fu e3 q5 ef σ3 E3 ew => ?_) fun _ _ h => h)
    subst ef
    refine ⟨ew.trans (wipe_wipe σ vs), w2, e3, ⟨rfl, g2.ok, E3⟩, R.wp_mono (wp_b q5) (fun fu kk q6 w4 ef4 g4 => ?_) fun fu er h => h.elim⟩
    subst ef4
    have S4 := S2.grow gg.ok g4
    cases kk with
    | false =>
      rw [if_neg (by decide)] at q6
      refine iteF ?_
      refine ⟨w4, us, acc, rfl, S4, by omega, ?_⟩
      exact R.wp_mono (wp_b (show ((compL2 body (ds.drop (i + 1))).bind fun r => R.ret ([] ++ r)).wp w4.fu (fun fu r => Post fu (acc ++ r)) (EK c W σ w) from q6)) (fun _ r h => h) fun _ _ h => h
    | true =>
      rw [if_pos rfl] at q6
      refine iteT ?_
      refine ⟨w4, e3, ⟨rfl, g4.ok, E3.grow g2.ok g4⟩, R.wp_mono (wp_b q6) (fun fu ds1 q7 J1 w5 e5 g5 it1 => ?_) fun fu er h => h.elim⟩
      subst e5
      obtain ⟨hl1, q7⟩ := wp_guard.mp q7
      have hl1 := of_decide_eq_true hl1
      have S5 := S4.grow gg.ok g5
      have E5 : EnvOk c w5 σ3 (hideO e3) := (E3.hide ((g4.trans g2.ok g5).le g2.ok))
      generalize hb1 : inner2 tg1 ft1 fa vs1 e3 = body1 at q7
      let Rest : List D → Nat → List D → Prop := fun acc2 fu r => (compL2 body (ds.drop (i + 1))).wp fu (fun fu r2 => Post fu (acc2 ++ r ++ r2)) (EK c W σ w)
      let Inv2 : Nat → Hp → Prop := fun j H' => ∃ w' us acc2, w'.H = H' ∧ St2 c w1.O Dp w1 w' us acc2 ∧ LE c w5 w' ∧ acc2.length ≤ 4000 * i + j ∧ (compL body1 (ds1.drop j)).wp w'.fu (Rest acc2) (fun _ _ => False)
      refine ⟨fun j k H' => k = ds1.length - j ∧ j ≤ ds1.length ∧ Inv2 j H', ⟨ds1.length, rfl, Nat.zero_le _, w5, us, acc, rfl, S5, LE.refl c w5, hal, ?_⟩, ?_⟩
      · refine R.wp_mono q7 (fun fu r h => ?_) fun _ _ h => h
        have h := wp_b (show ((compL2 body (ds.drop (i + 1))).bind fun r2 => R.ret (r ++ r2)).wp fu (fun fu r => Post fu (acc ++ r)) (EK c W σ w) from h)
        exact R.wp_mono h (fun _ r2 h => by rw [List.append_assoc]; exact h) fun _ _ h => h
      rintro j k H6 ⟨rfl, hj, w6, us6, acc6, rfl, S6, le6, hal6, q8⟩
      by_cases hjt : j < ds1.length
      · refine .inr ⟨it1.go w6 j le6 S6.ok hjt, Inv2 (j + 1), fun H2 h => ⟨ds1.length - (j + 1), by omega, rfl, hjt, h⟩, fun x1 H7 hy1 => ?_⟩
        obtain ⟨w7, rfl, hf7, g7, r7⟩ := it1.yld w6 j x1 H7 le6 S6.ok hy1 ds1[j] (List.getElem?_eq_getElem hjt)
        rw [drop_at (List.getElem?_eq_getElem hjt)] at q8
        have q9 := wp_b (show ((body1 ds1[j]).bind fun o => (compL body1 (ds1.drop (j + 1))).bind fun r => R.ret (match o with | some y => y :: r | none => r)).wp w6.fu (Rest acc6) (fun _ _ => False) from q8)
        rw [← hb1] at q9
        have q9' : ((tg1 ds1[j] (wipeE (hideO e3) vs1)).bind fun e1 => (ft1 e1).bind fun k => if k = true then (fa e1).bind fun y => R.ret (some y) else R.ret none).wp w6.fu (fun fu o => ((compL body1 (ds1.drop (j + 1))).bind fun r => R.ret (match o with | some y => y :: r | none => r)).wp fu (Rest acc6) (fun _ _ => False)) (fun _ _ => False) := by
          rw [hb1] at q9
          rw [← hb1] at q9
          exact hb1 ▸ q9
        rw [← hf7] at q9'
        have S7 := S6.grow gg.ok g7
        have le7 := le6.trans (g7.le S6.ok)
        have E7 : EnvOk c w7 (L2.wipe σ3 vs1) (wipeE (hideO e3) vs1) := EnvOk.wipe ((E3.hide (((g4.trans g2.ok g5).le g2.ok).trans le7))) vs1
        refine hg1 w7 _ _ x1 ds1[j] _ g7.ok E7 r7 (R.wp_mono (wp_b q9') (fun fu e8 q10 ef8 σ8 E8 ew8 => ?_) fun _ _ h => h)
        subst ef8
        refine ⟨ew8.trans (wipe_wipe σ3 vs1), w7, e8, ⟨rfl, g7.ok, E8⟩, R.wp_mono (wp_b q10) (fun fu k8 q11 w9 ef9 g9 => ?_) fun fu er h => h.elim⟩
        subst ef9
        have S9 := S7.grow gg.ok g9
        have le9 := le7.trans (g9.le g7.ok)
        cases k8 with
        | false =>
          rw [if_neg (by decide)] at q11
          refine iteF ?_
          refine ⟨w9, us6, acc6, rfl, S9, le9, by omega, ?_⟩
          exact R.wp_mono (wp_b (show ((compL body1 (ds1.drop (j + 1))).bind fun r => R.ret r).wp w9.fu (Rest acc6) (fun _ _ => False) from q11)) (fun _ r h => h) fun _ _ h => h
        | true =>
          rw [if_pos rfl] at q11
          refine iteT ?_
          refine ⟨w9, e8, ⟨rfl, g9.ok, E8.grow g7.ok g9⟩, R.wp_mono (wp_b q11) (fun fu y q12 v w10 ef10 g10 r10 => ?_) fun fu er h => h.elim⟩
          subst ef10
          have S10 := S9.grow gg.ok g10
          obtain ⟨S11, le11⟩ := S10.push hDp r10
          have le10 := le9.trans (g10.le g9.ok)
          have hmul : 4000 * i + 4000 ≤ 4000 * 4000 := by
            have := Nat.mul_le_mul_left 4000 (show i + 1 ≤ 4000 by omega)
            rw [Nat.mul_add, Nat.mul_one] at this
            exact this
          refine ⟨us6, S10.at_, by rw [S10.rp.len, sizeLine_eq]; omega, _, us6 ++ [v], acc6 ++ [y], rfl, S11, le10.trans le11, by rw [List.length_append]; show acc6.length + 1 ≤ _; omega, ?_⟩
          have q13 := wp_b (show ((compL body1 (ds1.drop (j + 1))).bind fun r => R.ret (y :: r)).wp w10.fu (Rest acc6) (fun _ _ => False) from q12)
          refine R.wp_mono q13 (fun _ r h => ?_) fun _ _ h => h
          have h : (compL2 body (ds.drop (i + 1))).wp _ (fun fu r2 => Post fu (acc6 ++ (y :: r) ++ r2)) (EK c W σ w) := h
          have e : ∀ r2, acc6 ++ [y] ++ r ++ r2 = acc6 ++ (y :: r) ++ r2 := fun r2 => by simp
          show (compL2 body (ds.drop (i + 1))).wp _ (fun fu r2 => Post fu (acc6 ++ [y] ++ r ++ r2)) (EK c W σ w)
          exact R.wp_mono h (fun fu r2 h => by rw [e r2]; exact h) fun _ _ h => h
      · have ej : j = ds1.length := by omega
        refine .inl ⟨it1.stop w6 j le6 S6.ok ej, w6, us6, acc6, rfl, S6, by omega, ?_⟩
        rw [List.drop_eq_nil_of_le (by omega)] at q8
        have q8 : (compL2 body (ds.drop (i + 1))).wp w6.fu (fun fu r2 => Post fu (acc6 ++ [] ++ r2)) (EK c W σ w) := q8
        rw [List.append_nil] at q8
        exact q8
  · have e : i = ds.length := by omega
    refine .inl ⟨it.stop w' i le1 S.ok same1 e, ?_⟩
    rw [List.drop_eq_nil_of_le (by omega)] at q'
    have q2 : Post w'.fu (acc ++ []) := q'
    rw [List.append_nil] at q2
    exact q2 Dp us w' rfl (by rw [S.O, gg.O]) (gg.free _ hDp) S.at_ S.ok (gg.trans a.ok (gg.O ▸ S.gr)) S.rp
end
def sameK (a b : D) : Bool := decide (nkOf a = nkOf b)
def getX (kvs : List (D × D)) (k : D) : Option D := (kvs.find? fun p => sameK p.1 k).map (·.2)
def putX (kvs : List (D × D)) (k v : D) : List (D × D) := if (kvs.any fun p => sameK p.1 k) = true then kvs.map (fun p => if sameK p.1 k = true then (p.1, v) else p) else kvs ++ [(k, v)]
def flatK (d : D) : Bool := (keyOfD d).isSome
def tupK : D → Bool
  | .tuple ds => match nkOf (.tuple ds) with
    | some k => decide (k.depth ≤ 8)
    | none => false
  | _ => false
/-- the key goes with those that are there -/
def goodK (kvs : List (D × D)) (k : D) : Bool := (flatK k && kvs.all fun p => flatK p.1) || (tupK k && kvs.all fun p => tupK p.1)
section
variable {K : KM} {dk : List Addr} {G : Hp} {X : Cx} {pins : List (Addr × Obj)} {σ : L2.St} {H : Hp} {s : Shared}
mutual
theorem Rp.nk (I : Inv X pins σ H s) (hK : K.K = X.K) (e : ∀ a o, G a = some o → H a = some o) : ∀ {v : V} {d : D} {k : NestedKey} {u : Value}, Rp K dk G v d → nkOf d = some k → RelV v u → NestedIs s.heap k u
  | _, _, _, _, .non, h, r => by cases h; cases (show _ = Value.none from r); exact .none
  | _, _, _, _, .bl b, h, r => by cases h
  | _, _, _, _, .int i, h, r => by cases h; obtain ⟨t, rfl⟩ := r; exact .int _ _
  | _, _, _, _, .str x, h, r => by cases h; obtain ⟨t, rfl⟩ := r; exact .text _ _
  | _, _, _, _, .tup (ds := ds) h q, z, r => by
    obtain rfl := (show _ = Value.ref _ from r)
    have z : (match nkAll ds with | some ks => some (NestedKey.tup ks) | none => none) = some _ := z
    split at z
    · rename_i ks e1
      cases z
      obtain ⟨o, its, n, ho, hc, hdn, hdat, hz, rv⟩ := seqN_at I (hK ▸ sqN_mono e h)
      exact .tup ho hc hdat (RpAll.nk I hK e q e1 rv)
    · cases z
  | _, _, _, _, .scr _, h, r => by cases h
  | _, _, _, _, .lst _ _, h, r => by cases h
  | _, _, _, _, .dct _ _, h, r => by cases h
  | _, _, _, _, .deck _, h, r => by cases h
  | _, _, _, _, .exc _ _, h, r => by cases h
  | _, _, _, _, .rng _, h, r => by cases h
theorem RpAll.nk (I : Inv X pins σ H s) (hK : K.K = X.K) (e : ∀ a o, G a = some o → H a = some o) : ∀ {vs : List V} {ds : List D} {ks : List NestedKey} {us : List Value}, RpAll K dk G vs ds → nkAll ds = some ks → Vals vs us → NestedAll s.heap ks us
  | _, _, _, _, .nil, h, r => by cases h; cases r; exact .nil
  | _, _, _, _, .cons (d := d) (ds := ds) h t, z, r => by
    have z : (match nkOf d, nkAll ds with | some k, some ks => some (k :: ks) | _, _ => none) = some _ := z
    split at z
    · rename_i k ks e1 e2
      cases z
      cases r with
      | cons r1 r2 => exact .cons (Rp.nk I hK e h e1 r1) (RpAll.nk I hK e t e2 r2)
    · cases z
end
end
/-- the entries as they lie -/
abbrev RelX : List (NestedKey × Addr × V) → List (NestedKey × Addr × Value) → Prop := Paired fun a b => a.1 = b.1 ∧ a.2.1 = b.2.1 ∧ RelV a.2.2 b.2.2
def storedV (xs : List (NestedKey × Addr × V)) (k : NestedKey) (b : Addr) (v : V) : List (NestedKey × Addr × V) := if (xs.any fun x => decide (x.1 = k)) = true then xs.map (fun x => if x.1 = k then (x.1, x.2.1, v) else x) else xs ++ [(k, b, v)]
theorem RelX.any {xs : List (NestedKey × Addr × V)} {vs : List (NestedKey × Addr × Value)} (r : RelX xs vs) (k : NestedKey) : (xs.any fun x => decide (x.1 = k)) = (atKey vs k).isSome := by
  induction r with
  | nil => rfl
  | @cons a b l1 l2 h t ih =>
    rw [List.any_cons, ih]
    unfold atKey
    by_cases e : b.1 = k
    · rw [List.find?_cons_of_pos (by simpa using e), h.1, e]; simp
    · rw [List.find?_cons_of_neg (by simpa using e), h.1]; simp [e]
theorem RelX.over {xs : List (NestedKey × Addr × V)} {vs : List (NestedKey × Addr × Value)} (r : RelX xs vs) (k : NestedKey) {v : V} {u : Value} (h : RelV v u) : RelX (xs.map (fun x => if x.1 = k then (x.1, x.2.1, v) else x)) (vs.map (putAt k u)) := by
  induction r with
  | nil => exact .nil
  | @cons x y l1 l2 h1 t ih =>
    rw [List.map_cons, List.map_cons]
    refine .cons ?_ ih
    unfold putAt
    by_cases e : x.1 = k
    · rw [if_pos e, if_pos (by rw [← h1.1]; exact e)]
      exact ⟨h1.1, h1.2.1, h⟩
    · rw [if_neg e, if_neg (by rw [← h1.1]; exact e)]
      exact h1
theorem RelX.back {xs : List (NestedKey × Addr × V)} {vs : List (NestedKey × Addr × Value)} (r : RelX xs vs) {x : NestedKey × Addr × Value} (hx : x ∈ vs) : ∃ y ∈ xs, y.1 = x.1 ∧ y.2.1 = x.2.1 := by
  induction r with
  | nil => cases hx
  | cons h t ih =>
    rcases List.mem_cons.mp hx with hx | hx
    · exact ⟨_, List.mem_cons_self, by rw [hx]; exact h.1, by rw [hx]; exact h.2.1⟩
    · obtain ⟨y, h1, h2⟩ := ih hx
      exact ⟨y, List.mem_cons_of_mem _ h1, h2⟩
theorem RelX.put {xs : List (NestedKey × Addr × V)} {vs : List (NestedKey × Addr × Value)} (r : RelX xs vs) (k : NestedKey) (b : Addr) {v : V} {u : Value} (h : RelV v u) : RelX (storedV xs k b v) (storedH vs k b u) := by
  unfold storedV storedH
  rw [r.any k]
  split
  · exact r.over k h
  · exact Paired.snoc r ⟨rfl, rfl, h⟩
theorem RelX.keys {xs : List (NestedKey × Addr × V)} {vs : List (NestedKey × Addr × Value)} (r : RelX xs vs) : vs.map (·.1) = xs.map (·.1) := by
  induction r with
  | nil => rfl
  | cons h t ih => rw [List.map_cons, List.map_cons, ih, h.1]
theorem RelX.get {xs : List (NestedKey × Addr × V)} {vs : List (NestedKey × Addr × Value)} (r : RelX xs vs) {k : NestedKey} {x : NestedKey × Addr × V} (h : xs.find? (fun x => decide (x.1 = k)) = some x) : ∃ p, atKey vs k = some p ∧ RelV x.2.2 p.2 := by
  induction r with
  | nil => cases h
  | @cons a b l1 l2 h1 t ih =>
    unfold atKey
    by_cases e : b.1 = k
    · rw [List.find?_cons_of_pos (by simpa [h1.1] using e)] at h
      cases h
      rw [List.find?_cons_of_pos (by simpa using e)]
      exact ⟨_, rfl, h1.2.2⟩
    · rw [List.find?_cons_of_neg (by simpa [h1.1] using e)] at h
      rw [List.find?_cons_of_neg (by simpa using e)]
      exact ih h
/-- a key, as it stands -/
def KeyAt (K : PySem.W.Frag) (H : Hp) (b : Addr) (k : NestedKey) : Prop := ∃ (Km : KM) (dk : List Addr) (G : Hp) (d : D), Km.K = K ∧ (∀ a o, G a = some o → H a = some o) ∧ Rp Km dk G (.ref b) d ∧ nkOf d = some k ∧ k.depth ≤ 8
/-- the dict at p holds these -/
def DicH (K : PySem.W.Frag) (wl : World) (H : Hp) (p : Addr) (xs : List (NestedKey × Addr × V)) : Prop :=
  (H p = some (DTO wl p xs) ∨ (xs = [] ∧ H p = some (.dK []))) ∧ (xs.map (·.1)).Nodup ∧ ∀ x ∈ xs, KeyAt K H x.2.1 x.1
section
variable {X : Cx} {pins : List (Addr × Obj)} {σ : L2.St} {H : Hp} {s : Shared} {p b : Addr} {k : NestedKey} {xs : List (NestedKey × Addr × V)}
theorem KeyAt.is (I : Inv X pins σ H s) (h : KeyAt X.K H b k) : (nestedKind X.prog X.w).is s.heap k b := by
  obtain ⟨Km, dk, G, d, hK, e, r, n, l⟩ := h
  exact ⟨Rp.nk I hK e r n rfl, l⟩
theorem DicH.at (I : Inv X pins σ H s) (h : DicH X.K X.w H p xs) : (p == sysModules) = false ∧ ∃ vs, s.heap.DictOfH (nestedKind X.prog X.w) p vs ∧ RelX xs vs := by
  obtain ⟨h1, hn, hk⟩ := h
  rcases h1 with h1 | ⟨rfl, h1⟩
  · obtain ⟨⟨hs, o, es, ep, vs, ho, hc, hd, he, r⟩, _⟩ := (show ObjOk X.prog X.w H s.heap p (DTO X.w p xs) from I.hok p _ h1)
    refine ⟨hs, vs, ⟨o, es, ep, ho, hc, hd, he, fun x hx => ?_, by rw [RelX.keys r]; exact hn⟩, r⟩
    obtain ⟨y, hy, e1, e2⟩ := RelX.back r hx
    have := (hk y hy).is I
    rw [e1, e2] at this
    exact this
  · obtain ⟨z, hs, vs, rel, o, es, ep, ho, hc, hd, _, pr, _⟩ := dk_of I.hok h1
    cases rel
    have he : es.toList = [] := by
      generalize es.toList = l at pr
      cases pr
      rfl
    exact ⟨hs, [], ⟨o, es, ep, ho, hc, hd, he, fun x hx => (nomatch hx), List.nodup_nil⟩, .nil⟩
/-- d[k] = v -/
def rSetDX (K : PySem.W.Frag) (wl : World) : V → V → V → Hp → (Hp → Prop) → Prop := fun o i v H Q => ∃ p b k xs, o = .ref p ∧ i = .ref b ∧ KeyAt K H b k ∧ DicH K wl H p xs ∧ xs.length ≤ 16777216 ∧ Q (upd H p (DTO wl p (storedV xs k b v)))
/-- k in d -/
def rInDX (neg : Bool) (K : PySem.W.Frag) (wl : World) : R2 := fun x y H Q => ∃ p b k xs, x = .ref b ∧ y = .ref p ∧ KeyAt K H b k ∧ DicH K wl H p xs ∧ Q (.bl (inB neg (xs.any fun x => decide (x.1 = k)))) H
/-- d[k] -/
def rGetDX (K : PySem.W.Frag) (wl : World) : R2 := fun x y H Q => ∃ p b k xs z, x = .ref p ∧ y = .ref b ∧ KeyAt K H b k ∧ DicH K wl H p xs ∧ xs.find? (fun x => decide (x.1 = k)) = some z ∧ Q z.2.2 H
end
section
variable {K : KM} {dk : List Addr} {G : Hp}
theorem KR.len {kvs : List (Key × V)} {ds : List (Key × D)} (h : KR K dk G kvs ds) : kvs.length = ds.length := by
  induction h with
  | nil => rfl
  | cons _ _ ih => exact congrArg Nat.succ ih
theorem RpDX.any {xs : List (NestedKey × Addr × V)} {kvs : List (D × D)} (r : RpDX K dk G xs kvs) {kd : D} {k : NestedKey} (hk : nkOf kd = some k) : (kvs.any fun p => sameK p.1 kd) = xs.any fun x => decide (x.1 = k) := by
  induction r with
  | nil => rfl
  | @cons x kv l1 l2 h1 h2 ih =>
    rw [List.any_cons, List.any_cons, ih]
    unfold sameK
    rw [h1.1, hk]
    simp
theorem RpDX.put {xs : List (NestedKey × Addr × V)} {kvs : List (D × D)} (r : RpDX K dk G xs kvs) {kd d : D} {k : NestedKey} {b : Addr} {v : V} (hk : nkOf kd = some k) (hl : k.depth ≤ 8) (rk : Rp K dk G (.ref b) kd) (rv : Rp K dk G v d) : RpDX K dk G (storedV xs k b v) (putX kvs kd d) := by
  unfold storedV putX
  rw [r.any hk]
  split
  · rename_i hh
    clear hh
    induction r with
    | nil => exact .nil
    | @cons x kv l1 l2 h1 h2 ih =>
      rw [List.map_cons, List.map_cons]
      refine .cons ?_ ih
      by_cases e : x.1 = k
      · rw [if_pos e, if_pos (by unfold sameK; rw [h1.1, hk, e]; simp)]
        exact ⟨h1.1, h1.2.1, h1.2.2.1, rv⟩
      · rw [if_neg e, if_neg (by unfold sameK; rw [h1.1, hk]; simpa using e)]
        exact h1
  · exact Paired.snoc r ⟨hk, hl, rk, rv⟩
theorem RpDX.get {xs : List (NestedKey × Addr × V)} {kvs : List (D × D)} (r : RpDX K dk G xs kvs) {kd d : D} {k : NestedKey} (hk : nkOf kd = some k) (h : getX kvs kd = some d) : ∃ x, xs.find? (fun x => decide (x.1 = k)) = some x ∧ Rp K dk G x.2.2 d := by
  unfold getX at h
  induction r with
  | nil => cases h
  | @cons x kv l1 l2 h1 h2 ih =>
    by_cases e : x.1 = k
    · rw [List.find?_cons_of_pos (by unfold sameK; rw [h1.1, hk, e]; simp)] at h
      cases h
      exact ⟨x, List.find?_cons_of_pos (by simpa using e), h1.2.2.2⟩
    · rw [List.find?_cons_of_neg (by unfold sameK; rw [h1.1, hk]; simpa using e)] at h
      rw [List.find?_cons_of_neg (by simpa using e)]
      exact ih h
theorem RpDX.some {xs : List (NestedKey × Addr × V)} {kvs : List (D × D)} (r : RpDX K dk G xs kvs) {kd : D} {k : NestedKey} (hk : nkOf kd = some k) : (getX kvs kd).isSome = xs.any fun x => decide (x.1 = k) := by
  rw [← r.any hk]
  unfold getX
  rw [Option.isSome_map, Bool.eq_iff_iff, List.find?_isSome, List.any_eq_true]
end
def rSetDK : V → V → V → Hp → (Hp → Prop) → Prop := fun o i v H Q => ∃ a H', o = .ref a ∧ DPut H a i v H' ∧ Q H'
def rSetX (K : PySem.W.Frag) (wl : World) : V → V → V → Hp → (Hp → Prop) → Prop := fun o i v H Q => rSetDX K wl o i v H Q ∨ rSetDK o i v H Q
def rInX (neg : Bool) (K : PySem.W.Frag) (wl : World) : R2 := orR (rInDX neg K wl) (if neg = true then rDNotIn else rDIn)
def rGetX (K : PySem.W.Frag) (wl : World) : R2 := orR (rGetDX K wl) rDGet
section
variable {X : Cx}
end
section
variable {X : Cx} {c : Base} {W : WX} {w w' w1 w2 : Wd} {σ : L2.St} {env : Env} {e a b d : Expr} {fa fb fc : Env → R D} {pos p pos2 : Pos} {st : Stmt}
/-- x = {} -/
def newX (i : Nat) : Env → R Out := fun env => .ret (.nx (env.set i (some (.dic []))))
/-- x[k] = e -/
def putDS (i : Nat) (fe fk : Env → R D) : Env → R Out := exS fe fun d env => match env[i]? with
  | some (some (.dic kvs)) => exS fk (fun k env => guard' (goodK kvs k && decide (kvs.length < 16777216)) (.ret (.nx (env.set i (some (.dic (putX kvs k d))))))) env
  | _ => .bad
/-- k in x -/
def inDS (neg : Bool) (i : Nat) (fa : Env → R D) : Env → R D := fun env => (fa env).bind fun x => match env[i]? with
  | some (some (.dic kvs)) => guard' (goodK kvs x) (.ret (.bool (inB neg (getX kvs x).isSome)))
  | _ => .bad
/-- x[k] -/
def getDS (i : Nat) (fk : Env → R D) : Env → R D := fun env => match env[i]? with
  | some (some (.dic kvs)) => (fk env).bind fun k => guard' (goodK kvs k) (match getX kvs k with
    | some d => .ret d
    | none => .bad)
  | _ => .bad
end
def popAt (es : List D) (k : D) : R (D × List D) := match k with
  | .int j => match es[j.toNat]? with
    | some y => guard' (decide (0 ≤ j ∧ j < es.length ∧ es.length ≤ 1000)) (.ret (y, es.eraseIdx j.toNat))
    | none => .bad
  | _ => .bad
def popE (i : Nat) (fk : Env → R D) : Env → R (D × List D) := fun e => match e[i]? with
  | some (some (.own es)) => (fk e).bind fun k => popAt es k
  | _ => .bad
def popL (i : Nat) (tg : D → Env → R Env) (fk : Env → R D) (vs : List Nat) (env : Env) : List D → List D → R (List D × List D)
  | es, [] => .ret ([], es)
  | es, d :: ds => (noErr ((tg d (wipeE (env.set i (some (.own es))) vs)).bind fun e => popE i fk e)).bind fun r => (popL i tg fk vs env r.2 ds).bind fun q => .ret (r.1 :: q.1, q.2)
def popC (i : Nat) (fi : Env → R (List D)) (tg : D → Env → R Env) (fk : Env → R D) (vs : List Nat) : Env → R (List D × List D) := fun env => (fi env).bind fun ds => guard' (decide (ds.length ≤ 16777216)) (match env[i]? with
  | some (some (.own es)) => popL i tg fk vs env es ds
  | _ => .bad)
def liftP (c : Base) (W : WX) (i : Nat) (f : Env → R (List D × List D)) : TE := fun σ H Q => ∃ w env, At c σ H w env ∧ (f env).wp w.fu (fun fu r => ∀ p vs w', w'.fu = fu → p ∈ w'.O → w'.H p = some (.lst vs) → WOk c w' → LE c w w' →
  EnvOk c w' σ (env.set i (some (.own r.2))) → (∀ (j : Nat) (x : DV), env[j]? = some (some x) → x.held = true → σ[j]? ≠ some (some (V.ref p))) → RpsW c w' vs r.1 → Q (.ref p) w'.H) (EK c W σ w)
section
variable {X : Cx} {c : Base} {W : WX} {w w' w1 w2 : Wd} {σ : L2.St} {env : Env} {e a b d : Expr} {fa fb fk : Env → R D} {fi : Env → R (List D)} {pos p pos2 : Pos} {st : Stmt}
theorem RpAll.erase {K : KM} {dk : List Addr} {G : Hp} : ∀ {vs : List V} {ds : List D} (n : Nat), RpAll K dk G vs ds → RpAll K dk G (vs.eraseIdx n) (ds.eraseIdx n)
  | _, _, _, .nil => .nil
  | _, _, 0, .cons _ t => t
  | _, _, n + 1, .cons h t => .cons h (RpAll.erase n t)
end
/-- x = sorted([xs.pop(k) for ..]) -/
def popSortS (j i : Nat) (fi : Env → R (List D)) (tg : D → Env → R Env) (fk : Env → R D) (vs : List Nat) : Env → R Out := fun env => (popC i fi tg fk vs env).both (fun r => guard' (sortOk r.1) (.ret (.nx ((env.set i (some (.own r.2))).set j (some (.val (.list (sortD r.1)))))))) fun er => .ret (.ex env er)
/-- return [xs.pop(k) for ..] -/
def popRetS (i : Nat) (fi : Env → R (List D)) (tg : D → Env → R Env) (fk : Env → R D) (vs : List Nat) : Env → R Out := fun env => (popC i fi tg fk vs env).both (fun r => .ret (.rl r.1)) fun er => .ret (.ex env er)
section
variable {X : Cx} {c : Base} {W : WX} {w w' w1 w2 : Wd} {σ : L2.St} {env : Env} {e a b d : Expr} {fa fb fk : Env → R D} {fi : Env → R (List D)} {pos p pos2 : Pos} {st : Stmt}
/-- x = [xs.pop(k) for ..] -/
def popSetS (j i : Nat) (fi : Env → R (List D)) (tg : D → Env → R Env) (fk : Env → R D) (vs : List Nat) : Env → R Out := fun env => match env[i]? with
  | some (some (.own _)) => (popC i fi tg fk vs env).both (fun r => .ret (.nx ((env.set i (some (.own r.2))).set j (some (.val (.list r.1)))))) fun er => .ret (.ex env er)
  | _ => .bad
/-- list(a text) -/
def chrsL (fa : Env → R D) : Env → R (List D) := fun env => (fa env).bind fun x => match x with
  | .str z => guard' (decide (z.length ≤ 1000)) (.ret (chars z))
  | _ => .bad
end
section
variable {env : Env} {fu : Nat} {E : Nat → Er → Prop} {QO : Nat → Out → Prop} {QD Q : Nat → D → Prop} {QB : Nat → Bool → Prop} {QL : Nat → List D → Prop} {QE : Nat → Env → Prop} {QI : Nat → Option Int → Prop}
  {fa fb fc : Env → R D} {ft fz : Env → R Bool} {fr fk : Env → R (List D)} {f g : Env → R Out} {i j n : Nat} {d x y z : D} {ds es : List D} {b : Bool}
def SqK (g : Env → R Out) (Q : Nat → Out → Prop) (E : Nat → Er → Prop) : Nat → Out → Prop := fun fu o => match o with
  | .nx e => (g e).wp fu Q E
  | o => Q fu o
theorem bndI {α β : Type} {m : R α} {f : α → R β} {Q : Nat → β → Prop} (h : m.wp fu (fun fu a => (f a).wp fu Q E) E) : (m.bind f).wp fu Q E := (R.wp_bind _ _ _ _ _).mpr h
theorem bthI {α β : Type} {m : R α} {f : α → R β} {g : Er → R β} {Q : Nat → β → Prop} (h : m.wp fu (fun fu a => (f a).wp fu Q E) (fun fu e => (g e).wp fu Q E)) : (m.both f g).wp fu Q E := (R.wp_both _ _ _ _ _ _).mpr h
theorem v_seq (h : (f env).wp fu (SqK g QO E) E) : (seqS f g env).wp fu QO E := bndI (R.wp_mono h (fun fu o h => by cases o <;> exact h) fun _ _ h => h)
theorem v_nx {e : Env} (h : (g e).wp fu QO E) : SqK g QO E fu (.nx e) := h
theorem v_rt (h : QO fu (.rt d)) : SqK g QO E fu (.rt d) := h
theorem v_rl (h : QO fu (.rl ds)) : SqK g QO E fu (.rl ds) := h
theorem v_bk {e : Env} (h : QO fu (.bk e)) : SqK g QO E fu (.bk e) := h
theorem v_ct {e : Env} (h : QO fu (.ct e)) : SqK g QO E fu (.ct e) := h
theorem v_ex {e : Env} {er : Er} (h : QO fu (.ex e er)) : SqK g QO E fu (.ex e er) := h
abbrev XO (QO : Nat → Out → Prop) (env : Env) : Nat → Er → Prop := fun fu er => QO fu (.ex env er)
theorem v_set (h : (fa env).wp fu (fun fu d => QO fu (.nx (env.set i (some (.val d))))) (XO QO env)) : (setS i fa env).wp fu QO E := bthI (R.wp_mono h (fun _ _ h => h) fun _ _ h => h)
theorem v_setO (h : (fr env).wp fu (fun fu d => QO fu (.nx (env.set i (some (.own d))))) (XO QO env)) : (setO i fr env).wp fu QO E := bthI (R.wp_mono h (fun _ _ h => h) fun _ _ h => h)
theorem v_ret (h : (fa env).wp fu (fun fu d => QO fu (.rt d)) (XO QO env)) : (retS fa env).wp fu QO E := bthI (R.wp_mono h (fun _ _ h => h) fun _ _ h => h)
theorem v_retO (he : env[i]? = some (some (.own es))) (h : QO fu (.rl es)) : (retO i env).wp fu QO E := by unfold retO; rw [he]; exact h
theorem v_retOv (he : env[i]? = some (some (.val d))) (h : QO fu (.rt d)) : (retO i env).wp fu QO E := by unfold retO; rw [he]; exact h
theorem v_retL (h : (fr env).wp fu (fun fu d => QO fu (.rl d)) (XO QO env)) : (retL fr env).wp fu QO E := bthI (R.wp_mono h (fun _ _ h => h) fun _ _ h => h)
theorem v_retN (h : QO fu (.rt .none)) : (retN env).wp fu QO E := h
theorem v_drop (h : (fa env).wp fu (fun fu _ => QO fu (.nx env)) (XO QO env)) : (dropS fa env).wp fu QO E := bthI (R.wp_mono h (fun _ _ h => h) fun _ _ h => h)
theorem v_pass (h : QO fu (.nx env)) : (passS env).wp fu QO E := h
theorem v_brk (h : QO fu (.bk env)) : (brkS env).wp fu QO E := h
theorem v_ct' (h : QO fu (.ct env)) : (ctS env).wp fu QO E := h
theorem v_if (h : (ft env).wp fu (fun fu k => if k = true then (f env).wp fu QO E else (g env).wp fu QO E) (XO QO env)) : (ifS ft f g env).wp fu QO E := bthI (R.wp_mono h (fun fu k h => by
  show (if k = true then f env else g env : R Out).wp fu QO E
  cases k with
  | true => rw [if_pos rfl] at h ⊢; exact h
  | false => rw [if_neg (by decide)] at h ⊢; exact h) fun _ _ h => h)
theorem v_asg {tg : D → Env → R Env} (h : (fa env).wp fu (fun fu d => (tg d env).wp fu (fun fu e => QO fu (.nx e)) E) (XO QO env)) : (asgS fa tg env).wp fu QO E := bthI (R.wp_mono h (fun _ _ h => bndI (R.wp_mono h (fun _ _ h => h) fun _ _ h => h)) fun _ _ h => h)
theorem v_tName (h : QE fu (env.set i (some (.val d)))) : (tName i d env).wp fu QE E := h
theorem v_tTup {u : List D → Env → R Env} (h1 : ds.length = n) (h : (u ds env).wp fu QE E) : (tTup n u (.tuple ds) env).wp fu QE E := wp_guard.mpr ⟨decide_eq_true h1, h⟩
theorem v_tCons {t : D → Env → R Env} {u : List D → Env → R Env} (h : (t d env).wp fu (fun fu e => (u ds e).wp fu QE E) E) : (tCons t u (d :: ds) env).wp fu QE E := bndI h
theorem v_tNil (h : QE fu env) : (tNil [] env).wp fu QE E := h
theorem v_frz {e : Env} (he : frzE i env = e) (h : (f e).wp fu QO E) : (frzS i f env).wp fu QO E := by unfold frzS; rw [he]; exact h
theorem v_app (he : env[i]? = some (some (.own es))) (h : (fa env).wp fu (fun fu d => es.length < 16777216 ∧ QO fu (.nx (env.set i (some (.own (es ++ [d])))))) (XO QO env)) : (appS i fa env).wp fu QO E := by
  unfold appS
  rw [he]
  exact bthI (R.wp_mono h (fun _ _ h => wp_guard.mpr ⟨decide_eq_true h.1, h.2⟩) fun _ _ h => h)
theorem v_put {fe fk : Env → R D} (h : (fe env).wp fu (fun fu d => ∃ es, env[i]? = some (some (.own es)) ∧ (fk env).wp fu (fun fu k => ∃ j m, k = .int j ∧ ixN es.length j = some m ∧ QO fu (.nx (env.set i (some (.own (es.set m d)))))) (XO QO env)) (XO QO env)) : (putS i fe fk env).wp fu QO E := by
  refine bthI (R.wp_mono h (fun fu d ⟨es, he, h⟩ => ?_) fun _ _ h => h)
  dsimp only
  rw [he]
  refine bthI (R.wp_mono h (fun fu k ⟨j, m, e1, e2, h⟩ => ?_) fun _ _ h => h)
  subst e1
  show (match ixN es.length j with | some m => R.ret (Out.nx (env.set i (some (.own (es.set m d))))) | none => R.bad).wp fu QO E
  rw [e2]; exact h
theorem v_par {fr : Env → R (List D)} (h : (fr env).wp fu (fun fu ds => ∃ x y, ds = [x, y] ∧ QO fu (.nx ((env.set i (some (.val x))).set j (some (.val y))))) (XO QO env)) : (parS i j fr env).wp fu QO E := bthI (R.wp_mono h (fun fu ds ⟨x, y, e, h⟩ => by subst e; exact h) fun _ _ h => h)
theorem v_aug {gg : D → D → R D} (he : env[i]? = some (some (.val x))) (h : (fa env).wp fu (fun fu y => (gg x y).wp fu (fun fu z => QO fu (.nx (env.set i (some (.val z))))) (XO QO env)) (XO QO env)) : (augS i gg fa env).wp fu QO E := by
  unfold augS
  rw [he]
  exact bthI (R.wp_mono h (fun _ _ h => bthI (R.wp_mono h (fun _ _ h => h) fun _ _ h => h)) fun _ _ h => h)
theorem v_raise {nm : Str} (h : (fa env).wp fu (fun fu _ => QO fu (.ex env ⟨nm, []⟩)) (XO QO env)) : (raiseS nm fa env).wp fu QO E := bthI (R.wp_mono h (fun _ _ h => h) fun _ _ h => h)
/-- a try -/
def TrK (hs : List ((Str → Option Bool) × (Env → R Out))) (Q : Nat → Out → Prop) (E : Nat → Er → Prop) : Nat → Out → Prop := fun fu o => match o with
  | .ex e er => (handle hs e er).wp fu Q E
  | o => Q fu o
theorem v_try {hs : List ((Str → Option Bool) × (Env → R Out))} (h : (f env).wp fu (TrK hs QO E) E) : (tryS f hs env).wp fu QO E := bndI (R.wp_mono h (fun fu o h => by cases o <;> exact h) fun _ _ h => h)
theorem v_trN {hs : List ((Str → Option Bool) × (Env → R Out))} {e : Env} (h : QO fu (.nx e)) : TrK hs QO E fu (.nx e) := h
theorem v_trR {hs : List ((Str → Option Bool) × (Env → R Out))} (h : QO fu (.rt d)) : TrK hs QO E fu (.rt d) := h
theorem v_trL {hs : List ((Str → Option Bool) × (Env → R Out))} (h : QO fu (.rl ds)) : TrK hs QO E fu (.rl ds) := h
theorem v_trX {hs : List ((Str → Option Bool) × (Env → R Out))} {e : Env} {er : Er} (h : (handle hs e er).wp fu QO E) : TrK hs QO E fu (.ex e er) := h
/-- a suite's end -/
def SuK (Q : Nat → Out → Prop) : Nat → Out → Prop := fun fu o => match o with
  | .ex _ _ => False
  | o => Q fu o
theorem v_hdY {t : Str → Option Bool} {fs : List ((Str → Option Bool) × (Env → R Out))} {e : Env} {er : Er} (ht : t er.cls = some true) (h : (f e).wp fu (SuK QO) E) : (handle ((t, f) :: fs) e er).wp fu QO E := by
  show (match t er.cls with | some true => (f e).bind (fun o => match o with | .ex _ _ => R.bad | o => .ret o) | some false => handle fs e er | none => R.bad).wp fu QO E
  rw [ht]
  exact bndI (R.wp_mono h (fun fu o h => by cases o <;> exact h) fun _ _ h => h)
theorem v_hdN {t : Str → Option Bool} {fs : List ((Str → Option Bool) × (Env → R Out))} {e : Env} {er : Er} (ht : t er.cls = some false) (h : (handle fs e er).wp fu QO E) : (handle ((t, f) :: fs) e er).wp fu QO E := by
  show (match t er.cls with | some true => (f e).bind (fun o => match o with | .ex _ _ => R.bad | o => .ret o) | some false => handle fs e er | none => R.bad).wp fu QO E
  rw [ht]; exact h
theorem v_hd0 {e : Env} {er : Er} (h : QO fu (.ex e er)) : (handle [] e er).wp fu QO E := h
theorem v_suN {e : Env} (h : QO fu (.nx e)) : SuK QO fu (.nx e) := h
theorem v_suL (h : QO fu (.rl ds)) : SuK QO fu (.rl ds) := h
theorem v_suR (h : QO fu (.rt d)) : SuK QO fu (.rt d) := h
theorem v_var (h : env[i]? = some (some (.val d))) (k : QD fu d) : (varD i env).wp fu QD E := by unfold varD; rw [h]; exact k
theorem v_c (k : QD fu d) : (cD d env).wp fu QD E := k
theorem v_bin {g : D → D → R D} (h : (fa env).wp fu (fun fu x => (fb env).wp fu (fun fu y => (g x y).wp fu QD E) E) E) : (bin g fa fb env).wp fu QD E := bndI (R.wp_mono h (fun _ _ h => bndI h) fun _ _ h => h)
theorem v_un {g : D → R D} (h : (fa env).wp fu (fun fu x => (g x).wp fu QD E) E) : (un g fa env).wp fu QD E := bndI h
theorem v_chain {g g' : D → D → R D} (h : (fa env).wp fu (fun fu x => (fb env).wp fu (fun fu y => (g x y).wp fu (fun fu z => ∃ k, z = .bool k ∧ if k = true then (fc env).wp fu (fun fu u => (g' y u).wp fu QD E) E else QD fu (.bool false)) E) E) E) : (chainD g g' fa fb fc env).wp fu QD E :=
  bndI (R.wp_mono h (fun _ _ h => bndI (R.wp_mono h (fun _ _ h => bndI (R.wp_mono h (fun fu z ⟨k, e, h⟩ => by
    subst e
    refine bndI ?_
    show (if k = true then _ else _ : R D).wp fu QD E
    cases k with
    | true => rw [if_pos rfl] at h ⊢; exact bndI h
    | false => rw [if_neg (by decide)] at h ⊢; exact h) fun _ _ h => h)) fun _ _ h => h)) fun _ _ h => h)
theorem v_and (h : (fa env).wp fu (fun fu x => (truD x).wp fu (fun fu k => if k = true then (fb env).wp fu QD E else QD fu x) E) E) : (andD fa fb env).wp fu QD E := bndI (R.wp_mono h (fun fu x h => bndI (R.wp_mono h (fun fu k h => by
  cases k with
  | true => rw [if_pos rfl] at h ⊢; exact h
  | false => rw [if_neg (by decide)] at h ⊢; exact h) fun _ _ h => h)) fun _ _ h => h)
theorem v_or (h : (fa env).wp fu (fun fu x => (truD x).wp fu (fun fu k => if k = true then QD fu x else (fb env).wp fu QD E) E) E) : (orD fa fb env).wp fu QD E := bndI (R.wp_mono h (fun fu x h => bndI (R.wp_mono h (fun fu k h => by
  cases k with
  | true => rw [if_pos rfl] at h ⊢; exact h
  | false => rw [if_neg (by decide)] at h ⊢; exact h) fun _ _ h => h)) fun _ _ h => h)
theorem v_not (h : (fa env).wp fu (fun fu x => (truD x).wp fu (fun fu k => QD fu (.bool (!k))) E) E) : (notD fa env).wp fu QD E := bndI (R.wp_mono h (fun fu x h => bndI (R.wp_mono h (fun _ _ h => h) fun _ _ h => h)) fun _ _ h => h)
theorem v_ife (h : (ft env).wp fu (fun fu k => if k = true then (fa env).wp fu QD E else (fb env).wp fu QD E) E) : (ifD ft fa fb env).wp fu QD E := bndI (R.wp_mono h (fun fu k h => by
  cases k with
  | true => rw [if_pos rfl] at h ⊢; exact h
  | false => rw [if_neg (by decide)] at h ⊢; exact h) fun _ _ h => h)
theorem v_tru (h : (fa env).wp fu (fun fu x => (truD x).wp fu QB E) E) : (truT fa env).wp fu QB E := bndI h
theorem v_blT (h : (fa env).wp fu (fun fu x => ∃ k, x = .bool k ∧ QB fu k) E) : (blT fa env).wp fu QB E := bndI (R.wp_mono h (fun fu x ⟨k, e, h⟩ => by subst e; exact h) fun _ _ h => h)
theorem v_andT (h : (ft env).wp fu (fun fu k => if k = true then (fz env).wp fu QB E else QB fu false) E) : (andT ft fz env).wp fu QB E := bndI (R.wp_mono h (fun fu k h => by
  cases k with
  | true => rw [if_pos rfl] at h ⊢; exact h
  | false => rw [if_neg (by decide)] at h ⊢; exact h) fun _ _ h => h)
theorem v_orT (h : (ft env).wp fu (fun fu k => if k = true then QB fu true else (fz env).wp fu QB E) E) : (orT ft fz env).wp fu QB E := bndI (R.wp_mono h (fun fu k h => by
  cases k with
  | true => rw [if_pos rfl] at h ⊢; exact h
  | false => rw [if_neg (by decide)] at h ⊢; exact h) fun _ _ h => h)
theorem v_notT (h : (ft env).wp fu (fun fu k => QB fu (!k)) E) : (notT ft env).wp fu QB E := bndI (R.wp_mono h (fun _ _ h => h) fun _ _ h => h)
theorem v_yes (h : QB fu true) : (yesT env).wp fu QB E := h
theorem v_nil (h : QL fu []) : (nilA env).wp fu QL E := h
theorem v_cons (h : (fa env).wp fu (fun fu x => (fr env).wp fu (fun fu r => QL fu (x :: r)) E) E) : (consA fa fr env).wp fu QL E := bndI (R.wp_mono h (fun _ _ h => bndI (R.wp_mono h (fun _ _ h => h) fun _ _ h => h)) fun _ _ h => h)
theorem v_tup (h : (fr env).wp fu (fun fu ds => ds.length ≤ 16777216 ∧ QD fu (.tuple ds)) E) : (tupD fr env).wp fu QD E := bndI (R.wp_mono h (fun _ _ h => wp_guard.mpr ⟨decide_eq_true h.1, h.2⟩) fun _ _ h => h)
theorem v_disp (h : (fr env).wp fu (fun fu ds => ds.length ≤ 16777216 ∧ QL fu ds) E) : (dispL fr env).wp fu QL E := bndI (R.wp_mono h (fun _ _ h => wp_guard.mpr ⟨decide_eq_true h.1, h.2⟩) fun _ _ h => h)
theorem v_lst (h : (fr env).wp fu (fun fu ds => QD fu (.list ds)) E) : (lstD fr env).wp fu QD E := bndI (R.wp_mono h (fun _ _ h => h) fun _ _ h => h)
theorem v_callD {g : List D → R D} (h : (fr env).wp fu (fun fu ds => (g ds).wp fu QD E) E) : (callD g fr env).wp fu QD E := bndI h
theorem v_call {F : List D → R D} (h : (fr env).wp fu (fun fu ds => ds.length = n ∧ (F ds).wp fu QD E) E) : (callF n F fr env).wp fu QD E := bndI (R.wp_mono h (fun _ _ h => wp_guard.mpr ⟨decide_eq_true h.1, h.2⟩) fun _ _ h => h)
theorem v_callK {F : List D → R D} {perm} (h : (fr env).wp fu (fun fu ds => (fk env).wp fu (fun fu es => (gP perm ds es).length = n ∧ (F (gP perm ds es)).wp fu QD E) E) E) : (callK n F perm fr fk env).wp fu QD E :=
  bndI (R.wp_mono h (fun _ _ h => bndI (R.wp_mono h (fun _ _ h => wp_guard.mpr ⟨decide_eq_true h.1, h.2⟩) fun _ _ h => h)) fun _ _ h => h)
theorem v_callL {F : List D → R (List D)} (h : (fr env).wp fu (fun fu ds => ds.length = n ∧ (F ds).wp fu QL E) E) : (callL n F fr env).wp fu QL E := bndI (R.wp_mono h (fun _ _ h => wp_guard.mpr ⟨decide_eq_true h.1, h.2⟩) fun _ _ h => h)
theorem v_ownInF (he : env[i]? = some (some (.own es))) (h : (fa env).wp fu (fun fu x => (gInA x (.list es)).wp fu QD E) E) : (ownIn false i fa env).wp fu QD E := by
  unfold ownIn
  rw [he]
  exact bndI h
theorem v_ownInT (he : env[i]? = some (some (.own es))) (h : (fa env).wp fu (fun fu x => (gNotInA x (.list es)).wp fu QD E) E) : (ownIn true i fa env).wp fu QD E := by
  unfold ownIn
  rw [he]
  exact bndI h
theorem v_ownEqF (he : env[i]? = some (some (.own es))) (h : (fb env).wp fu (fun fu x => (gEq (.list es) x).wp fu QD E) E) : (ownEq false i fb env).wp fu QD E := by
  unfold ownEq
  rw [he]
  exact bndI h
theorem v_ownEqT (he : env[i]? = some (some (.own es))) (h : (fb env).wp fu (fun fu x => (gNe (.list es) x).wp fu QD E) E) : (ownEq true i fb env).wp fu QD E := by
  unfold ownEq
  rw [he]
  exact bndI h
theorem v_ownIsi {T : String} (he : env[i]? = some (some (.own es))) (h : (isiV T (.list es)).wp fu QD E) : (ownIsi T i env).wp fu QD E := by
  unfold ownIsi
  rw [he]; exact h
theorem v_ownIt (he : env[i]? = some (some (.own es))) (h : QL fu es) : (ownIt i env).wp fu QL E := by
  unfold ownIt
  rw [he]; exact h
theorem v_isi {T : String} (h : (fa env).wp fu (fun fu x => (isiV T x).wp fu QD E) E) : (isiD T fa env).wp fu QD E := bndI h
theorem v_list (h : (fa env).wp fu (fun fu x => (elems x).wp fu QL E) E) : (listF fa env).wp fu QL E := bndI h
theorem v_iter (h : (fa env).wp fu (fun fu x => (iterE x).wp fu QL E) E) : (iterF fa env).wp fu QL E := bndI h
theorem v_noPart (h : QI fu none) : (noPart env).wp fu QI E := h
theorem v_part (h : (fa env).wp fu (fun fu x => ∃ i, x = .int i ∧ QI fu (some i)) E) : (part fa env).wp fu QI E := bndI (R.wp_mono h (fun fu x ⟨i, e, h⟩ => by subst e; exact h) fun _ _ h => h)
theorem v_sl {g : D → Option Int → Option Int → R D} {fl fh : Env → R (Option Int)} (h : (fa env).wp fu (fun fu x => (fl env).wp fu (fun fu l => (fh env).wp fu (fun fu u => (g x l u).wp fu QD E) E) E) E) : (slD g fa fl fh env).wp fu QD E :=
  bndI (R.wp_mono h (fun _ _ h => bndI (R.wp_mono h (fun _ _ h => bndI h) fun _ _ h => h)) fun _ _ h => h)
theorem v_rng {fr : Env → R (List D)} (h : (fr env).wp fu (fun fu ds => ∃ i j, (ds = [.int j] ∧ i = 0 ∨ ds = [.int i, .int j]) ∧ rngOk i j = true ∧ QL fu (rngD i j)) E) : (rngI fr env).wp fu QL E := bndI (R.wp_mono h (fun fu ds ⟨i, j, e, k, h⟩ => by
  rcases e with ⟨e, e2⟩ | e
  · subst e e2; exact wp_guard.mpr ⟨k, h⟩
  · subst e; exact wp_guard.mpr ⟨k, h⟩) fun _ _ h => h)
theorem v_rep {f : Env → R (List D)} (h : (f env).wp fu (fun fu ds => (fb env).wp fu (fun fu k => ∃ j, k = .int j ∧ (0 ≤ j ∧ j ≤ 100000 ∧ ds.length * j.toNat ≤ 16777216) ∧ QL fu (List.replicate j.toNat ds).flatten) E) E) : (repL f fb env).wp fu QL E :=
  bndI (R.wp_mono h (fun fu ds h => bndI (R.wp_mono h (fun fu k ⟨j, e, c, h⟩ => by subst e; exact wp_guard.mpr ⟨decide_eq_true c, h⟩) fun _ _ h => h)) fun _ _ h => h)
theorem v_ownTup (he : env[i]? = some (some (.own es))) (h : QD fu (.tuple es)) : (ownTup i env).wp fu QD E := by unfold ownTup; rw [he]; exact h
theorem v_ownTupV (he : env[i]? = some (some (.val d))) (h : (gTuple [d]).wp fu QD E) : (ownTup i env).wp fu QD E := by unfold ownTup; rw [he]; exact h
theorem v_ownLen (he : env[i]? = some (some (.own es))) (h : QD fu (.int es.length)) : (ownLen i env).wp fu QD E := by unfold ownLen; rw [he]; exact h
theorem v_ownIx (he : env[i]? = some (some (.own es))) (h : (fb env).wp fu (fun fu k => ∃ j, k = .int j ∧ (ixL es j).wp fu QD E) E) : (ownIx i fb env).wp fu QD E := by
  unfold ownIx
  rw [he]
  exact bndI (R.wp_mono h (fun fu k ⟨j, e, h⟩ => by subst e; exact h) fun _ _ h => h)
theorem v_ret1 {α : Type} {m : R α} {a : α} {Q : Nat → α → Prop} (e : m = .ret a) (h : Q fu a) : m.wp fu Q E := by rw [e]; exact h
theorem v_guard {α : Type} {m : R α} {c : Prop} [Decidable c] {Q : Nat → α → Prop} (e : c) (h : m.wp fu Q E) : (guard' (decide c) m).wp fu Q E := wp_guard.mpr ⟨decide_eq_true e, h⟩
theorem v_rr {α : Type} {a : α} {Q : Nat → α → Prop} (h : Q fu a) : (R.ret a).wp fu Q E := h
def DfK (Q : Nat → D → Prop) (E : Nat → Er → Prop) : Nat → Out → Prop := fun fu o => match o with
  | .nx _ => Q fu .none
  | .rt d => Q fu d
  | .rl ds => Q fu (.list ds)
  | .ex _ er => E fu er
  | _ => False
theorem v_def {n : Nat} {fb : Env → R Out} {env : Env} (he : startE n ds = env) (h : (fb env).wp fu (DfK QD E) (fun _ _ => False)) : (defF n fb ds).wp fu QD E := by
  unfold defF
  rw [he]
  exact bthI (R.wp_mono h (fun fu o h => by cases o <;> exact h) fun _ _ h => h)
def DlK (Q : Nat → List D → Prop) (E : Nat → Er → Prop) : Nat → Out → Prop := fun fu o => match o with
  | .rl ds => Q fu ds
  | .ex _ er => E fu er
  | _ => False
theorem v_dlL (h : QL fu ds) : DlK QL E fu (.rl ds) := h
theorem v_dlX {e : Env} {er : Er} (h : E fu er) : DlK QL E fu (.ex e er) := h
theorem v_dfL (h : QD fu (.list ds)) : DfK QD E fu (.rl ds) := h
theorem v_dfN {e : Env} (h : QD fu .none) : DfK QD E fu (.nx e) := h
theorem v_dfR (h : QD fu d) : DfK QD E fu (.rt d) := h
theorem v_dfX {e : Env} {er : Er} (h : E fu er) : DfK QD E fu (.ex e er) := h
/-- what a loop does with its body's end -/
def LpK (P : Nat → Env → Prop) (Q : Nat → Out → Prop) : Nat → Out → Prop := fun fu o => match o with
  | .nx e => P fu e
  | .ct e => P fu e
  | .bk e => Q fu (.nx e)
  | o => Q fu o
theorem v_lpN {P : Nat → Env → Prop} {e : Env} (h : P fu e) : LpK P QO fu (.nx e) := h
theorem v_lpC {P : Nat → Env → Prop} {e : Env} (h : P fu e) : LpK P QO fu (.ct e) := h
theorem v_lpB {P : Nat → Env → Prop} {e : Env} (h : QO fu (.nx e)) : LpK P QO fu (.bk e) := h
theorem v_lpR {P : Nat → Env → Prop} (h : QO fu (.rt d)) : LpK P QO fu (.rt d) := h
theorem v_lpL {P : Nat → Env → Prop} (h : QO fu (.rl ds)) : LpK P QO fu (.rl ds) := h
theorem v_lpX {P : Nat → Env → Prop} {e : Env} {er : Er} (h : QO fu (.ex e er)) : LpK P QO fu (.ex e er) := h
/-- a loop, by an invariant over how many are done -/
theorem loopI {body : D → Env → R Out} (P : Nat → Nat → Env → Prop) : ∀ (ds : List D) (i : Nat) (env : Env) (fu : Nat), P i fu env →
    (∀ j d e fu, i ≤ j → ds[j - i]? = some d → P j fu e → (body d e).wp fu (LpK (P (j + 1)) QO) E) → (∀ e fu, P (i + ds.length) fu e → QO fu (.nx e)) → (loopL body ds env).wp fu QO E
  | [], i, env, fu, h0, _, hd => hd env fu h0
  | d :: r, i, env, fu, h0, hs, hd => by
    refine bndI (R.wp_mono (hs i d env fu (Nat.le_refl i) (by simp) h0) (fun fu o h => ?_) fun _ _ h => h)
    have rest : ∀ e, P (i + 1) fu e → (loopL body r e).wp fu QO E := fun e h => loopI P r (i + 1) e fu h (fun j d' e' fu' hj hd' hp => hs j d' e' fu' (by omega) (by
      have : j - i = (j - (i + 1)) + 1 := by omega
      rw [this]; exact hd') hp) fun e' fu' hp => hd e' fu' (by
        have : i + 1 + r.length = i + (d :: r).length := by rw [List.length_cons]; omega
        rw [← this]; exact hp)
    cases o with
    | nx e => exact rest e h
    | ct e => exact rest e h
    | bk e => exact h
    | rt d => exact h
    | rl d => exact h
    | ex e er => exact h
theorem v_for {fi : Env → R (List D)} {tg : D → Env → R Env} (h : (fi env).wp fu (fun fu ds => (loopL (fun d e => (tg d e).bind f) ds env).wp fu QO E) (XO QO env)) : (forS fi tg f env).wp fu QO E := bthI (R.wp_mono h (fun _ _ h => h) fun _ _ h => h)
theorem v_body {tg : D → Env → R Env} (h : (tg d env).wp fu (fun fu e => (f e).wp fu QO E) E) : ((tg d env).bind f).wp fu QO E := bndI h
def addO (acc : List D) : Option D → List D
  | some y => acc ++ [y]
  | none => acc
/-- a comprehension whose items are told -/
theorem compI {body : D → R (Option D)} (P : Nat → Nat → List D → Prop) : ∀ (ds : List D) (i : Nat) (acc : List D) (fu : Nat) (QL : Nat → List D → Prop), P i fu acc →
    (∀ j d acc fu, i ≤ j → ds[j - i]? = some d → P j fu acc → (body d).wp fu (fun fu o => P (j + 1) fu (addO acc o)) E) → (∀ acc' fu, P (i + ds.length) fu (acc ++ acc') → QL fu acc') → (compL body ds).wp fu QL E
  | [], i, acc, fu, QL, h0, _, hd => hd [] fu (by rw [List.append_nil]; exact h0)
  | d :: r, i, acc, fu, QL, h0, hs, hd => by
    refine bndI (R.wp_mono (hs i d acc fu (Nat.le_refl i) (by simp) h0) (fun fu o h => ?_) fun _ _ h => h)
    have hl : i + 1 + r.length = i + (d :: r).length := by rw [List.length_cons]; omega
    refine bndI ?_
    refine compI P r (i + 1) (addO acc o) fu _ h (fun j d' a' fu' hj hd' hp => hs j d' a' fu' (by omega) (by
      have : j - i = (j - (i + 1)) + 1 := by omega
      rw [this]; exact hd') hp) fun acc' fu' hp => ?_
    rw [hl] at hp
    cases o with
    | none => exact hd acc' fu' hp
    | some y =>
      have hp : P (i + (d :: r).length) fu' ((acc ++ [y]) ++ acc') := hp
      rw [List.append_assoc] at hp
      exact hd (y :: acc') fu' hp
theorem v_comp {fi : Env → R (List D)} {tg : D → Env → R Env} {vs : List Nat} (h : (fi env).wp fu (fun fu ds => ds.length ≤ 16777216 ∧ (compL (fun d => noErr ((tg d (wipeE env vs)).bind fun e => (ft e).bind fun k => if k = true then (fa e).bind fun y => R.ret (some y) else R.ret none)) ds).wp fu QL E) E) : (compD fi tg ft fa vs env).wp fu QL E :=
  bndI (R.wp_mono h (fun _ _ h => wp_guard.mpr ⟨decide_eq_true h.1, h.2⟩) fun _ _ h => h)
theorem v_item {tg : D → Env → R Env} {e : Env} {QX : Nat → Option D → Prop} (h : (tg d e).wp fu (fun fu e => (ft e).wp fu (fun fu k => if k = true then (fa e).wp fu (fun fu y => QX fu (some y)) (fun _ _ => False) else QX fu none) (fun _ _ => False)) (fun _ _ => False)) :
    (noErr ((tg d e).bind fun e => (ft e).bind fun k => if k = true then (fa e).bind fun y => R.ret (some y) else R.ret none)).wp fu QX E := by
  refine bthI (R.wp_mono (bndI (R.wp_mono h (fun fu e h => bndI (R.wp_mono h (fun fu k h => ?_) fun _ _ h => h)) fun _ _ h => h)) (fun _ _ h => h) fun _ _ h => h.elim)
  cases k with
  | true => rw [if_pos rfl] at h ⊢; exact bndI (R.wp_mono h (fun _ _ h => h) fun _ _ h => h)
  | false => rw [if_neg (by decide)] at h ⊢; exact h
end
section
variable {env : Env} {fu : Nat} {E : Nat → Er → Prop} {QD Q : Nat → D → Prop} {QB : Nat → Bool → Prop} {QL : Nat → List D → Prop} {i j : Int} {d x y z : D} {ds es : List D} {b c : Bool} {s t : Str}
theorem v_truB (h : QB fu b) : (truD (.bool b)).wp fu QB E := h
theorem v_truI (h : QB fu (i != 0)) : (truD (.int i)).wp fu QB E := h
theorem v_truN (h : QB fu false) : (truD .none).wp fu QB E := h
theorem v_truT (h : QB fu (!ds.isEmpty)) : (truD (.tuple ds)).wp fu QB E := h
theorem v_truL (h : QB fu (!ds.isEmpty)) : (truD (.list ds)).wp fu QB E := h
theorem v_addI (h : QD fu (.int (i + j))) : (gAdd (.int i) (.int j)).wp fu QD E := h
theorem v_addL (hl : ds.length + es.length ≤ 16777216) (h : QD fu (.list (ds ++ es))) : (gAdd (.list ds) (.list es)).wp fu QD E := v_guard hl h
theorem v_addT (hl : ds.length + es.length ≤ 16777216) (h : QD fu (.tuple (ds ++ es))) : (gAdd (.tuple ds) (.tuple es)).wp fu QD E := v_guard hl h
theorem v_addII (h : QD fu (.int (i + j))) : (gAddI (.int i) (.int j)).wp fu QD E := h
theorem v_subII (h : QD fu (.int (i - j))) : (gSubI (.int i) (.int j)).wp fu QD E := h
theorem v_sub (h : QD fu (.int (i - j))) : (gSub (.int i) (.int j)).wp fu QD E := h
theorem v_mul (hl : (-18446744073709551616 < i ∧ i < 18446744073709551616) ∨ (-18446744073709551616 < j ∧ j < 18446744073709551616)) (h : QD fu (.int (i * j))) : (gMulA (.int i) (.int j)).wp fu QD E := v_guard hl h
theorem v_mulT (hl : ds ≠ [] ∧ 2 ≤ j ∧ j ≤ 1000 ∧ ds.length ≤ 1000) (h : QD fu (.tuple (List.replicate j.toNat ds).flatten)) : (gMulA (.tuple ds) (.int j)).wp fu QD E := v_guard hl h
theorem v_mod (hl : 0 < j) (h : QD fu (.int (i % j))) : (gMod (.int i) (.int j)).wp fu QD E := v_guard hl h
theorem v_div (hl : 0 < j ∧ j < 2 ^ 200) (h : QD fu (.int (i / j))) : (gDiv (.int i) (.int j)).wp fu QD E := v_guard hl h
theorem v_pow (hl : 0 ≤ j ∧ j ≤ 1000 ∧ i.natAbs < 2 ^ 64) (h : QD fu (.int (i ^ j.toNat))) : (gPow (.int i) (.int j)).wp fu QD E := v_guard hl h
theorem v_neg (h : QD fu (.int (-i))) : (gNeg (.int i)).wp fu QD E := h
theorem v_lt (h : QD fu (.bool (decide (i < j)))) : (gLt (.int i) (.int j)).wp fu QD E := h
theorem v_le (h : QD fu (.bool (decide (i ≤ j)))) : (gLe (.int i) (.int j)).wp fu QD E := h
theorem v_gt (h : QD fu (.bool (decide (j < i)))) : (gGt (.int i) (.int j)).wp fu QD E := h
theorem v_ge (h : QD fu (.bool (decide (j ≤ i)))) : (gGe (.int i) (.int j)).wp fu QD E := h
theorem v_ltS (h : QD fu (.bool (decide (s.cps.toList < t.cps.toList)))) : (gLt (.str s) (.str t)).wp fu QD E := h
theorem v_leS (h : QD fu (.bool (!decide (t.cps.toList < s.cps.toList)))) : (gLe (.str s) (.str t)).wp fu QD E := h
theorem v_eqI (h : QD fu (.bool (decide (i = j)))) : (gEq (.int i) (.int j)).wp fu QD E := v_ret1 (eq_ii i j) h
theorem v_neI (h : QD fu (.bool (!decide (i = j)))) : (gNe (.int i) (.int j)).wp fu QD E := v_ret1 (ne_ii i j) h
theorem v_eqB (h : QD fu (.bool (decide (b = c)))) : (gEq (.bool b) (.bool c)).wp fu QD E := v_ret1 (eq_bb b c) h
theorem v_neB (h : QD fu (.bool (!decide (b = c)))) : (gNe (.bool b) (.bool c)).wp fu QD E := v_ret1 (ne_bb b c) h
theorem v_eqS (h : QD fu (.bool (decide (s = t)))) : (gEq (.str s) (.str t)).wp fu QD E := h
theorem v_neS (h : QD fu (.bool (!decide (s = t)))) : (gNe (.str s) (.str t)).wp fu QD E := h
theorem strEq_none (h : strEq x y = none) (h1 : SeqAt.shaped x = true) (h2 : SeqAt.shaped y = true) : gEq x y = .ret (.bool (PyData.eqv x y)) := by
  unfold gEq
  rw [h, h1, h2]; rfl
theorem strNe_none (h : strEq x y = none) (h1 : SeqAt.shaped x = true) (h2 : SeqAt.shaped y = true) : gNe x y = .ret (.bool (!PyData.eqv x y)) := by
  unfold gNe
  rw [h, h1, h2]; rfl
theorem v_isN (h : QD fu (.bool (isNonD x))) : (gIs x .none).wp fu QD E := by cases x <;> exact h
theorem v_isNot (h : QD fu (.bool (!isNonD x))) : (gIsNot x .none).wp fu QD E := by cases x <;> exact h
theorem v_isB (h : QD fu (.bool (decide (b = c)))) : (gIs (.bool b) (.bool c)).wp fu QD E := h
theorem v_lenT (h : QD fu (.int ds.length)) : (gLen [.tuple ds]).wp fu QD E := h
theorem v_lenL (h : QD fu (.int ds.length)) : (gLen [.list ds]).wp fu QD E := h
theorem v_lenS (hl : s.length ≤ 16777216) (h : QD fu (.int s.length)) : (gLen [.str s]).wp fu QD E := by
  show ((guard' (decide (s.length ≤ 16777216)) (R.ret (s.length : Int))).bind fun n => R.ret (PyData.int n)).wp fu QD E
  exact bndI (v_guard hl h)
theorem v_lenScr {ns : List Int} (h : QD fu (.int ns.length)) : (gLen [scrD ns]).wp fu QD E := by
  show ((scrGo (scrD ns) fun ns => R.ret (ns.length : Int)).bind fun n => R.ret (PyData.int n)).wp fu QD E
  rw [scrGo_scr]; exact h
theorem v_ixL (h : (ixL ds i).wp fu QD E) : (gIx (.list ds) (.int i)).wp fu QD E := h
theorem v_ixT (h : (ixL ds i).wp fu QD E) : (gIx (.tuple ds) (.int i)).wp fu QD E := h
theorem v_ixI (h0 : 0 ≤ i) (e : ds[i.toNat]? = some d) (h : QD fu d) : (ixL ds i).wp fu QD E := by
  have := ixL_at e
  rw [show ((i.toNat : Nat) : Int) = i by omega] at this
  exact v_ret1 this h
theorem v_ix0 (h : QD fu d) : (ixL (d :: ds) 0).wp fu QD E := v_ret1 (ixL_0 d ds) h
theorem v_ix1 (h : QD fu y) : (ixL (x :: y :: ds) 1).wp fu QD E := v_ret1 (ixL_1 x y ds) h
theorem v_ix2 (h : QD fu z) : (ixL (x :: y :: z :: ds) 2).wp fu QD E := v_ret1 (ixL_2 x y z ds) h
theorem v_ix3 (h : QD fu d) : (ixL (x :: y :: z :: d :: ds) 3).wp fu QD E := v_ret1 (ixL_3 x y z d ds) h
theorem v_maxI (h : QD fu (.int (if j > i then j else i))) : (gMax [.int i, .int j]).wp fu QD E := h
theorem v_minI (h : QD fu (.int (if j < i then j else i))) : (gMin [.int i, .int j]).wp fu QD E := h
theorem v_absI (h : QD fu (.int (if i < 0 then -i else i))) : (gAbs [.int i]).wp fu QD E := h
theorem v_intI (h : QD fu (.int i)) : (gInt [.int i]).wp fu QD E := h
theorem v_intB (h : QD fu (.int (if b then 1 else 0))) : (gInt [.bool b]).wp fu QD E := h
theorem v_tupL (h : QD fu (.tuple ds)) : (gTuple [.list ds]).wp fu QD E := h
theorem v_tupT (h : QD fu (.tuple ds)) : (gTuple [.tuple ds]).wp fu QD E := h
theorem v_allB {bs : List Bool} (e : ds = bs.map PyData.bool) (h : QD fu (.bool (bs.all id))) : (gAll [.list ds]).wp fu QD E := by
  subst e
  show (match blsOf (bs.map PyData.bool) with | some bs => R.ret (PyData.bool (bs.all id)) | none => R.bad).wp fu QD E
  rw [blsOf_of]; exact h
theorem v_isiI (p : plainD d = true) (h : QD fu (.bool (isIntD d))) : (isiV "int" d).wp fu QD E := v_ret1 (isi_int p) h
theorem v_isiB (p : plainD d = true) (h : QD fu (.bool (isBoolD d))) : (isiV "bool" d).wp fu QD E := v_ret1 (isi_bool p) h
theorem v_isiS (p : plainD d = true) (h : QD fu (.bool (isStrD d))) : (isiV "str" d).wp fu QD E := v_ret1 (isi_str p) h
theorem v_isiT (p : plainD d = true) (h : QD fu (.bool (isTupD d))) : (isiV "tuple" d).wp fu QD E := v_ret1 (isi_tup p) h
theorem v_isiL (p : plainD d = true) (h : QD fu (.bool (isLstD d))) : (isiV "list" d).wp fu QD E := v_ret1 (isi_lst p) h
theorem v_elT (h : QL fu ds) : (elems (.tuple ds)).wp fu QL E := h
theorem v_elL (h : QL fu ds) : (elems (.list ds)).wp fu QL E := h
theorem v_itT (h : QL fu ds) : (iterE (.tuple ds)).wp fu QL E := h
theorem v_itL (h : QL fu ds) : (iterE (.list ds)).wp fu QL E := h
theorem v_slT {l u : Option Int} (h : QD fu (.tuple (cutD ds l u))) : (gSl (.tuple ds) l u).wp fu QD E := h
theorem v_slL {l u : Option Int} (h : QD fu (.list (cutD ds l u))) : (gSl (.list ds) l u).wp fu QD E := h
theorem v_fmtI (h1 : i.natAbs.log2 < 1920) (h : QD fu (.str (toString i))) : (fmtR (.int i)).wp fu QD E := v_guard h1 h
theorem v_fmt {fa : Env → R D} (h : (fa env).wp fu (fun fu x => (fmtR x).wp fu QD E) E) : (fmtD fa env).wp fu QD E := bndI h
theorem v_js0 {acc : Str} (h : QD fu (.str acc)) : (jsD [] acc env).wp fu QD E := h
theorem v_js {f : Env → R D} {fs : List (Env → R D)} {acc : Str} (h : (f env).wp fu (fun fu x => ∃ y, x = .str y ∧ (acc ++ y).length ≤ 16777216 ∧ (jsD fs (acc ++ y) env).wp fu QD E) E) : (jsD (f :: fs) acc env).wp fu QD E :=
  bndI (R.wp_mono h (fun fu x ⟨y, e, hl, h⟩ => by subst e; exact v_guard hl h) fun _ _ h => h)
theorem v_cb {A B : Prop} (h1 : b = true → A) (h2 : b = false → B) : if b = true then A else B := by
  cases b with
  | true => rw [if_pos rfl]; exact h1 rfl
  | false => rw [if_neg (by decide)]; exact h2 rfl
theorem v_cn {A B : Prop} (h1 : b = false → A) (h2 : b = true → B) : if (!b) = true then A else B := by
  cases b with
  | true => simp only [Bool.not_true, Bool.false_eq_true, if_false]; exact h2 rfl
  | false => simp only [Bool.not_false, if_true]; exact h1 rfl
end
mutual
/-- plain data of numbers and texts that can be told -/
def fitD : D → Bool
  | .none => true
  | .bool _ => true
  | .int i => decide (i.natAbs.log2 < 1920)
  | .str x => PyData.strOk x
  | .list xs => fitAll xs
  | .tuple xs => fitAll xs
  | .dict _ => false
def fitAll : List D → Bool
  | [] => true
  | x :: xs => fitD x && fitAll xs
end
mutual
theorem fit_lay : ∀ d, fitD d = true → PyData.canLay0 d = true ∧ PyData.showable d = true ∧ PyData.hasDict d = false
  | .none, _ => by simp [PyData.canLay0, PyData.showable, PyData.hasDict]
  | .bool _, _ => by simp [PyData.canLay0, PyData.showable, PyData.hasDict]
  | .int i, h => by
    have h : decide (i.natAbs.log2 < 1920) = true := by simpa only [fitD] using h
    simp only [PyData.canLay0, PyData.showable, PyData.hasDict]
    exact ⟨by first | trivial | rfl, h, by first | trivial | rfl⟩
  | .str s, h => by
    have h : PyData.strOk s = true := by simpa only [fitD] using h
    simp [PyData.canLay0, PyData.showable, PyData.hasDict, h]
  | .list xs, h => by
    simp only [PyData.canLay0, PyData.showable, PyData.hasDict]
    exact fit_layAll xs (by simpa only [fitD] using h)
  | .tuple xs, h => by
    simp only [PyData.canLay0, PyData.showable, PyData.hasDict]
    exact fit_layAll xs (by simpa only [fitD] using h)
  | .dict _, h => by simp [fitD] at h
theorem fit_layAll : ∀ ds, fitAll ds = true → PyData.canLayAll0 ds = true ∧ PyData.showableAll ds = true ∧ PyData.hasDictAll ds = false
  | [], _ => by simp [PyData.canLayAll0, PyData.showableAll, PyData.hasDictAll]
  | d :: r, h => by
    have h : fitD d = true ∧ fitAll r = true := by simpa only [fitAll, Bool.and_eq_true] using h
    obtain ⟨a, b, c⟩ := fit_lay d h.1
    obtain ⟨a2, b2, c2⟩ := fit_layAll r h.2
    simp [PyData.canLayAll0, PyData.showableAll, PyData.hasDictAll, a, b, c, a2, b2, c2]
end
mutual
theorem shown_le : ∀ d, fitD d = true → d.shown.length ≤ wt d
  | .none, _ => by simp only [PyData.shown, wt]; decide +kernel
  | .bool b, _ => by cases b <;> (simp only [PyData.shown, wt]; decide +kernel)
  | .int i, h => by
    have e := int_text_length_le (a := i) (k := i.natAbs.log2 + 1) (by omega) (by omega)
    have e2 : (Str.ofString (toString i)).length ≤ i.natAbs.log2 + 1 + 1 := by
      rw [PySem.ofString_length]; exact e
    simp only [PyData.shown, wt]
    exact Nat.le_trans e2 (by omega)
  | .str x, h => by
    simp only [PyData.shown, wt]
    have h : PyData.strOk x = true := by simpa only [fitD] using h
    refine StrLaws.reprText_len x fun c hc => ?_
    unfold PyData.strOk at h
    rw [Array.all_eq_true'] at h
    have := of_decide_eq_true (h c (by simpa using hc))
    omega
  | .list xs, h => by
    have := shownAll_le xs (by simpa only [fitD] using h)
    have e := listText_len_le (PyData.shownAll xs)
    simp only [PyData.shown, wt]
    omega
  | .tuple xs, h => by
    have := shownAll_le xs (by simpa only [fitD] using h)
    have e := tupleText_len_le (PyData.shownAll xs)
    simp only [PyData.shown, wt]
    omega
  | .dict _, h => by simp [fitD] at h
theorem shownAll_le : ∀ ds, fitAll ds = true → ((PyData.shownAll ds).map (·.length)).sum + 2 * (PyData.shownAll ds).length ≤ wtAll ds
  | [], _ => by simp [PyData.shownAll, wtAll]
  | d :: r, h => by
    have h : fitD d = true ∧ fitAll r = true := by simpa only [fitAll, Bool.and_eq_true] using h
    have h1 := shown_le d h.1
    have h2 := shownAll_le r h.2
    simp only [PyData.shownAll, wtAll, List.map_cons, List.sum_cons, List.length_cons]
    omega
end
/-- what follows is not looked at -/
structure Tk {α : Type} (Q : Nat → α → Prop) (E : Nat → Er → Prop) : Type where
@[irreducible] def R.go {α : Type} (m : R α) (fu : Nat) (Q : Nat → α → Prop) (E : Nat → Er → Prop) (_ : Tk Q E := ⟨⟩) : Prop := m.wp fu Q E
theorem R.go_eq {α : Type} {m : R α} {fu : Nat} {Q : Nat → α → Prop} {E : Nat → Er → Prop} {t : Tk Q E} : m.go fu Q E t = m.wp fu Q E := by
  unfold R.go
  rfl
section
variable {env : Env} {fu : Nat} {E : Nat → Er → Prop} {QO : Nat → Out → Prop} {QD Q : Nat → D → Prop} {QB : Nat → Bool → Prop} {QL : Nat → List D → Prop} {QE : Nat → Env → Prop} {QI : Nat → Option Int → Prop}
  {fa fb fc : Env → R D} {ft fz : Env → R Bool} {fr fk : Env → R (List D)} {f g : Env → R Out} {i j n : Nat} {d x y z : D} {ds es : List D} {b : Bool}
theorem g_seq (h : (f env).go fu (SqK g QO E) E) : (seqS f g env).go fu QO E := by
  simp only [R.go_eq] at *
  exact v_seq h
theorem g_nx {e : Env} (h : (g e).go fu QO E) : SqK g QO E fu (.nx e) := by
  simp only [R.go_eq] at *
  exact v_nx h
theorem g_rt (h : QO fu (.rt d)) : SqK g QO E fu (.rt d) := by
  exact v_rt h
theorem g_rl (h : QO fu (.rl ds)) : SqK g QO E fu (.rl ds) := by
  exact v_rl h
theorem g_bk {e : Env} (h : QO fu (.bk e)) : SqK g QO E fu (.bk e) := by
  exact v_bk h
theorem g_ct {e : Env} (h : QO fu (.ct e)) : SqK g QO E fu (.ct e) := by
  exact v_ct h
theorem g_ex {e : Env} {er : Er} (h : QO fu (.ex e er)) : SqK g QO E fu (.ex e er) := by
  exact v_ex h
theorem g_set (h : (fa env).go fu (fun fu d => QO fu (.nx (env.set i (some (.val d))))) (XO QO env)) : (setS i fa env).go fu QO E := by
  simp only [R.go_eq] at *
  exact v_set h
theorem g_setO (h : (fr env).go fu (fun fu d => QO fu (.nx (env.set i (some (.own d))))) (XO QO env)) : (setO i fr env).go fu QO E := by
  simp only [R.go_eq] at *
  exact v_setO h
theorem g_ret (h : (fa env).go fu (fun fu d => QO fu (.rt d)) (XO QO env)) : (retS fa env).go fu QO E := by
  simp only [R.go_eq] at *
  exact v_ret h
theorem g_retO (he : env[i]? = some (some (.own es))) (h : QO fu (.rl es)) : (retO i env).go fu QO E := by
  simp only [R.go_eq] at *
  exact v_retO he h
theorem g_retOv (he : env[i]? = some (some (.val d))) (h : QO fu (.rt d)) : (retO i env).go fu QO E := by
  simp only [R.go_eq] at *
  exact v_retOv he h
theorem g_retL (h : (fr env).go fu (fun fu d => QO fu (.rl d)) (XO QO env)) : (retL fr env).go fu QO E := by
  simp only [R.go_eq] at *
  exact v_retL h
theorem g_retN (h : QO fu (.rt .none)) : (retN env).go fu QO E := by
  simp only [R.go_eq] at *
  exact v_retN h
theorem g_drop (h : (fa env).go fu (fun fu _ => QO fu (.nx env)) (XO QO env)) : (dropS fa env).go fu QO E := by
  simp only [R.go_eq] at *
  exact v_drop h
theorem g_pass (h : QO fu (.nx env)) : (passS env).go fu QO E := by
  simp only [R.go_eq] at *
  exact v_pass h
theorem g_brk (h : QO fu (.bk env)) : (brkS env).go fu QO E := by
  simp only [R.go_eq] at *
  exact v_brk h
theorem g_ct' (h : QO fu (.ct env)) : (ctS env).go fu QO E := by
  simp only [R.go_eq] at *
  exact v_ct' h
theorem g_if (h : (ft env).go fu (fun fu k => if k = true then (f env).go fu QO E else (g env).go fu QO E) (XO QO env)) : (ifS ft f g env).go fu QO E := by
  simp only [R.go_eq] at *
  exact v_if h
theorem g_asg {tg : D → Env → R Env} (h : (fa env).go fu (fun fu d => (tg d env).go fu (fun fu e => QO fu (.nx e)) E) (XO QO env)) : (asgS fa tg env).go fu QO E := by
  simp only [R.go_eq] at *
  exact v_asg h
theorem g_tName (h : QE fu (env.set i (some (.val d)))) : (tName i d env).go fu QE E := by
  simp only [R.go_eq] at *
  exact v_tName h
theorem g_tTup {u : List D → Env → R Env} (h1 : ds.length = n) (h : (u ds env).go fu QE E) : (tTup n u (.tuple ds) env).go fu QE E := by
  simp only [R.go_eq] at *
  exact v_tTup h1 h
theorem g_tCons {t : D → Env → R Env} {u : List D → Env → R Env} (h : (t d env).go fu (fun fu e => (u ds e).go fu QE E) E) : (tCons t u (d :: ds) env).go fu QE E := by
  simp only [R.go_eq] at *
  exact v_tCons h
theorem g_tNil (h : QE fu env) : (tNil [] env).go fu QE E := by
  simp only [R.go_eq] at *
  exact v_tNil h
theorem g_frz {e : Env} (he : frzE i env = e) (h : (f e).go fu QO E) : (frzS i f env).go fu QO E := by
  simp only [R.go_eq] at *
  exact v_frz he h
theorem g_app (he : env[i]? = some (some (.own es))) (h : (fa env).go fu (fun fu d => es.length < 16777216 ∧ QO fu (.nx (env.set i (some (.own (es ++ [d])))))) (XO QO env)) : (appS i fa env).go fu QO E := by
  simp only [R.go_eq] at *
  exact v_app he h
theorem g_put {fe fk : Env → R D} (h : (fe env).go fu (fun fu d => ∃ es, env[i]? = some (some (.own es)) ∧ (fk env).go fu (fun fu k => ∃ j m, k = .int j ∧ ixN es.length j = some m ∧ QO fu (.nx (env.set i (some (.own (es.set m d)))))) (XO QO env)) (XO QO env)) : (putS i fe fk env).go fu QO E := by
  simp only [R.go_eq] at *
  exact v_put h
theorem g_par {fr : Env → R (List D)} (h : (fr env).go fu (fun fu ds => ∃ x y, ds = [x, y] ∧ QO fu (.nx ((env.set i (some (.val x))).set j (some (.val y))))) (XO QO env)) : (parS i j fr env).go fu QO E := by
  simp only [R.go_eq] at *
  exact v_par h
theorem g_aug {gg : D → D → R D} (he : env[i]? = some (some (.val x))) (h : (fa env).go fu (fun fu y => (gg x y).go fu (fun fu z => QO fu (.nx (env.set i (some (.val z))))) (XO QO env)) (XO QO env)) : (augS i gg fa env).go fu QO E := by
  simp only [R.go_eq] at *
  exact v_aug he h
theorem g_raise {nm : Str} (h : (fa env).go fu (fun fu _ => QO fu (.ex env ⟨nm, []⟩)) (XO QO env)) : (raiseS nm fa env).go fu QO E := by
  simp only [R.go_eq] at *
  exact v_raise h
theorem g_try {hs : List ((Str → Option Bool) × (Env → R Out))} (h : (f env).go fu (TrK hs QO E) E) : (tryS f hs env).go fu QO E := by
  simp only [R.go_eq] at *
  exact v_try h
theorem g_trN {hs : List ((Str → Option Bool) × (Env → R Out))} {e : Env} (h : QO fu (.nx e)) : TrK hs QO E fu (.nx e) := by
  exact v_trN h
theorem g_trR {hs : List ((Str → Option Bool) × (Env → R Out))} (h : QO fu (.rt d)) : TrK hs QO E fu (.rt d) := by
  exact v_trR h
theorem g_trL {hs : List ((Str → Option Bool) × (Env → R Out))} (h : QO fu (.rl ds)) : TrK hs QO E fu (.rl ds) := by
  exact v_trL h
theorem g_trX {hs : List ((Str → Option Bool) × (Env → R Out))} {e : Env} {er : Er} (h : (handle hs e er).go fu QO E) : TrK hs QO E fu (.ex e er) := by
  simp only [R.go_eq] at *
  exact v_trX h
theorem g_hdY {t : Str → Option Bool} {fs : List ((Str → Option Bool) × (Env → R Out))} {e : Env} {er : Er} (ht : t er.cls = some true) (h : (f e).go fu (SuK QO) E) : (handle ((t, f) :: fs) e er).go fu QO E := by
  simp only [R.go_eq] at *
  exact v_hdY ht h
theorem g_hdN {t : Str → Option Bool} {fs : List ((Str → Option Bool) × (Env → R Out))} {e : Env} {er : Er} (ht : t er.cls = some false) (h : (handle fs e er).go fu QO E) : (handle ((t, f) :: fs) e er).go fu QO E := by
  simp only [R.go_eq] at *
  exact v_hdN ht h
theorem g_hd0 {e : Env} {er : Er} (h : QO fu (.ex e er)) : (handle [] e er).go fu QO E := by
  simp only [R.go_eq] at *
  exact v_hd0 h
theorem g_suN {e : Env} (h : QO fu (.nx e)) : SuK QO fu (.nx e) := by
  exact v_suN h
theorem g_suL (h : QO fu (.rl ds)) : SuK QO fu (.rl ds) := by
  exact v_suL h
theorem g_suR (h : QO fu (.rt d)) : SuK QO fu (.rt d) := by
  exact v_suR h
theorem g_var (h : env[i]? = some (some (.val d))) (k : QD fu d) : (varD i env).go fu QD E := by
  simp only [R.go_eq] at *
  exact v_var h k
theorem g_c (k : QD fu d) : (cD d env).go fu QD E := by
  simp only [R.go_eq] at *
  exact v_c k
theorem g_bin {g : D → D → R D} (h : (fa env).go fu (fun fu x => (fb env).go fu (fun fu y => (g x y).go fu QD E) E) E) : (bin g fa fb env).go fu QD E := by
  simp only [R.go_eq] at *
  exact v_bin h
theorem g_un {g : D → R D} (h : (fa env).go fu (fun fu x => (g x).go fu QD E) E) : (un g fa env).go fu QD E := by
  simp only [R.go_eq] at *
  exact v_un h
theorem g_chain {g g' : D → D → R D} (h : (fa env).go fu (fun fu x => (fb env).go fu (fun fu y => (g x y).go fu (fun fu z => ∃ k, z = .bool k ∧ if k = true then (fc env).go fu (fun fu u => (g' y u).go fu QD E) E else QD fu (.bool false)) E) E) E) : (chainD g g' fa fb fc env).go fu QD E := by
  simp only [R.go_eq] at *
  exact v_chain h
theorem g_and (h : (fa env).go fu (fun fu x => (truD x).go fu (fun fu k => if k = true then (fb env).go fu QD E else QD fu x) E) E) : (andD fa fb env).go fu QD E := by
  simp only [R.go_eq] at *
  exact v_and h
theorem g_or (h : (fa env).go fu (fun fu x => (truD x).go fu (fun fu k => if k = true then QD fu x else (fb env).go fu QD E) E) E) : (orD fa fb env).go fu QD E := by
  simp only [R.go_eq] at *
  exact v_or h
theorem g_not (h : (fa env).go fu (fun fu x => (truD x).go fu (fun fu k => QD fu (.bool (!k))) E) E) : (notD fa env).go fu QD E := by
  simp only [R.go_eq] at *
  exact v_not h
theorem g_ife (h : (ft env).go fu (fun fu k => if k = true then (fa env).go fu QD E else (fb env).go fu QD E) E) : (ifD ft fa fb env).go fu QD E := by
  simp only [R.go_eq] at *
  exact v_ife h
theorem g_tru (h : (fa env).go fu (fun fu x => (truD x).go fu QB E) E) : (truT fa env).go fu QB E := by
  simp only [R.go_eq] at *
  exact v_tru h
theorem g_blT (h : (fa env).go fu (fun fu x => ∃ k, x = .bool k ∧ QB fu k) E) : (blT fa env).go fu QB E := by
  simp only [R.go_eq] at *
  exact v_blT h
theorem g_andT (h : (ft env).go fu (fun fu k => if k = true then (fz env).go fu QB E else QB fu false) E) : (andT ft fz env).go fu QB E := by
  simp only [R.go_eq] at *
  exact v_andT h
theorem g_orT (h : (ft env).go fu (fun fu k => if k = true then QB fu true else (fz env).go fu QB E) E) : (orT ft fz env).go fu QB E := by
  simp only [R.go_eq] at *
  exact v_orT h
theorem g_notT (h : (ft env).go fu (fun fu k => QB fu (!k)) E) : (notT ft env).go fu QB E := by
  simp only [R.go_eq] at *
  exact v_notT h
theorem g_yes (h : QB fu true) : (yesT env).go fu QB E := by
  simp only [R.go_eq] at *
  exact v_yes h
theorem g_nil (h : QL fu []) : (nilA env).go fu QL E := by
  simp only [R.go_eq] at *
  exact v_nil h
theorem g_cons (h : (fa env).go fu (fun fu x => (fr env).go fu (fun fu r => QL fu (x :: r)) E) E) : (consA fa fr env).go fu QL E := by
  simp only [R.go_eq] at *
  exact v_cons h
theorem g_tup (h : (fr env).go fu (fun fu ds => ds.length ≤ 16777216 ∧ QD fu (.tuple ds)) E) : (tupD fr env).go fu QD E := by
  simp only [R.go_eq] at *
  exact v_tup h
theorem g_disp (h : (fr env).go fu (fun fu ds => ds.length ≤ 16777216 ∧ QL fu ds) E) : (dispL fr env).go fu QL E := by
  simp only [R.go_eq] at *
  exact v_disp h
theorem g_lst (h : (fr env).go fu (fun fu ds => QD fu (.list ds)) E) : (lstD fr env).go fu QD E := by
  simp only [R.go_eq] at *
  exact v_lst h
theorem g_callD {g : List D → R D} (h : (fr env).go fu (fun fu ds => (g ds).go fu QD E) E) : (callD g fr env).go fu QD E := by
  simp only [R.go_eq] at *
  exact v_callD h
theorem g_call {F : List D → R D} (h : (fr env).go fu (fun fu ds => ds.length = n ∧ (F ds).go fu QD E) E) : (callF n F fr env).go fu QD E := by
  simp only [R.go_eq] at *
  exact v_call h
theorem g_callK {F : List D → R D} {perm} (h : (fr env).go fu (fun fu ds => (fk env).go fu (fun fu es => (gP perm ds es).length = n ∧ (F (gP perm ds es)).go fu QD E) E) E) : (callK n F perm fr fk env).go fu QD E := by
  simp only [R.go_eq] at *
  exact v_callK h
theorem g_callL {F : List D → R (List D)} (h : (fr env).go fu (fun fu ds => ds.length = n ∧ (F ds).go fu QL E) E) : (callL n F fr env).go fu QL E := by
  simp only [R.go_eq] at *
  exact v_callL h
theorem g_ownInF (he : env[i]? = some (some (.own es))) (h : (fa env).go fu (fun fu x => (gInA x (.list es)).go fu QD E) E) : (ownIn false i fa env).go fu QD E := by
  simp only [R.go_eq] at *
  exact v_ownInF he h
theorem g_ownInT (he : env[i]? = some (some (.own es))) (h : (fa env).go fu (fun fu x => (gNotInA x (.list es)).go fu QD E) E) : (ownIn true i fa env).go fu QD E := by
  simp only [R.go_eq] at *
  exact v_ownInT he h
theorem g_ownEqF (he : env[i]? = some (some (.own es))) (h : (fb env).go fu (fun fu x => (gEq (.list es) x).go fu QD E) E) : (ownEq false i fb env).go fu QD E := by
  simp only [R.go_eq] at *
  exact v_ownEqF he h
theorem g_ownEqT (he : env[i]? = some (some (.own es))) (h : (fb env).go fu (fun fu x => (gNe (.list es) x).go fu QD E) E) : (ownEq true i fb env).go fu QD E := by
  simp only [R.go_eq] at *
  exact v_ownEqT he h
theorem g_ownIsi {T : String} (he : env[i]? = some (some (.own es))) (h : (isiV T (.list es)).go fu QD E) : (ownIsi T i env).go fu QD E := by
  simp only [R.go_eq] at *
  exact v_ownIsi he h
theorem g_ownIt (he : env[i]? = some (some (.own es))) (h : QL fu es) : (ownIt i env).go fu QL E := by
  simp only [R.go_eq] at *
  exact v_ownIt he h
theorem g_isi {T : String} (h : (fa env).go fu (fun fu x => (isiV T x).go fu QD E) E) : (isiD T fa env).go fu QD E := by
  simp only [R.go_eq] at *
  exact v_isi h
theorem g_list (h : (fa env).go fu (fun fu x => (elems x).go fu QL E) E) : (listF fa env).go fu QL E := by
  simp only [R.go_eq] at *
  exact v_list h
theorem g_iter (h : (fa env).go fu (fun fu x => (iterE x).go fu QL E) E) : (iterF fa env).go fu QL E := by
  simp only [R.go_eq] at *
  exact v_iter h
theorem g_noPart (h : QI fu none) : (noPart env).go fu QI E := by
  simp only [R.go_eq] at *
  exact v_noPart h
theorem g_part (h : (fa env).go fu (fun fu x => ∃ i, x = .int i ∧ QI fu (some i)) E) : (part fa env).go fu QI E := by
  simp only [R.go_eq] at *
  exact v_part h
theorem g_sl {g : D → Option Int → Option Int → R D} {fl fh : Env → R (Option Int)} (h : (fa env).go fu (fun fu x => (fl env).go fu (fun fu l => (fh env).go fu (fun fu u => (g x l u).go fu QD E) E) E) E) : (slD g fa fl fh env).go fu QD E := by
  simp only [R.go_eq] at *
  exact v_sl h
theorem g_rng {fr : Env → R (List D)} (h : (fr env).go fu (fun fu ds => ∃ i j, (ds = [.int j] ∧ i = 0 ∨ ds = [.int i, .int j]) ∧ rngOk i j = true ∧ QL fu (rngD i j)) E) : (rngI fr env).go fu QL E := by
  simp only [R.go_eq] at *
  exact v_rng h
theorem g_rep {f : Env → R (List D)} (h : (f env).go fu (fun fu ds => (fb env).go fu (fun fu k => ∃ j, k = .int j ∧ (0 ≤ j ∧ j ≤ 100000 ∧ ds.length * j.toNat ≤ 16777216) ∧ QL fu (List.replicate j.toNat ds).flatten) E) E) : (repL f fb env).go fu QL E := by
  simp only [R.go_eq] at *
  exact v_rep h
theorem g_ownTup (he : env[i]? = some (some (.own es))) (h : QD fu (.tuple es)) : (ownTup i env).go fu QD E := by
  simp only [R.go_eq] at *
  exact v_ownTup he h
theorem g_ownTupV (he : env[i]? = some (some (.val d))) (h : (gTuple [d]).go fu QD E) : (ownTup i env).go fu QD E := by
  simp only [R.go_eq] at *
  exact v_ownTupV he h
theorem g_ownLen (he : env[i]? = some (some (.own es))) (h : QD fu (.int es.length)) : (ownLen i env).go fu QD E := by
  simp only [R.go_eq] at *
  exact v_ownLen he h
theorem g_ownIx (he : env[i]? = some (some (.own es))) (h : (fb env).go fu (fun fu k => ∃ j, k = .int j ∧ (ixL es j).go fu QD E) E) : (ownIx i fb env).go fu QD E := by
  simp only [R.go_eq] at *
  exact v_ownIx he h
theorem g_ret1 {α : Type} {m : R α} {a : α} {Q : Nat → α → Prop} (e : m = .ret a) (h : Q fu a) : m.go fu Q E := by
  simp only [R.go_eq] at *
  exact v_ret1 e h
theorem g_rr {α : Type} {a : α} {Q : Nat → α → Prop} (h : Q fu a) : (R.ret a).go fu Q E := by
  simp only [R.go_eq] at *
  exact v_rr h
theorem g_def {n : Nat} {fb : Env → R Out} {env : Env} (he : startE n ds = env) (h : (fb env).go fu (DfK QD E) (fun _ _ => False)) : (defF n fb ds).go fu QD E := by
  simp only [R.go_eq] at *
  exact v_def he h
theorem g_dlL (h : QL fu ds) : DlK QL E fu (.rl ds) := by
  exact v_dlL h
theorem g_dlX {e : Env} {er : Er} (h : E fu er) : DlK QL E fu (.ex e er) := by
  exact v_dlX h
theorem g_dfL (h : QD fu (.list ds)) : DfK QD E fu (.rl ds) := by
  exact v_dfL h
theorem g_dfN {e : Env} (h : QD fu .none) : DfK QD E fu (.nx e) := by
  exact v_dfN h
theorem g_dfR (h : QD fu d) : DfK QD E fu (.rt d) := by
  exact v_dfR h
theorem g_dfX {e : Env} {er : Er} (h : E fu er) : DfK QD E fu (.ex e er) := by
  exact v_dfX h
theorem g_lpN {P : Nat → Env → Prop} {e : Env} (h : P fu e) : LpK P QO fu (.nx e) := by
  exact v_lpN h
theorem g_lpC {P : Nat → Env → Prop} {e : Env} (h : P fu e) : LpK P QO fu (.ct e) := by
  exact v_lpC h
theorem g_lpB {P : Nat → Env → Prop} {e : Env} (h : QO fu (.nx e)) : LpK P QO fu (.bk e) := by
  exact v_lpB h
theorem g_lpR {P : Nat → Env → Prop} (h : QO fu (.rt d)) : LpK P QO fu (.rt d) := by
  exact v_lpR h
theorem g_lpL {P : Nat → Env → Prop} (h : QO fu (.rl ds)) : LpK P QO fu (.rl ds) := by
  exact v_lpL h
theorem g_lpX {P : Nat → Env → Prop} {e : Env} {er : Er} (h : QO fu (.ex e er)) : LpK P QO fu (.ex e er) := by
  exact v_lpX h
theorem g_for {fi : Env → R (List D)} {tg : D → Env → R Env} (h : (fi env).go fu (fun fu ds => (loopL (fun d e => (tg d e).bind f) ds env).go fu QO E) (XO QO env)) : (forS fi tg f env).go fu QO E := by
  simp only [R.go_eq] at *
  exact v_for h
theorem g_body {tg : D → Env → R Env} (h : (tg d env).go fu (fun fu e => (f e).go fu QO E) E) : ((tg d env).bind f).go fu QO E := by
  simp only [R.go_eq] at *
  exact v_body h
theorem g_comp {fi : Env → R (List D)} {tg : D → Env → R Env} {vs : List Nat} (h : (fi env).go fu (fun fu ds => ds.length ≤ 16777216 ∧ (compL (fun d => noErr ((tg d (wipeE env vs)).bind fun e => (ft e).bind fun k => if k = true then (fa e).bind fun y => R.ret (some y) else R.ret none)) ds).go fu QL E) E) : (compD fi tg ft fa vs env).go fu QL E := by
  simp only [R.go_eq] at *
  exact v_comp h
theorem g_item {tg : D → Env → R Env} {e : Env} {QX : Nat → Option D → Prop} (h : (tg d e).go fu (fun fu e => (ft e).go fu (fun fu k => if k = true then (fa e).go fu (fun fu y => QX fu (some y)) (fun _ _ => False) else QX fu none) (fun _ _ => False)) (fun _ _ => False)) : (noErr ((tg d e).bind fun e => (ft e).bind fun k => if k = true then (fa e).bind fun y => R.ret (some y) else R.ret none)).go fu QX E := by
  simp only [R.go_eq] at *
  exact v_item h
end
section
variable {env : Env} {fu : Nat} {E : Nat → Er → Prop} {QD Q : Nat → D → Prop} {QB : Nat → Bool → Prop} {QL : Nat → List D → Prop} {i j : Int} {d x y z : D} {ds es : List D} {b c : Bool} {s t : Str}
theorem g_truB (h : QB fu b) : (truD (.bool b)).go fu QB E := by
  simp only [R.go_eq] at *
  exact v_truB h
theorem g_truI (h : QB fu (i != 0)) : (truD (.int i)).go fu QB E := by
  simp only [R.go_eq] at *
  exact v_truI h
theorem g_truN (h : QB fu false) : (truD .none).go fu QB E := by
  simp only [R.go_eq] at *
  exact v_truN h
theorem g_truT (h : QB fu (!ds.isEmpty)) : (truD (.tuple ds)).go fu QB E := by
  simp only [R.go_eq] at *
  exact v_truT h
theorem g_truL (h : QB fu (!ds.isEmpty)) : (truD (.list ds)).go fu QB E := by
  simp only [R.go_eq] at *
  exact v_truL h
theorem g_addI (h : QD fu (.int (i + j))) : (gAdd (.int i) (.int j)).go fu QD E := by
  simp only [R.go_eq] at *
  exact v_addI h
theorem g_addL (hl : ds.length + es.length ≤ 16777216) (h : QD fu (.list (ds ++ es))) : (gAdd (.list ds) (.list es)).go fu QD E := by
  simp only [R.go_eq] at *
  exact v_addL hl h
theorem g_addT (hl : ds.length + es.length ≤ 16777216) (h : QD fu (.tuple (ds ++ es))) : (gAdd (.tuple ds) (.tuple es)).go fu QD E := by
  simp only [R.go_eq] at *
  exact v_addT hl h
theorem g_addII (h : QD fu (.int (i + j))) : (gAddI (.int i) (.int j)).go fu QD E := by
  simp only [R.go_eq] at *
  exact v_addII h
theorem g_subII (h : QD fu (.int (i - j))) : (gSubI (.int i) (.int j)).go fu QD E := by
  simp only [R.go_eq] at *
  exact v_subII h
theorem g_sub (h : QD fu (.int (i - j))) : (gSub (.int i) (.int j)).go fu QD E := by
  simp only [R.go_eq] at *
  exact v_sub h
theorem g_mul (hl : (-18446744073709551616 < i ∧ i < 18446744073709551616) ∨ (-18446744073709551616 < j ∧ j < 18446744073709551616)) (h : QD fu (.int (i * j))) : (gMulA (.int i) (.int j)).go fu QD E := by
  simp only [R.go_eq] at *
  exact v_mul hl h
theorem g_mulT (hl : ds ≠ [] ∧ 2 ≤ j ∧ j ≤ 1000 ∧ ds.length ≤ 1000) (h : QD fu (.tuple (List.replicate j.toNat ds).flatten)) : (gMulA (.tuple ds) (.int j)).go fu QD E := by
  simp only [R.go_eq] at *
  exact v_mulT hl h
theorem g_mod (hl : 0 < j) (h : QD fu (.int (i % j))) : (gMod (.int i) (.int j)).go fu QD E := by
  simp only [R.go_eq] at *
  exact v_mod hl h
theorem g_div (hl : 0 < j ∧ j < 2 ^ 200) (h : QD fu (.int (i / j))) : (gDiv (.int i) (.int j)).go fu QD E := by
  simp only [R.go_eq] at *
  exact v_div hl h
theorem g_pow (hl : 0 ≤ j ∧ j ≤ 1000 ∧ i.natAbs < 2 ^ 64) (h : QD fu (.int (i ^ j.toNat))) : (gPow (.int i) (.int j)).go fu QD E := by
  simp only [R.go_eq] at *
  exact v_pow hl h
theorem g_neg (h : QD fu (.int (-i))) : (gNeg (.int i)).go fu QD E := by
  simp only [R.go_eq] at *
  exact v_neg h
theorem g_lt (h : QD fu (.bool (decide (i < j)))) : (gLt (.int i) (.int j)).go fu QD E := by
  simp only [R.go_eq] at *
  exact v_lt h
theorem g_le (h : QD fu (.bool (decide (i ≤ j)))) : (gLe (.int i) (.int j)).go fu QD E := by
  simp only [R.go_eq] at *
  exact v_le h
theorem g_gt (h : QD fu (.bool (decide (j < i)))) : (gGt (.int i) (.int j)).go fu QD E := by
  simp only [R.go_eq] at *
  exact v_gt h
theorem g_ge (h : QD fu (.bool (decide (j ≤ i)))) : (gGe (.int i) (.int j)).go fu QD E := by
  simp only [R.go_eq] at *
  exact v_ge h
theorem g_ltS (h : QD fu (.bool (decide (s.cps.toList < t.cps.toList)))) : (gLt (.str s) (.str t)).go fu QD E := by
  simp only [R.go_eq] at *
  exact v_ltS h
theorem g_leS (h : QD fu (.bool (!decide (t.cps.toList < s.cps.toList)))) : (gLe (.str s) (.str t)).go fu QD E := by
  simp only [R.go_eq] at *
  exact v_leS h
theorem g_eqI (h : QD fu (.bool (decide (i = j)))) : (gEq (.int i) (.int j)).go fu QD E := by
  simp only [R.go_eq] at *
  exact v_eqI h
theorem g_neI (h : QD fu (.bool (!decide (i = j)))) : (gNe (.int i) (.int j)).go fu QD E := by
  simp only [R.go_eq] at *
  exact v_neI h
theorem g_eqB (h : QD fu (.bool (decide (b = c)))) : (gEq (.bool b) (.bool c)).go fu QD E := by
  simp only [R.go_eq] at *
  exact v_eqB h
theorem g_neB (h : QD fu (.bool (!decide (b = c)))) : (gNe (.bool b) (.bool c)).go fu QD E := by
  simp only [R.go_eq] at *
  exact v_neB h
theorem g_eqS (h : QD fu (.bool (decide (s = t)))) : (gEq (.str s) (.str t)).go fu QD E := by
  simp only [R.go_eq] at *
  exact v_eqS h
theorem g_neS (h : QD fu (.bool (!decide (s = t)))) : (gNe (.str s) (.str t)).go fu QD E := by
  simp only [R.go_eq] at *
  exact v_neS h
theorem g_isN (h : QD fu (.bool (isNonD x))) : (gIs x .none).go fu QD E := by
  simp only [R.go_eq] at *
  exact v_isN h
theorem g_isNot (h : QD fu (.bool (!isNonD x))) : (gIsNot x .none).go fu QD E := by
  simp only [R.go_eq] at *
  exact v_isNot h
theorem g_isB (h : QD fu (.bool (decide (b = c)))) : (gIs (.bool b) (.bool c)).go fu QD E := by
  simp only [R.go_eq] at *
  exact v_isB h
theorem g_lenT (h : QD fu (.int ds.length)) : (gLen [.tuple ds]).go fu QD E := by
  simp only [R.go_eq] at *
  exact v_lenT h
theorem g_lenL (h : QD fu (.int ds.length)) : (gLen [.list ds]).go fu QD E := by
  simp only [R.go_eq] at *
  exact v_lenL h
theorem g_lenS (hl : s.length ≤ 16777216) (h : QD fu (.int s.length)) : (gLen [.str s]).go fu QD E := by
  simp only [R.go_eq] at *
  exact v_lenS hl h
theorem g_lenScr {ns : List Int} (h : QD fu (.int ns.length)) : (gLen [scrD ns]).go fu QD E := by
  simp only [R.go_eq] at *
  exact v_lenScr h
theorem g_ixL (h : (ixL ds i).go fu QD E) : (gIx (.list ds) (.int i)).go fu QD E := by
  simp only [R.go_eq] at *
  exact v_ixL h
theorem g_ixT (h : (ixL ds i).go fu QD E) : (gIx (.tuple ds) (.int i)).go fu QD E := by
  simp only [R.go_eq] at *
  exact v_ixT h
theorem g_ixI (h0 : 0 ≤ i) (e : ds[i.toNat]? = some d) (h : QD fu d) : (ixL ds i).go fu QD E := by
  simp only [R.go_eq] at *
  exact v_ixI h0 e h
theorem g_ix0 (h : QD fu d) : (ixL (d :: ds) 0).go fu QD E := by
  simp only [R.go_eq] at *
  exact v_ix0 h
theorem g_ix1 (h : QD fu y) : (ixL (x :: y :: ds) 1).go fu QD E := by
  simp only [R.go_eq] at *
  exact v_ix1 h
theorem g_ix2 (h : QD fu z) : (ixL (x :: y :: z :: ds) 2).go fu QD E := by
  simp only [R.go_eq] at *
  exact v_ix2 h
theorem g_ix3 (h : QD fu d) : (ixL (x :: y :: z :: d :: ds) 3).go fu QD E := by
  simp only [R.go_eq] at *
  exact v_ix3 h
theorem g_maxI (h : QD fu (.int (if j > i then j else i))) : (gMax [.int i, .int j]).go fu QD E := by
  simp only [R.go_eq] at *
  exact v_maxI h
theorem g_minI (h : QD fu (.int (if j < i then j else i))) : (gMin [.int i, .int j]).go fu QD E := by
  simp only [R.go_eq] at *
  exact v_minI h
theorem g_absI (h : QD fu (.int (if i < 0 then -i else i))) : (gAbs [.int i]).go fu QD E := by
  simp only [R.go_eq] at *
  exact v_absI h
theorem g_intI (h : QD fu (.int i)) : (gInt [.int i]).go fu QD E := by
  simp only [R.go_eq] at *
  exact v_intI h
theorem g_intB (h : QD fu (.int (if b then 1 else 0))) : (gInt [.bool b]).go fu QD E := by
  simp only [R.go_eq] at *
  exact v_intB h
theorem g_tupL (h : QD fu (.tuple ds)) : (gTuple [.list ds]).go fu QD E := by
  simp only [R.go_eq] at *
  exact v_tupL h
theorem g_tupT (h : QD fu (.tuple ds)) : (gTuple [.tuple ds]).go fu QD E := by
  simp only [R.go_eq] at *
  exact v_tupT h
theorem g_allB {bs : List Bool} (e : ds = bs.map PyData.bool) (h : QD fu (.bool (bs.all id))) : (gAll [.list ds]).go fu QD E := by
  simp only [R.go_eq] at *
  exact v_allB e h
theorem g_isiI (p : plainD d = true) (h : QD fu (.bool (isIntD d))) : (isiV "int" d).go fu QD E := by
  simp only [R.go_eq] at *
  exact v_isiI p h
theorem g_isiB (p : plainD d = true) (h : QD fu (.bool (isBoolD d))) : (isiV "bool" d).go fu QD E := by
  simp only [R.go_eq] at *
  exact v_isiB p h
theorem g_isiS (p : plainD d = true) (h : QD fu (.bool (isStrD d))) : (isiV "str" d).go fu QD E := by
  simp only [R.go_eq] at *
  exact v_isiS p h
theorem g_isiT (p : plainD d = true) (h : QD fu (.bool (isTupD d))) : (isiV "tuple" d).go fu QD E := by
  simp only [R.go_eq] at *
  exact v_isiT p h
theorem g_isiL (p : plainD d = true) (h : QD fu (.bool (isLstD d))) : (isiV "list" d).go fu QD E := by
  simp only [R.go_eq] at *
  exact v_isiL p h
theorem g_elT (h : QL fu ds) : (elems (.tuple ds)).go fu QL E := by
  simp only [R.go_eq] at *
  exact v_elT h
theorem g_elL (h : QL fu ds) : (elems (.list ds)).go fu QL E := by
  simp only [R.go_eq] at *
  exact v_elL h
theorem g_itT (h : QL fu ds) : (iterE (.tuple ds)).go fu QL E := by
  simp only [R.go_eq] at *
  exact v_itT h
theorem g_itL (h : QL fu ds) : (iterE (.list ds)).go fu QL E := by
  simp only [R.go_eq] at *
  exact v_itL h
theorem g_slT {l u : Option Int} (h : QD fu (.tuple (cutD ds l u))) : (gSl (.tuple ds) l u).go fu QD E := by
  simp only [R.go_eq] at *
  exact v_slT h
theorem g_slL {l u : Option Int} (h : QD fu (.list (cutD ds l u))) : (gSl (.list ds) l u).go fu QD E := by
  simp only [R.go_eq] at *
  exact v_slL h
theorem g_fmtI (h1 : i.natAbs.log2 < 1920) (h : QD fu (.str (toString i))) : (fmtR (.int i)).go fu QD E := by
  simp only [R.go_eq] at *
  exact v_fmtI h1 h
theorem g_fmt {fa : Env → R D} (h : (fa env).go fu (fun fu x => (fmtR x).go fu QD E) E) : (fmtD fa env).go fu QD E := by
  simp only [R.go_eq] at *
  exact v_fmt h
theorem g_js0 {acc : Str} (h : QD fu (.str acc)) : (jsD [] acc env).go fu QD E := by
  simp only [R.go_eq] at *
  exact v_js0 h
theorem g_js {f : Env → R D} {fs : List (Env → R D)} {acc : Str} (h : (f env).go fu (fun fu x => ∃ y, x = .str y ∧ (acc ++ y).length ≤ 16777216 ∧ (jsD fs (acc ++ y) env).go fu QD E) E) : (jsD (f :: fs) acc env).go fu QD E := by
  simp only [R.go_eq] at *
  exact v_js h
end
theorem g_loopI {QO : Nat → Out → Prop} {E : Nat → Er → Prop} {body : D → Env → R Out} (P : Nat → Nat → Env → Prop) (ds : List D) (i : Nat) (env : Env) (fu : Nat) (h0 : P i fu env)
    (hs : ∀ j d e fu, i ≤ j → ds[j - i]? = some d → P j fu e → (body d e).go fu (LpK (P (j + 1)) QO) E) (hd : ∀ e fu, P (i + ds.length) fu e → QO fu (.nx e)) : (loopL body ds env).go fu QO E := by
  simp only [R.go_eq] at *
  exact loopI P ds i env fu h0 hs hd
theorem g_compI {E : Nat → Er → Prop} {body : D → R (Option D)} (P : Nat → Nat → List D → Prop) (ds : List D) (i : Nat) (acc : List D) (fu : Nat) (QL : Nat → List D → Prop) (h0 : P i fu acc)
    (hs : ∀ j d acc fu, i ≤ j → ds[j - i]? = some d → P j fu acc → (body d).go fu (fun fu o => P (j + 1) fu (addO acc o)) E) (hd : ∀ acc' fu, P (i + ds.length) fu (acc ++ acc') → QL fu acc') : (compL body ds).go fu QL E := by
  simp only [R.go_eq] at *
  exact compI P ds i acc fu QL h0 hs hd
theorem compMap0 {E : Nat → Er → Prop} {body : D → R (Option D)} {g : D → D} : ∀ {ds : List D} {fu : Nat} {QL : Nat → List D → Prop}, (∀ d ∈ ds, ∀ fu (QX : Nat → Option D → Prop), QX fu (some (g d)) → (body d).wp fu QX E) → QL fu (ds.map g) → (compL body ds).wp fu QL E
  | [], fu, QL, _, h => h
  | d :: r, fu, QL, hb, h => bndI (hb d List.mem_cons_self fu _ (bndI (compMap0 (fun d hd => hb d (List.mem_cons_of_mem _ hd)) h)))
theorem g_compMap {E : Nat → Er → Prop} {body : D → R (Option D)} (g : D → D) {ds : List D} {fu : Nat} {QL : Nat → List D → Prop} (hb : ∀ d ∈ ds, ∀ fu (QX : Nat → Option D → Prop), QX fu (some (g d)) → (body d).go fu QX E) (h : QL fu (ds.map g)) : (compL body ds).go fu QL E := by
  simp only [R.go_eq] at *
  exact compMap0 hb h
section
variable {env : Env} {fu : Nat} {E : Nat → Er → Prop} {QO : Nat → Out → Prop} {d : D}
end
theorem R.go_wp {α : Type} {m : R α} {Q : Nat → α → Prop} {E : Nat → Er → Prop} {f : Nat} (h : m.go f Q E) : m.wp f Q E := by
  rw [R.go_eq] at h; exact h
section
variable {env : Env} {fu : Nat} {E : Nat → Er → Prop} {QO : Nat → Out → Prop} {QD Q : Nat → D → Prop} {QB : Nat → Bool → Prop} {QL : Nat → List D → Prop} {QE : Nat → Env → Prop} {QI : Nat → Option Int → Prop}
  {fa fb fc fe : Env → R D} {ft fz : Env → R Bool} {fr fk fl : Env → R (List D)} {f g : Env → R Out} {i j n : Nat} {d x y z : D} {ds es : List D} {b c : Bool} {I J : Int} {s t : Str} {e : Env} {er : Er} {a1 a2 a3 a4 a5 a6 a7 a8 : D} {P' Q' : Prop}
theorem wpq_bind {α β : Type} (m : R α) (g : α → R β) (Q : Nat → β → Prop) (E : Nat → Er → Prop) (f : Nat) : (m.bind g).wp f Q E = m.wp f (fun f a => (g a).wp f Q E) E := propext (R.wp_bind m g Q E f)
theorem wpq_both {α β : Type} (m : R α) (g : α → R β) (h : Er → R β) (Q : Nat → β → Prop) (E : Nat → Er → Prop) (f : Nat) : (m.both g h).wp f Q E = m.wp f (fun f a => (g a).wp f Q E) (fun f e => (h e).wp f Q E) := propext (R.wp_both m g h Q E f)
theorem wpq_guard {α : Type} {b : Bool} {m : R α} {f : Nat} {Q : Nat → α → Prop} {E : Nat → Er → Prop} : (guard' b m).wp f Q E = (b = true ∧ m.wp f Q E) := propext wp_guard
theorem wpq_ite {α : Type} {c : Prop} [Decidable c] {m m' : R α} {f : Nat} {Q : Nat → α → Prop} {E : Nat → Er → Prop} : (if c then m else m').wp f Q E = if c then m.wp f Q E else m'.wp f Q E := by split <;> rfl
theorem wpq_ret {α : Type} {a : α} {f : Nat} {Q : Nat → α → Prop} {E : Nat → Er → Prop} : (R.ret a).wp f Q E = Q f a := rfl
theorem wpq_err {α : Type} {a : Er} {f : Nat} {Q : Nat → α → Prop} {E : Nat → Er → Prop} : (R.err a).wp f Q E = E f a := rfl
def lookL : Option (Option DV) → R (List D)
  | some (some (.own es)) => .ret es
  | some (some (.val y)) => iterE y
  | _ => .bad
def lookT : Option (Option DV) → R D
  | some (some (.own es)) => .ret (.tuple es)
  | some (some (.val d)) => gTuple [d]
  | _ => .bad
def lookN : Option (Option DV) → R D
  | some (some (.own es)) => .ret (.int es.length)
  | some (some (.val d)) => gLen [d]
  | _ => .bad
def appR (o : Option (Option DV)) (i : Nat) (fa : Env → R D) (env : Env) : R Out := match o with
  | some (some (.own es)) => exS fa (fun d env => guard' (decide (es.length < 16777216)) (.ret (.nx (env.set i (some (.own (es ++ [d]))))))) env
  | _ => .bad
def augR (o : Option (Option DV)) (i : Nat) (g : D → D → R D) (fa : Env → R D) (env : Env) : R Out := match o with
  | some (some (.val x)) => exS fa (fun y env => (g x y).both (fun z => .ret (.nx (env.set i (some (.val z))))) (fun er => .ret (.ex env er))) env
  | _ => .bad
theorem asB_wp' : (asB x).wp fu QB E = ∃ k, x = .bool k ∧ QB fu k := by
  cases x <;> simp [asB, R.wp]
theorem q_seq : (seqS f g env).go fu QO E = (f env).go fu (SqK g QO E) E := by
  simp only [R.go_eq]
  unfold seqS
  rw [wpq_bind]
  congr 1
  funext fu o
  cases o <;> rfl
theorem q_set : (setS i fa env).go fu QO E = (fa env).go fu (fun fu d => QO fu (.nx (env.set i (some (.val d))))) (XO QO env) := by
  simp only [R.go_eq]
  first
  | rfl
  | (simp only [setS, exS, wpq_bind, wpq_both, wpq_guard, wpq_ite, wpq_ret, wpq_err]; first | done | rfl)
  | (unfold setS; simp only [wpq_bind, wpq_both, wpq_guard, wpq_ite, wpq_ret, wpq_err, decide_eq_true_eq])
theorem q_setO : (setO i fr env).go fu QO E = (fr env).go fu (fun fu d => QO fu (.nx (env.set i (some (.own d))))) (XO QO env) := by
  simp only [R.go_eq]
  first
  | rfl
  | (simp only [setO, exS, wpq_bind, wpq_both, wpq_guard, wpq_ite, wpq_ret, wpq_err]; first | done | rfl)
  | (unfold setO; simp only [wpq_bind, wpq_both, wpq_guard, wpq_ite, wpq_ret, wpq_err, decide_eq_true_eq])
theorem q_ret : (retS fa env).go fu QO E = (fa env).go fu (fun fu d => QO fu (.rt d)) (XO QO env) := by
  simp only [R.go_eq]
  first
  | rfl
  | (simp only [retS, exS, wpq_bind, wpq_both, wpq_guard, wpq_ite, wpq_ret, wpq_err]; first | done | rfl)
  | (unfold retS; simp only [wpq_bind, wpq_both, wpq_guard, wpq_ite, wpq_ret, wpq_err, decide_eq_true_eq])
theorem q_retL : (retL fr env).go fu QO E = (fr env).go fu (fun fu d => QO fu (.rl d)) (XO QO env) := by
  simp only [R.go_eq]
  first
  | rfl
  | (simp only [retL, exS, wpq_bind, wpq_both, wpq_guard, wpq_ite, wpq_ret, wpq_err]; first | done | rfl)
  | (unfold retL; simp only [wpq_bind, wpq_both, wpq_guard, wpq_ite, wpq_ret, wpq_err, decide_eq_true_eq])
theorem q_drop : (dropS fa env).go fu QO E = (fa env).go fu (fun fu _ => QO fu (.nx env)) (XO QO env) := by
  simp only [R.go_eq]
  first
  | rfl
  | (simp only [dropS, exS, wpq_bind, wpq_both, wpq_guard, wpq_ite, wpq_ret, wpq_err]; first | done | rfl)
  | (unfold dropS; simp only [wpq_bind, wpq_both, wpq_guard, wpq_ite, wpq_ret, wpq_err, decide_eq_true_eq])
theorem q_retN : (retN env).go fu QO E = QO fu (.rt .none) := by
  simp only [R.go_eq]
  first
  | rfl
  | (simp only [retN, wpq_bind, wpq_both, wpq_guard, wpq_ite, wpq_ret, wpq_err]; first | done | rfl)
  | (unfold retN; simp only [wpq_bind, wpq_both, wpq_guard, wpq_ite, wpq_ret, wpq_err, decide_eq_true_eq])
theorem q_pass : (passS env).go fu QO E = QO fu (.nx env) := by
  simp only [R.go_eq]
  first
  | rfl
  | (simp only [passS, wpq_bind, wpq_both, wpq_guard, wpq_ite, wpq_ret, wpq_err]; first | done | rfl)
  | (unfold passS; simp only [wpq_bind, wpq_both, wpq_guard, wpq_ite, wpq_ret, wpq_err, decide_eq_true_eq])
theorem q_brk : (brkS env).go fu QO E = QO fu (.bk env) := by
  simp only [R.go_eq]
  first
  | rfl
  | (simp only [brkS, wpq_bind, wpq_both, wpq_guard, wpq_ite, wpq_ret, wpq_err]; first | done | rfl)
  | (unfold brkS; simp only [wpq_bind, wpq_both, wpq_guard, wpq_ite, wpq_ret, wpq_err, decide_eq_true_eq])
theorem q_ctt : (ctS env).go fu QO E = QO fu (.ct env) := by
  simp only [R.go_eq]
  first
  | rfl
  | (simp only [ctS, wpq_bind, wpq_both, wpq_guard, wpq_ite, wpq_ret, wpq_err]; first | done | rfl)
  | (unfold ctS; simp only [wpq_bind, wpq_both, wpq_guard, wpq_ite, wpq_ret, wpq_err, decide_eq_true_eq])
theorem q_if : (ifS ft f g env).go fu QO E = (ft env).go fu (fun fu k => if k = true then (f env).go fu QO E else (g env).go fu QO E) (XO QO env) := by
  simp only [R.go_eq]
  first
  | rfl
  | (simp only [ifS, exS, wpq_bind, wpq_both, wpq_guard, wpq_ite, wpq_ret, wpq_err]; first | done | rfl)
  | (unfold ifS; simp only [wpq_bind, wpq_both, wpq_guard, wpq_ite, wpq_ret, wpq_err, decide_eq_true_eq])
theorem q_tName : (tName i d env).go fu QE E = QE fu (env.set i (some (.val d))) := by
  simp only [R.go_eq]
  first
  | rfl
  | (simp only [tName, wpq_bind, wpq_both, wpq_guard, wpq_ite, wpq_ret, wpq_err]; first | done | rfl)
  | (unfold tName; simp only [wpq_bind, wpq_both, wpq_guard, wpq_ite, wpq_ret, wpq_err, decide_eq_true_eq])
theorem q_raise : (raiseS s fa env).go fu QO E = (fa env).go fu (fun fu _ => QO fu (.ex env ⟨s, []⟩)) (XO QO env) := by
  simp only [R.go_eq]
  first
  | rfl
  | (simp only [raiseS, exS, wpq_bind, wpq_both, wpq_guard, wpq_ite, wpq_ret, wpq_err]; first | done | rfl)
  | (unfold raiseS; simp only [wpq_bind, wpq_both, wpq_guard, wpq_ite, wpq_ret, wpq_err, decide_eq_true_eq])
theorem q_c : (cD d env).go fu QD E = QD fu d := by
  simp only [R.go_eq]
  first
  | rfl
  | (simp only [cD, wpq_bind, wpq_both, wpq_guard, wpq_ite, wpq_ret, wpq_err]; first | done | rfl)
  | (unfold cD; simp only [wpq_bind, wpq_both, wpq_guard, wpq_ite, wpq_ret, wpq_err, decide_eq_true_eq])
theorem q_bin {g : D → D → R D} : (bin g fa fb env).go fu QD E = (fa env).go fu (fun fu x => (fb env).go fu (fun fu y => (g x y).go fu QD E) E) E := by
  simp only [R.go_eq]
  first
  | rfl
  | (simp only [bin, wpq_bind, wpq_both, wpq_guard, wpq_ite, wpq_ret, wpq_err]; first | done | rfl)
  | (unfold bin; simp only [wpq_bind, wpq_both, wpq_guard, wpq_ite, wpq_ret, wpq_err, decide_eq_true_eq])
theorem q_un {g : D → R D} : (un g fa env).go fu QD E = (fa env).go fu (fun fu x => (g x).go fu QD E) E := by
  simp only [R.go_eq]
  first
  | rfl
  | (simp only [un, wpq_bind, wpq_both, wpq_guard, wpq_ite, wpq_ret, wpq_err]; first | done | rfl)
  | (unfold un; simp only [wpq_bind, wpq_both, wpq_guard, wpq_ite, wpq_ret, wpq_err, decide_eq_true_eq])
theorem q_and : (andD fa fb env).go fu QD E = (fa env).go fu (fun fu x => (truD x).go fu (fun fu k => if k = true then (fb env).go fu QD E else QD fu x) E) E := by
  simp only [R.go_eq]
  first
  | rfl
  | (simp only [andD, wpq_bind, wpq_both, wpq_guard, wpq_ite, wpq_ret, wpq_err]; first | done | rfl)
  | (unfold andD; simp only [wpq_bind, wpq_both, wpq_guard, wpq_ite, wpq_ret, wpq_err, decide_eq_true_eq])
theorem q_or : (orD fa fb env).go fu QD E = (fa env).go fu (fun fu x => (truD x).go fu (fun fu k => if k = true then QD fu x else (fb env).go fu QD E) E) E := by
  simp only [R.go_eq]
  first
  | rfl
  | (simp only [orD, wpq_bind, wpq_both, wpq_guard, wpq_ite, wpq_ret, wpq_err]; first | done | rfl)
  | (unfold orD; simp only [wpq_bind, wpq_both, wpq_guard, wpq_ite, wpq_ret, wpq_err, decide_eq_true_eq])
theorem q_not : (notD fa env).go fu QD E = (fa env).go fu (fun fu x => (truD x).go fu (fun fu k => QD fu (.bool (!k))) E) E := by
  simp only [R.go_eq]
  first
  | rfl
  | (simp only [notD, wpq_bind, wpq_both, wpq_guard, wpq_ite, wpq_ret, wpq_err]; first | done | rfl)
  | (unfold notD; simp only [wpq_bind, wpq_both, wpq_guard, wpq_ite, wpq_ret, wpq_err, decide_eq_true_eq])
theorem q_ife : (ifD ft fa fb env).go fu QD E = (ft env).go fu (fun fu k => if k = true then (fa env).go fu QD E else (fb env).go fu QD E) E := by
  simp only [R.go_eq]
  first
  | rfl
  | (simp only [ifD, wpq_bind, wpq_both, wpq_guard, wpq_ite, wpq_ret, wpq_err]; first | done | rfl)
  | (unfold ifD; simp only [wpq_bind, wpq_both, wpq_guard, wpq_ite, wpq_ret, wpq_err, decide_eq_true_eq])
theorem q_tru : (truT fa env).go fu QB E = (fa env).go fu (fun fu x => (truD x).go fu QB E) E := by
  simp only [R.go_eq]
  first
  | rfl
  | (simp only [truT, wpq_bind, wpq_both, wpq_guard, wpq_ite, wpq_ret, wpq_err]; first | done | rfl)
  | (unfold truT; simp only [wpq_bind, wpq_both, wpq_guard, wpq_ite, wpq_ret, wpq_err, decide_eq_true_eq])
theorem q_blT : (blT fa env).go fu QB E = (fa env).go fu (fun fu x => ∃ k, x = .bool k ∧ QB fu k) E := by
  simp only [R.go_eq]
  first
  | rfl
  | (simp only [blT, asB_wp', wpq_bind, wpq_both, wpq_guard, wpq_ite, wpq_ret, wpq_err]; first | done | rfl)
  | (unfold blT; simp only [wpq_bind, wpq_both, wpq_guard, wpq_ite, wpq_ret, wpq_err, decide_eq_true_eq])
theorem q_andT : (andT ft fz env).go fu QB E = (ft env).go fu (fun fu k => if k = true then (fz env).go fu QB E else QB fu false) E := by
  simp only [R.go_eq]
  first
  | rfl
  | (simp only [andT, wpq_bind, wpq_both, wpq_guard, wpq_ite, wpq_ret, wpq_err]; first | done | rfl)
  | (unfold andT; simp only [wpq_bind, wpq_both, wpq_guard, wpq_ite, wpq_ret, wpq_err, decide_eq_true_eq])
theorem q_orT : (orT ft fz env).go fu QB E = (ft env).go fu (fun fu k => if k = true then QB fu true else (fz env).go fu QB E) E := by
  simp only [R.go_eq]
  first
  | rfl
  | (simp only [orT, wpq_bind, wpq_both, wpq_guard, wpq_ite, wpq_ret, wpq_err]; first | done | rfl)
  | (unfold orT; simp only [wpq_bind, wpq_both, wpq_guard, wpq_ite, wpq_ret, wpq_err, decide_eq_true_eq])
theorem q_notT : (notT ft env).go fu QB E = (ft env).go fu (fun fu k => QB fu (!k)) E := by
  simp only [R.go_eq]
  first
  | rfl
  | (simp only [notT, wpq_bind, wpq_both, wpq_guard, wpq_ite, wpq_ret, wpq_err]; first | done | rfl)
  | (unfold notT; simp only [wpq_bind, wpq_both, wpq_guard, wpq_ite, wpq_ret, wpq_err, decide_eq_true_eq])
theorem q_yes : (yesT env).go fu QB E = QB fu true := by
  simp only [R.go_eq]
  first
  | rfl
  | (simp only [yesT, wpq_bind, wpq_both, wpq_guard, wpq_ite, wpq_ret, wpq_err]; first | done | rfl)
  | (unfold yesT; simp only [wpq_bind, wpq_both, wpq_guard, wpq_ite, wpq_ret, wpq_err, decide_eq_true_eq])
theorem q_nil : (nilA env).go fu QL E = QL fu [] := by
  simp only [R.go_eq]
  first
  | rfl
  | (simp only [nilA, wpq_bind, wpq_both, wpq_guard, wpq_ite, wpq_ret, wpq_err]; first | done | rfl)
  | (unfold nilA; simp only [wpq_bind, wpq_both, wpq_guard, wpq_ite, wpq_ret, wpq_err, decide_eq_true_eq])
theorem q_cons : (consA fa fr env).go fu QL E = (fa env).go fu (fun fu x => (fr env).go fu (fun fu r => QL fu (x :: r)) E) E := by
  simp only [R.go_eq]
  first
  | rfl
  | (simp only [consA, wpq_bind, wpq_both, wpq_guard, wpq_ite, wpq_ret, wpq_err]; first | done | rfl)
  | (unfold consA; simp only [wpq_bind, wpq_both, wpq_guard, wpq_ite, wpq_ret, wpq_err, decide_eq_true_eq])
theorem q_tup : (tupD fr env).go fu QD E = (fr env).go fu (fun fu ds => ds.length ≤ 16777216 ∧ QD fu (.tuple ds)) E := by
  simp only [R.go_eq]
  first
  | rfl
  | (simp only [tupD, decide_eq_true_eq, wpq_bind, wpq_both, wpq_guard, wpq_ite, wpq_ret, wpq_err]; first | done | rfl)
  | (unfold tupD; simp only [wpq_bind, wpq_both, wpq_guard, wpq_ite, wpq_ret, wpq_err, decide_eq_true_eq])
theorem q_disp : (dispL fr env).go fu QL E = (fr env).go fu (fun fu ds => ds.length ≤ 16777216 ∧ QL fu ds) E := by
  simp only [R.go_eq]
  first
  | rfl
  | (simp only [dispL, decide_eq_true_eq, wpq_bind, wpq_both, wpq_guard, wpq_ite, wpq_ret, wpq_err]; first | done | rfl)
  | (unfold dispL; simp only [wpq_bind, wpq_both, wpq_guard, wpq_ite, wpq_ret, wpq_err, decide_eq_true_eq])
theorem q_lst : (lstD fr env).go fu QD E = (fr env).go fu (fun fu ds => QD fu (.list ds)) E := by
  simp only [R.go_eq]
  first
  | rfl
  | (simp only [lstD, wpq_bind, wpq_both, wpq_guard, wpq_ite, wpq_ret, wpq_err]; first | done | rfl)
  | (unfold lstD; simp only [wpq_bind, wpq_both, wpq_guard, wpq_ite, wpq_ret, wpq_err, decide_eq_true_eq])
theorem q_callD {g : List D → R D} : (callD g fr env).go fu QD E = (fr env).go fu (fun fu ds => (g ds).go fu QD E) E := by
  simp only [R.go_eq]
  first
  | rfl
  | (simp only [callD, wpq_bind, wpq_both, wpq_guard, wpq_ite, wpq_ret, wpq_err]; first | done | rfl)
  | (unfold callD; simp only [wpq_bind, wpq_both, wpq_guard, wpq_ite, wpq_ret, wpq_err, decide_eq_true_eq])
theorem q_call {F : List D → R D} : (callF n F fr env).go fu QD E = (fr env).go fu (fun fu ds => ds.length = n ∧ (F ds).go fu QD E) E := by
  simp only [R.go_eq]
  first
  | rfl
  | (simp only [callF, decide_eq_true_eq, wpq_bind, wpq_both, wpq_guard, wpq_ite, wpq_ret, wpq_err]; first | done | rfl)
  | (unfold callF; simp only [wpq_bind, wpq_both, wpq_guard, wpq_ite, wpq_ret, wpq_err, decide_eq_true_eq])
theorem q_callL {F : List D → R (List D)} : (callL n F fr env).go fu QL E = (fr env).go fu (fun fu ds => ds.length = n ∧ (F ds).go fu QL E) E := by
  simp only [R.go_eq]
  first
  | rfl
  | (simp only [callL, decide_eq_true_eq, wpq_bind, wpq_both, wpq_guard, wpq_ite, wpq_ret, wpq_err]; first | done | rfl)
  | (unfold callL; simp only [wpq_bind, wpq_both, wpq_guard, wpq_ite, wpq_ret, wpq_err, decide_eq_true_eq])
theorem q_callK {F : List D → R D} {perm : List (Bool × Nat)} : (callK n F perm fr fk env).go fu QD E = (fr env).go fu (fun fu ds => (fk env).go fu (fun fu es => (gP perm ds es).length = n ∧ (F (gP perm ds es)).go fu QD E) E) E := by
  simp only [R.go_eq]
  first
  | rfl
  | (simp only [callK, decide_eq_true_eq, wpq_bind, wpq_both, wpq_guard, wpq_ite, wpq_ret, wpq_err]; first | done | rfl)
  | (unfold callK; simp only [wpq_bind, wpq_both, wpq_guard, wpq_ite, wpq_ret, wpq_err, decide_eq_true_eq])
theorem q_isi {T : String} : (isiD T fa env).go fu QD E = (fa env).go fu (fun fu x => (isiV T x).go fu QD E) E := by
  simp only [R.go_eq]
  first
  | rfl
  | (simp only [isiD, wpq_bind, wpq_both, wpq_guard, wpq_ite, wpq_ret, wpq_err]; first | done | rfl)
  | (unfold isiD; simp only [wpq_bind, wpq_both, wpq_guard, wpq_ite, wpq_ret, wpq_err, decide_eq_true_eq])
theorem q_list : (listF fa env).go fu QL E = (fa env).go fu (fun fu x => (elems x).go fu QL E) E := by
  simp only [R.go_eq]
  first
  | rfl
  | (simp only [listF, wpq_bind, wpq_both, wpq_guard, wpq_ite, wpq_ret, wpq_err]; first | done | rfl)
  | (unfold listF; simp only [wpq_bind, wpq_both, wpq_guard, wpq_ite, wpq_ret, wpq_err, decide_eq_true_eq])
theorem q_iter : (iterF fa env).go fu QL E = (fa env).go fu (fun fu x => (iterE x).go fu QL E) E := by
  simp only [R.go_eq]
  first
  | rfl
  | (simp only [iterF, wpq_bind, wpq_both, wpq_guard, wpq_ite, wpq_ret, wpq_err]; first | done | rfl)
  | (unfold iterF; simp only [wpq_bind, wpq_both, wpq_guard, wpq_ite, wpq_ret, wpq_err, decide_eq_true_eq])
theorem q_noPart : (noPart env).go fu QI E = QI fu none := by
  simp only [R.go_eq]
  first
  | rfl
  | (simp only [noPart, wpq_bind, wpq_both, wpq_guard, wpq_ite, wpq_ret, wpq_err]; first | done | rfl)
  | (unfold noPart; simp only [wpq_bind, wpq_both, wpq_guard, wpq_ite, wpq_ret, wpq_err, decide_eq_true_eq])
theorem q_sl {g : D → Option Int → Option Int → R D} {fl fh : Env → R (Option Int)} : (slD g fa fl fh env).go fu QD E = (fa env).go fu (fun fu x => (fl env).go fu (fun fu l => (fh env).go fu (fun fu u => (g x l u).go fu QD E) E) E) E := by
  simp only [R.go_eq]
  first
  | rfl
  | (simp only [slD, wpq_bind, wpq_both, wpq_guard, wpq_ite, wpq_ret, wpq_err]; first | done | rfl)
  | (unfold slD; simp only [wpq_bind, wpq_both, wpq_guard, wpq_ite, wpq_ret, wpq_err, decide_eq_true_eq])
theorem q_for {fi : Env → R (List D)} {tg : D → Env → R Env} : (forS fi tg f env).go fu QO E = (fi env).go fu (fun fu ds => (loopL (fun d e => (tg d e).bind f) ds env).go fu QO E) (XO QO env) := by
  simp only [R.go_eq]
  first
  | rfl
  | (simp only [forS, exS, wpq_bind, wpq_both, wpq_guard, wpq_ite, wpq_ret, wpq_err]; first | done | rfl)
  | (unfold forS; simp only [wpq_bind, wpq_both, wpq_guard, wpq_ite, wpq_ret, wpq_err, decide_eq_true_eq])
theorem q_asg {tg : D → Env → R Env} : (asgS fa tg env).go fu QO E = (fa env).go fu (fun fu d => (tg d env).go fu (fun fu e => QO fu (.nx e)) E) (XO QO env) := by
  simp only [R.go_eq]
  first
  | rfl
  | (simp only [asgS, exS, wpq_bind, wpq_both, wpq_guard, wpq_ite, wpq_ret, wpq_err]; first | done | rfl)
  | (unfold asgS; simp only [wpq_bind, wpq_both, wpq_guard, wpq_ite, wpq_ret, wpq_err, decide_eq_true_eq])
theorem q_tCons {t : D → Env → R Env} {u : List D → Env → R Env} : (tCons t u (d :: ds) env).go fu QE E = (t d env).go fu (fun fu e => (u ds e).go fu QE E) E := by
  simp only [R.go_eq]
  first
  | rfl
  | (simp only [tCons, wpq_bind, wpq_both, wpq_guard, wpq_ite, wpq_ret, wpq_err]; first | done | rfl)
  | (unfold tCons; simp only [wpq_bind, wpq_both, wpq_guard, wpq_ite, wpq_ret, wpq_err, decide_eq_true_eq])
theorem q_tNil : (tNil [] env).go fu QE E = QE fu env := by
  simp only [R.go_eq]
  first
  | rfl
  | (simp only [tNil, wpq_bind, wpq_both, wpq_guard, wpq_ite, wpq_ret, wpq_err]; first | done | rfl)
  | (unfold tNil; simp only [wpq_bind, wpq_both, wpq_guard, wpq_ite, wpq_ret, wpq_err, decide_eq_true_eq])
theorem q_rr {α : Type} {a : α} {Q : Nat → α → Prop} : (R.ret a).go fu Q E = Q fu a := by
  simp only [R.go_eq]
  first
  | rfl
  | (simp only [wpq_bind, wpq_both, wpq_guard, wpq_ite, wpq_ret, wpq_err]; first | done | rfl)
  | (unfold R.go; simp only [wpq_bind, wpq_both, wpq_guard, wpq_ite, wpq_ret, wpq_err, decide_eq_true_eq])
theorem q_fmt : (fmtD fa env).go fu QD E = (fa env).go fu (fun fu x => (fmtR x).go fu QD E) E := by
  simp only [R.go_eq]
  first
  | rfl
  | (simp only [fmtD, wpq_bind, wpq_both, wpq_guard, wpq_ite, wpq_ret, wpq_err]; first | done | rfl)
  | (unfold fmtD; simp only [wpq_bind, wpq_both, wpq_guard, wpq_ite, wpq_ret, wpq_err, decide_eq_true_eq])
theorem q_js0 : (jsD [] s env).go fu QD E = QD fu (.str s) := by
  simp only [R.go_eq]
  first
  | rfl
  | (simp only [jsD, wpq_bind, wpq_both, wpq_guard, wpq_ite, wpq_ret, wpq_err]; first | done | rfl)
  | (unfold jsD; simp only [wpq_bind, wpq_both, wpq_guard, wpq_ite, wpq_ret, wpq_err, decide_eq_true_eq])
theorem q_truB : (truD (.bool b)).go fu QB E = QB fu b := by
  simp only [R.go_eq]
  first
  | rfl
  | (simp only [truD, wpq_bind, wpq_both, wpq_guard, wpq_ite, wpq_ret, wpq_err]; first | done | rfl)
  | (unfold truD; simp only [wpq_bind, wpq_both, wpq_guard, wpq_ite, wpq_ret, wpq_err, decide_eq_true_eq])
theorem q_truI : (truD (.int I)).go fu QB E = QB fu (I != 0) := by
  simp only [R.go_eq]
  first
  | rfl
  | (simp only [truD, wpq_bind, wpq_both, wpq_guard, wpq_ite, wpq_ret, wpq_err]; first | done | rfl)
  | (unfold truD; simp only [wpq_bind, wpq_both, wpq_guard, wpq_ite, wpq_ret, wpq_err, decide_eq_true_eq])
theorem q_truN : (truD .none).go fu QB E = QB fu false := by
  simp only [R.go_eq]
  first
  | rfl
  | (simp only [truD, wpq_bind, wpq_both, wpq_guard, wpq_ite, wpq_ret, wpq_err]; first | done | rfl)
  | (unfold truD; simp only [wpq_bind, wpq_both, wpq_guard, wpq_ite, wpq_ret, wpq_err, decide_eq_true_eq])
theorem q_truTu : (truD (.tuple ds)).go fu QB E = QB fu (!ds.isEmpty) := by
  simp only [R.go_eq]
  first
  | rfl
  | (simp only [truD, wpq_bind, wpq_both, wpq_guard, wpq_ite, wpq_ret, wpq_err]; first | done | rfl)
  | (unfold truD; simp only [wpq_bind, wpq_both, wpq_guard, wpq_ite, wpq_ret, wpq_err, decide_eq_true_eq])
theorem q_truL : (truD (.list ds)).go fu QB E = QB fu (!ds.isEmpty) := by
  simp only [R.go_eq]
  first
  | rfl
  | (simp only [truD, wpq_bind, wpq_both, wpq_guard, wpq_ite, wpq_ret, wpq_err]; first | done | rfl)
  | (unfold truD; simp only [wpq_bind, wpq_both, wpq_guard, wpq_ite, wpq_ret, wpq_err, decide_eq_true_eq])
theorem q_addI : (gAdd (.int I) (.int J)).go fu QD E = QD fu (.int (I + J)) := by
  simp only [R.go_eq]
  first
  | rfl
  | (simp only [gAdd, wpq_bind, wpq_both, wpq_guard, wpq_ite, wpq_ret, wpq_err]; first | done | rfl)
  | (unfold gAdd; simp only [wpq_bind, wpq_both, wpq_guard, wpq_ite, wpq_ret, wpq_err, decide_eq_true_eq])
theorem q_addII : (gAddI (.int I) (.int J)).go fu QD E = QD fu (.int (I + J)) := by
  simp only [R.go_eq]
  first
  | rfl
  | (simp only [gAddI, wpq_bind, wpq_both, wpq_guard, wpq_ite, wpq_ret, wpq_err]; first | done | rfl)
  | (unfold gAddI; simp only [wpq_bind, wpq_both, wpq_guard, wpq_ite, wpq_ret, wpq_err, decide_eq_true_eq])
theorem q_subII : (gSubI (.int I) (.int J)).go fu QD E = QD fu (.int (I - J)) := by
  simp only [R.go_eq]
  first
  | rfl
  | (simp only [gSubI, wpq_bind, wpq_both, wpq_guard, wpq_ite, wpq_ret, wpq_err]; first | done | rfl)
  | (unfold gSubI; simp only [wpq_bind, wpq_both, wpq_guard, wpq_ite, wpq_ret, wpq_err, decide_eq_true_eq])
theorem q_sub : (gSub (.int I) (.int J)).go fu QD E = QD fu (.int (I - J)) := by
  simp only [R.go_eq]
  first
  | rfl
  | (simp only [gSub, wpq_bind, wpq_both, wpq_guard, wpq_ite, wpq_ret, wpq_err]; first | done | rfl)
  | (unfold gSub; simp only [wpq_bind, wpq_both, wpq_guard, wpq_ite, wpq_ret, wpq_err, decide_eq_true_eq])
theorem q_neg : (gNeg (.int I)).go fu QD E = QD fu (.int (-I)) := by
  simp only [R.go_eq]
  first
  | rfl
  | (simp only [gNeg, wpq_bind, wpq_both, wpq_guard, wpq_ite, wpq_ret, wpq_err]; first | done | rfl)
  | (unfold gNeg; simp only [wpq_bind, wpq_both, wpq_guard, wpq_ite, wpq_ret, wpq_err, decide_eq_true_eq])
theorem q_lt : (gLt (.int I) (.int J)).go fu QD E = QD fu (.bool (decide (I < J))) := by
  simp only [R.go_eq]
  first
  | rfl
  | (simp only [wpq_bind, wpq_both, wpq_guard, wpq_ite, wpq_ret, wpq_err]; first | done | rfl)
  | (unfold R.go; simp only [wpq_bind, wpq_both, wpq_guard, wpq_ite, wpq_ret, wpq_err, decide_eq_true_eq])
theorem q_le : (gLe (.int I) (.int J)).go fu QD E = QD fu (.bool (decide (I ≤ J))) := by
  simp only [R.go_eq]
  first
  | rfl
  | (simp only [wpq_bind, wpq_both, wpq_guard, wpq_ite, wpq_ret, wpq_err]; first | done | rfl)
  | (unfold R.go; simp only [wpq_bind, wpq_both, wpq_guard, wpq_ite, wpq_ret, wpq_err, decide_eq_true_eq])
theorem q_gt : (gGt (.int I) (.int J)).go fu QD E = QD fu (.bool (decide (J < I))) := by
  simp only [R.go_eq]
  first
  | rfl
  | (simp only [wpq_bind, wpq_both, wpq_guard, wpq_ite, wpq_ret, wpq_err]; first | done | rfl)
  | (unfold R.go; simp only [wpq_bind, wpq_both, wpq_guard, wpq_ite, wpq_ret, wpq_err, decide_eq_true_eq])
theorem q_eqI : (gEq (.int I) (.int J)).go fu QD E = QD fu (.bool (decide (I = J))) := by
  rw [eq_ii I J]; simp only [R.go_eq]; rfl
theorem q_neI : (gNe (.int I) (.int J)).go fu QD E = QD fu (.bool (!decide (I = J))) := by
  rw [ne_ii I J]; simp only [R.go_eq]; rfl
theorem q_eqB : (gEq (.bool b) (.bool c)).go fu QD E = QD fu (.bool (decide (b = c))) := by
  rw [eq_bb b c]; simp only [R.go_eq]; rfl
theorem q_neB : (gNe (.bool b) (.bool c)).go fu QD E = QD fu (.bool (!decide (b = c))) := by
  rw [ne_bb b c]; simp only [R.go_eq]; rfl
theorem q_eqS : (gEq (.str s) (.str t)).go fu QD E = QD fu (.bool (decide (s = t))) := by
  simp only [R.go_eq]
  first
  | rfl
  | (simp only [wpq_bind, wpq_both, wpq_guard, wpq_ite, wpq_ret, wpq_err]; first | done | rfl)
  | (unfold R.go; simp only [wpq_bind, wpq_both, wpq_guard, wpq_ite, wpq_ret, wpq_err, decide_eq_true_eq])
theorem q_neS : (gNe (.str s) (.str t)).go fu QD E = QD fu (.bool (!decide (s = t))) := by
  simp only [R.go_eq]
  first
  | rfl
  | (simp only [wpq_bind, wpq_both, wpq_guard, wpq_ite, wpq_ret, wpq_err]; first | done | rfl)
  | (unfold R.go; simp only [wpq_bind, wpq_both, wpq_guard, wpq_ite, wpq_ret, wpq_err, decide_eq_true_eq])
theorem q_ltS : (gLt (.str s) (.str t)).go fu QD E = QD fu (.bool (decide (s.cps.toList < t.cps.toList))) := by
  simp only [R.go_eq]
  first
  | rfl
  | (simp only [wpq_bind, wpq_both, wpq_guard, wpq_ite, wpq_ret, wpq_err]; first | done | rfl)
  | (unfold R.go; simp only [wpq_bind, wpq_both, wpq_guard, wpq_ite, wpq_ret, wpq_err, decide_eq_true_eq])
theorem q_leS : (gLe (.str s) (.str t)).go fu QD E = QD fu (.bool (!decide (t.cps.toList < s.cps.toList))) := by
  simp only [R.go_eq]
  first
  | rfl
  | (simp only [wpq_bind, wpq_both, wpq_guard, wpq_ite, wpq_ret, wpq_err]; first | done | rfl)
  | (unfold R.go; simp only [wpq_bind, wpq_both, wpq_guard, wpq_ite, wpq_ret, wpq_err, decide_eq_true_eq])
theorem q_isN : (gIs x .none).go fu QD E = QD fu (.bool (isNonD x)) := by
  simp only [R.go_eq]; cases x <;> rfl
theorem q_isNot : (gIsNot x .none).go fu QD E = QD fu (.bool (!isNonD x)) := by
  simp only [R.go_eq]; cases x <;> rfl
theorem q_isB : (gIs (.bool b) (.bool c)).go fu QD E = QD fu (.bool (decide (b = c))) := by
  simp only [R.go_eq]
  first
  | rfl
  | (simp only [wpq_bind, wpq_both, wpq_guard, wpq_ite, wpq_ret, wpq_err]; first | done | rfl)
  | (unfold R.go; simp only [wpq_bind, wpq_both, wpq_guard, wpq_ite, wpq_ret, wpq_err, decide_eq_true_eq])
theorem q_absI : (gAbs [.int I]).go fu QD E = QD fu (.int (if I < 0 then -I else I)) := by
  simp only [R.go_eq]
  first
  | rfl
  | (simp only [wpq_bind, wpq_both, wpq_guard, wpq_ite, wpq_ret, wpq_err]; first | done | rfl)
  | (unfold R.go; simp only [wpq_bind, wpq_both, wpq_guard, wpq_ite, wpq_ret, wpq_err, decide_eq_true_eq])
theorem q_ge : (gGe (.int I) (.int J)).go fu QD E = QD fu (.bool (decide (J ≤ I))) := by
  simp only [R.go_eq]
  first
  | rfl
  | (simp only [wpq_bind, wpq_both, wpq_guard, wpq_ite, wpq_ret, wpq_err]; first | done | rfl)
  | (unfold R.go; simp only [wpq_bind, wpq_both, wpq_guard, wpq_ite, wpq_ret, wpq_err, decide_eq_true_eq])
theorem q_lenT : (gLen [.tuple ds]).go fu QD E = QD fu (.int ds.length) := by
  simp only [R.go_eq]
  first
  | rfl
  | (simp only [wpq_bind, wpq_both, wpq_guard, wpq_ite, wpq_ret, wpq_err]; first | done | rfl)
  | (unfold R.go; simp only [wpq_bind, wpq_both, wpq_guard, wpq_ite, wpq_ret, wpq_err, decide_eq_true_eq])
theorem q_lenL : (gLen [.list ds]).go fu QD E = QD fu (.int ds.length) := by
  simp only [R.go_eq]
  first
  | rfl
  | (simp only [wpq_bind, wpq_both, wpq_guard, wpq_ite, wpq_ret, wpq_err]; first | done | rfl)
  | (unfold R.go; simp only [wpq_bind, wpq_both, wpq_guard, wpq_ite, wpq_ret, wpq_err, decide_eq_true_eq])
theorem q_ixL : (gIx (.list ds) (.int I)).go fu QD E = (ixL ds I).go fu QD E := by
  simp only [R.go_eq]
  first
  | rfl
  | (simp only [wpq_bind, wpq_both, wpq_guard, wpq_ite, wpq_ret, wpq_err]; first | done | rfl)
  | (unfold R.go; simp only [wpq_bind, wpq_both, wpq_guard, wpq_ite, wpq_ret, wpq_err, decide_eq_true_eq])
theorem q_ixT : (gIx (.tuple ds) (.int I)).go fu QD E = (ixL ds I).go fu QD E := by
  simp only [R.go_eq]
  first
  | rfl
  | (simp only [wpq_bind, wpq_both, wpq_guard, wpq_ite, wpq_ret, wpq_err]; first | done | rfl)
  | (unfold R.go; simp only [wpq_bind, wpq_both, wpq_guard, wpq_ite, wpq_ret, wpq_err, decide_eq_true_eq])
theorem q_ix0 : (ixL (d :: ds) 0).go fu QD E = QD fu d := by
  simp only [R.go_eq]; rw [ixL_0]; rfl
theorem q_ix1 : (ixL (x :: y :: ds) 1).go fu QD E = QD fu y := by
  simp only [R.go_eq]; rw [ixL_1]; rfl
theorem q_ix2 : (ixL (x :: y :: z :: ds) 2).go fu QD E = QD fu z := by
  simp only [R.go_eq]; rw [ixL_2]; rfl
theorem q_ix3 : (ixL (x :: y :: z :: d :: ds) 3).go fu QD E = QD fu d := by
  simp only [R.go_eq]; rw [ixL_3]; rfl
theorem q_maxI : (gMax [.int I, .int J]).go fu QD E = QD fu (.int (if J > I then J else I)) := by
  simp only [R.go_eq]
  first
  | rfl
  | (simp only [wpq_bind, wpq_both, wpq_guard, wpq_ite, wpq_ret, wpq_err]; first | done | rfl)
  | (unfold R.go; simp only [wpq_bind, wpq_both, wpq_guard, wpq_ite, wpq_ret, wpq_err, decide_eq_true_eq])
theorem q_minI : (gMin [.int I, .int J]).go fu QD E = QD fu (.int (if J < I then J else I)) := by
  simp only [R.go_eq]
  first
  | rfl
  | (simp only [wpq_bind, wpq_both, wpq_guard, wpq_ite, wpq_ret, wpq_err]; first | done | rfl)
  | (unfold R.go; simp only [wpq_bind, wpq_both, wpq_guard, wpq_ite, wpq_ret, wpq_err, decide_eq_true_eq])
theorem q_intI : (gInt [.int I]).go fu QD E = QD fu (.int I) := by
  simp only [R.go_eq]
  first
  | rfl
  | (simp only [wpq_bind, wpq_both, wpq_guard, wpq_ite, wpq_ret, wpq_err]; first | done | rfl)
  | (unfold R.go; simp only [wpq_bind, wpq_both, wpq_guard, wpq_ite, wpq_ret, wpq_err, decide_eq_true_eq])
theorem q_intB : (gInt [.bool b]).go fu QD E = QD fu (.int (if b then 1 else 0)) := by
  simp only [R.go_eq]
  first
  | rfl
  | (simp only [wpq_bind, wpq_both, wpq_guard, wpq_ite, wpq_ret, wpq_err]; first | done | rfl)
  | (unfold R.go; simp only [wpq_bind, wpq_both, wpq_guard, wpq_ite, wpq_ret, wpq_err, decide_eq_true_eq])
theorem q_tupL : (gTuple [.list ds]).go fu QD E = QD fu (.tuple ds) := by
  simp only [R.go_eq]
  first
  | rfl
  | (simp only [wpq_bind, wpq_both, wpq_guard, wpq_ite, wpq_ret, wpq_err]; first | done | rfl)
  | (unfold R.go; simp only [wpq_bind, wpq_both, wpq_guard, wpq_ite, wpq_ret, wpq_err, decide_eq_true_eq])
theorem q_tupT : (gTuple [.tuple ds]).go fu QD E = QD fu (.tuple ds) := by
  simp only [R.go_eq]
  first
  | rfl
  | (simp only [wpq_bind, wpq_both, wpq_guard, wpq_ite, wpq_ret, wpq_err]; first | done | rfl)
  | (unfold R.go; simp only [wpq_bind, wpq_both, wpq_guard, wpq_ite, wpq_ret, wpq_err, decide_eq_true_eq])
theorem q_elT : (elems (.tuple ds)).go fu QL E = QL fu ds := by
  simp only [R.go_eq]
  first
  | rfl
  | (simp only [wpq_bind, wpq_both, wpq_guard, wpq_ite, wpq_ret, wpq_err]; first | done | rfl)
  | (unfold R.go; simp only [wpq_bind, wpq_both, wpq_guard, wpq_ite, wpq_ret, wpq_err, decide_eq_true_eq])
theorem q_elL : (elems (.list ds)).go fu QL E = QL fu ds := by
  simp only [R.go_eq]
  first
  | rfl
  | (simp only [wpq_bind, wpq_both, wpq_guard, wpq_ite, wpq_ret, wpq_err]; first | done | rfl)
  | (unfold R.go; simp only [wpq_bind, wpq_both, wpq_guard, wpq_ite, wpq_ret, wpq_err, decide_eq_true_eq])
theorem q_itT : (iterE (.tuple ds)).go fu QL E = QL fu ds := by
  simp only [R.go_eq]
  first
  | rfl
  | (simp only [wpq_bind, wpq_both, wpq_guard, wpq_ite, wpq_ret, wpq_err]; first | done | rfl)
  | (unfold R.go; simp only [wpq_bind, wpq_both, wpq_guard, wpq_ite, wpq_ret, wpq_err, decide_eq_true_eq])
theorem q_itL : (iterE (.list ds)).go fu QL E = QL fu ds := by
  simp only [R.go_eq]
  first
  | rfl
  | (simp only [wpq_bind, wpq_both, wpq_guard, wpq_ite, wpq_ret, wpq_err]; first | done | rfl)
  | (unfold R.go; simp only [wpq_bind, wpq_both, wpq_guard, wpq_ite, wpq_ret, wpq_err, decide_eq_true_eq])
theorem q_slT {l u : Option Int} : (gSl (.tuple ds) l u).go fu QD E = QD fu (.tuple (cutD ds l u)) := by
  simp only [R.go_eq]
  first
  | rfl
  | (simp only [wpq_bind, wpq_both, wpq_guard, wpq_ite, wpq_ret, wpq_err]; first | done | rfl)
  | (unfold R.go; simp only [wpq_bind, wpq_both, wpq_guard, wpq_ite, wpq_ret, wpq_err, decide_eq_true_eq])
theorem q_slL {l u : Option Int} : (gSl (.list ds) l u).go fu QD E = QD fu (.list (cutD ds l u)) := by
  simp only [R.go_eq]
  first
  | rfl
  | (simp only [wpq_bind, wpq_both, wpq_guard, wpq_ite, wpq_ret, wpq_err]; first | done | rfl)
  | (unfold R.go; simp only [wpq_bind, wpq_both, wpq_guard, wpq_ite, wpq_ret, wpq_err, decide_eq_true_eq])
theorem q_ownIt : ownIt i env = lookL (env[i]?) := by
  first | rfl | skip
  all_goals try simp only [R.go_eq]
  all_goals first | rfl | simp | simp [startE, List.replicate_succ] | (unfold frzE; rw [List.getElem?_cons_succ]; split <;> simp_all)
theorem q_ownTup : ownTup i env = lookT (env[i]?) := by
  first | rfl | skip
  all_goals try simp only [R.go_eq]
  all_goals first | rfl | simp | simp [startE, List.replicate_succ] | (unfold frzE; rw [List.getElem?_cons_succ]; split <;> simp_all)
theorem q_ownLen : ownLen i env = lookN (env[i]?) := by
  first | rfl | skip
  all_goals try simp only [R.go_eq]
  all_goals first | rfl | simp | simp [startE, List.replicate_succ] | (unfold frzE; rw [List.getElem?_cons_succ]; split <;> simp_all)
theorem q_lkL : lookL (some (some (.own es))) = .ret es := by
  first | rfl | skip
  all_goals try simp only [R.go_eq]
  all_goals first | rfl | simp | simp [startE, List.replicate_succ] | (unfold frzE; rw [List.getElem?_cons_succ]; split <;> simp_all)
theorem q_lkT : lookT (some (some (.own es))) = .ret (.tuple es) := by
  first | rfl | skip
  all_goals try simp only [R.go_eq]
  all_goals first | rfl | simp | simp [startE, List.replicate_succ] | (unfold frzE; rw [List.getElem?_cons_succ]; split <;> simp_all)
theorem q_lkTv : lookT (some (some (.val d))) = gTuple [d] := by
  first | rfl | skip
  all_goals try simp only [R.go_eq]
  all_goals first | rfl | simp | simp [startE, List.replicate_succ] | (unfold frzE; rw [List.getElem?_cons_succ]; split <;> simp_all)
theorem q_lkN : lookN (some (some (.own es))) = .ret (.int es.length) := by
  first | rfl | skip
  all_goals try simp only [R.go_eq]
  all_goals first | rfl | simp | simp [startE, List.replicate_succ] | (unfold frzE; rw [List.getElem?_cons_succ]; split <;> simp_all)
theorem q_app : appS i fa env = appR (env[i]?) i fa env := by
  first | rfl | skip
  all_goals try simp only [R.go_eq]
  all_goals first | rfl | simp | simp [startE, List.replicate_succ] | (unfold frzE; rw [List.getElem?_cons_succ]; split <;> simp_all)
theorem q_appR : (appR (some (some (.own es))) i fa env).go fu QO E = (fa env).go fu (fun fu d => es.length < 16777216 ∧ QO fu (.nx (env.set i (some (.own (es ++ [d])))))) (XO QO env) := by
  simp only [R.go_eq]
  unfold appR
  simp only [exS, wpq_bind, wpq_both, wpq_guard, wpq_ite, wpq_ret, wpq_err, decide_eq_true_eq]
theorem q_aug {gg : D → D → R D} : augS i gg fa env = augR (env[i]?) i gg fa env := by
  first | rfl | skip
  all_goals try simp only [R.go_eq]
  all_goals first | rfl | simp | simp [startE, List.replicate_succ] | (unfold frzE; rw [List.getElem?_cons_succ]; split <;> simp_all)
theorem q_augR {gg : D → D → R D} : (augR (some (some (.val x))) i gg fa env).go fu QO E = (fa env).go fu (fun fu y => (gg x y).go fu (fun fu z => QO fu (.nx (env.set i (some (.val z))))) (XO QO env)) (XO QO env) := by
  simp only [R.go_eq]
  unfold augR
  simp only [exS, wpq_bind, wpq_both, wpq_guard, wpq_ite, wpq_ret, wpq_err, decide_eq_true_eq]
theorem q_wp0 : wipeE e [] = e := by
  first | rfl | skip
  all_goals try simp only [R.go_eq]
  all_goals first | rfl | simp | simp [startE, List.replicate_succ] | (unfold frzE; rw [List.getElem?_cons_succ]; split <;> simp_all)
theorem q_wpS {l : List Nat} : wipeE e (i :: l) = List.set (wipeE e l) i none := by
  first | rfl | skip
  all_goals try simp only [R.go_eq]
  all_goals first | rfl | simp | simp [startE, List.replicate_succ] | (unfold frzE; rw [List.getElem?_cons_succ]; split <;> simp_all)
theorem q_gx0 {o : Option DV} : (o :: e)[0]? = some o := by
  first | rfl | skip
  all_goals try simp only [R.go_eq]
  all_goals first | rfl | simp | simp [startE, List.replicate_succ] | (unfold frzE; rw [List.getElem?_cons_succ]; split <;> simp_all)
theorem q_gxS {o : Option DV} : (o :: e)[i + 1]? = e[i]? := by
  first | rfl | skip
  all_goals try simp only [R.go_eq]
  all_goals first | rfl | simp | simp [startE, List.replicate_succ] | (unfold frzE; rw [List.getElem?_cons_succ]; split <;> simp_all)
theorem q_st0 : startE (n + 1) (d :: ds) = some (.val d) :: startE n ds := by
  first | rfl | skip
  all_goals try simp only [R.go_eq]
  all_goals first | rfl | simp | simp [startE, List.replicate_succ] | (unfold frzE; rw [List.getElem?_cons_succ]; split <;> simp_all)
theorem q_stN : startE (n + 1) [] = none :: startE n [] := by
  first | rfl | skip
  all_goals try simp only [R.go_eq]
  all_goals first | rfl | simp | simp [startE, List.replicate_succ] | (unfold frzE; rw [List.getElem?_cons_succ]; split <;> simp_all)
theorem q_stZ : startE 0 [] = [] := by
  first | rfl | skip
  all_goals try simp only [R.go_eq]
  all_goals first | rfl | simp | simp [startE, List.replicate_succ] | (unfold frzE; rw [List.getElem?_cons_succ]; split <;> simp_all)
theorem q_fz0 : frzE 0 (some (.own ds) :: e) = some (.val (.list ds)) :: e := by
  first | rfl | skip
  all_goals try simp only [R.go_eq]
  all_goals first | rfl | simp | simp [startE, List.replicate_succ] | (unfold frzE; rw [List.getElem?_cons_succ]; split <;> simp_all)
theorem q_fz1 : frzE 0 (some (.val d) :: e) = some (.val d) :: e := by
  first | rfl | skip
  all_goals try simp only [R.go_eq]
  all_goals first | rfl | simp | simp [startE, List.replicate_succ] | (unfold frzE; rw [List.getElem?_cons_succ]; split <;> simp_all)
theorem q_fz2 : frzE 0 (none :: e) = none :: e := by
  first | rfl | skip
  all_goals try simp only [R.go_eq]
  all_goals first | rfl | simp | simp [startE, List.replicate_succ] | (unfold frzE; rw [List.getElem?_cons_succ]; split <;> simp_all)
theorem q_fzS {o : Option DV} : frzE (i + 1) (o :: e) = o :: frzE i e := by
  first | rfl | skip
  all_goals try simp only [R.go_eq]
  all_goals first | rfl | simp | simp [startE, List.replicate_succ] | (unfold frzE; rw [List.getElem?_cons_succ]; split <;> simp_all)
theorem q_frz : (frzS i f env).go fu QO E = (f (frzE i env)).go fu QO E := by
  first | rfl | skip
  all_goals try simp only [R.go_eq]
  all_goals first | rfl | simp | simp [startE, List.replicate_succ] | (unfold frzE; rw [List.getElem?_cons_succ]; split <;> simp_all)
theorem q_nx : SqK g QO E fu (.nx e) = (g e).go fu QO E := by
  first | rfl | skip
  all_goals try simp only [R.go_eq]
  all_goals first | rfl | simp | simp [startE, List.replicate_succ] | (unfold frzE; rw [List.getElem?_cons_succ]; split <;> simp_all)
theorem q_rt : SqK g QO E fu (.rt d) = QO fu (.rt d) := by
  first | rfl | skip
  all_goals try simp only [R.go_eq]
  all_goals first | rfl | simp | simp [startE, List.replicate_succ] | (unfold frzE; rw [List.getElem?_cons_succ]; split <;> simp_all)
theorem q_rl : SqK g QO E fu (.rl ds) = QO fu (.rl ds) := by
  first | rfl | skip
  all_goals try simp only [R.go_eq]
  all_goals first | rfl | simp | simp [startE, List.replicate_succ] | (unfold frzE; rw [List.getElem?_cons_succ]; split <;> simp_all)
theorem q_bk : SqK g QO E fu (.bk e) = QO fu (.bk e) := by
  first | rfl | skip
  all_goals try simp only [R.go_eq]
  all_goals first | rfl | simp | simp [startE, List.replicate_succ] | (unfold frzE; rw [List.getElem?_cons_succ]; split <;> simp_all)
theorem q_ct : SqK g QO E fu (.ct e) = QO fu (.ct e) := by
  first | rfl | skip
  all_goals try simp only [R.go_eq]
  all_goals first | rfl | simp | simp [startE, List.replicate_succ] | (unfold frzE; rw [List.getElem?_cons_succ]; split <;> simp_all)
theorem q_ex : SqK g QO E fu (.ex e er) = QO fu (.ex e er) := by
  first | rfl | skip
  all_goals try simp only [R.go_eq]
  all_goals first | rfl | simp | simp [startE, List.replicate_succ] | (unfold frzE; rw [List.getElem?_cons_succ]; split <;> simp_all)
theorem q_dfL : DfK QD E fu (.rl ds) = QD fu (.list ds) := by
  first | rfl | skip
  all_goals try simp only [R.go_eq]
  all_goals first | rfl | simp | simp [startE, List.replicate_succ] | (unfold frzE; rw [List.getElem?_cons_succ]; split <;> simp_all)
theorem q_dfN : DfK QD E fu (.nx e) = QD fu .none := by
  first | rfl | skip
  all_goals try simp only [R.go_eq]
  all_goals first | rfl | simp | simp [startE, List.replicate_succ] | (unfold frzE; rw [List.getElem?_cons_succ]; split <;> simp_all)
theorem q_dfR : DfK QD E fu (.rt d) = QD fu d := by
  first | rfl | skip
  all_goals try simp only [R.go_eq]
  all_goals first | rfl | simp | simp [startE, List.replicate_succ] | (unfold frzE; rw [List.getElem?_cons_succ]; split <;> simp_all)
theorem q_dfX : DfK QD E fu (.ex e er) = E fu er := by
  first | rfl | skip
  all_goals try simp only [R.go_eq]
  all_goals first | rfl | simp | simp [startE, List.replicate_succ] | (unfold frzE; rw [List.getElem?_cons_succ]; split <;> simp_all)
theorem q_dlL : DlK QL E fu (.rl ds) = QL fu ds := by
  first | rfl | skip
  all_goals try simp only [R.go_eq]
  all_goals first | rfl | simp | simp [startE, List.replicate_succ] | (unfold frzE; rw [List.getElem?_cons_succ]; split <;> simp_all)
theorem q_dlX : DlK QL E fu (.ex e er) = E fu er := by
  first | rfl | skip
  all_goals try simp only [R.go_eq]
  all_goals first | rfl | simp | simp [startE, List.replicate_succ] | (unfold frzE; rw [List.getElem?_cons_succ]; split <;> simp_all)
theorem q_lpN {P : Nat → Env → Prop} : LpK P QO fu (.nx e) = P fu e := by
  first | rfl | skip
  all_goals try simp only [R.go_eq]
  all_goals first | rfl | simp | simp [startE, List.replicate_succ] | (unfold frzE; rw [List.getElem?_cons_succ]; split <;> simp_all)
theorem q_lpC {P : Nat → Env → Prop} : LpK P QO fu (.ct e) = P fu e := by
  first | rfl | skip
  all_goals try simp only [R.go_eq]
  all_goals first | rfl | simp | simp [startE, List.replicate_succ] | (unfold frzE; rw [List.getElem?_cons_succ]; split <;> simp_all)
theorem q_lpB {P : Nat → Env → Prop} : LpK P QO fu (.bk e) = QO fu (.nx e) := by
  first | rfl | skip
  all_goals try simp only [R.go_eq]
  all_goals first | rfl | simp | simp [startE, List.replicate_succ] | (unfold frzE; rw [List.getElem?_cons_succ]; split <;> simp_all)
theorem q_lpR {P : Nat → Env → Prop} : LpK P QO fu (.rt d) = QO fu (.rt d) := by
  first | rfl | skip
  all_goals try simp only [R.go_eq]
  all_goals first | rfl | simp | simp [startE, List.replicate_succ] | (unfold frzE; rw [List.getElem?_cons_succ]; split <;> simp_all)
theorem q_lpL {P : Nat → Env → Prop} : LpK P QO fu (.rl ds) = QO fu (.rl ds) := by
  first | rfl | skip
  all_goals try simp only [R.go_eq]
  all_goals first | rfl | simp | simp [startE, List.replicate_succ] | (unfold frzE; rw [List.getElem?_cons_succ]; split <;> simp_all)
theorem q_lpX {P : Nat → Env → Prop} : LpK P QO fu (.ex e er) = QO fu (.ex e er) := by
  first | rfl | skip
  all_goals try simp only [R.go_eq]
  all_goals first | rfl | simp | simp [startE, List.replicate_succ] | (unfold frzE; rw [List.getElem?_cons_succ]; split <;> simp_all)
theorem q_var0 : (varD 0 (some (.val d) :: e)).go fu QD E = QD fu d := by
  first | rfl | skip
  all_goals try simp only [R.go_eq]
  all_goals first | rfl | simp | simp [startE, List.replicate_succ] | (unfold frzE; rw [List.getElem?_cons_succ]; split <;> simp_all)
theorem q_varS {o : Option DV} : (varD (i + 1) (o :: e)).go fu QD E = (varD i e).go fu QD E := by
  first | rfl | skip
  all_goals try simp only [R.go_eq]
  all_goals first | rfl | simp | simp [startE, List.replicate_succ] | (unfold frzE; rw [List.getElem?_cons_succ]; split <;> simp_all)
theorem q_retO0 : (retO 0 (some (.own ds) :: e)).go fu QO E = QO fu (.rl ds) := by
  first | rfl | skip
  all_goals try simp only [R.go_eq]
  all_goals first | rfl | simp | simp [startE, List.replicate_succ] | (unfold frzE; rw [List.getElem?_cons_succ]; split <;> simp_all)
theorem q_exB {P : Bool → Prop} : (∃ k, PyData.bool b = PyData.bool k ∧ P k) = P b := propext ⟨fun ⟨k, h1, h2⟩ => by cases h1; exact h2, fun h => ⟨_, rfl, h⟩⟩
theorem q_iteT : (if true = true then P' else Q') = P' := by
  first | rfl | skip
  all_goals try simp only [R.go_eq]
  all_goals first | rfl | simp | simp [startE, List.replicate_succ] | (unfold frzE; rw [List.getElem?_cons_succ]; split <;> simp_all)
theorem q_iteF : (if false = true then P' else Q') = Q' := by
  first | rfl | skip
  all_goals try simp only [R.go_eq]
  all_goals first | rfl | simp | simp [startE, List.replicate_succ] | (unfold frzE; rw [List.getElem?_cons_succ]; split <;> simp_all)
theorem q_iteNF : (if (!false) = true then P' else Q') = P' := by
  first | rfl | skip
  all_goals try simp only [R.go_eq]
  all_goals first | rfl | simp | simp [startE, List.replicate_succ] | (unfold frzE; rw [List.getElem?_cons_succ]; split <;> simp_all)
theorem q_iteNT : (if (!true) = true then P' else Q') = Q' := by
  first | rfl | skip
  all_goals try simp only [R.go_eq]
  all_goals first | rfl | simp | simp [startE, List.replicate_succ] | (unfold frzE; rw [List.getElem?_cons_succ]; split <;> simp_all)
theorem q_set0 {o o' : Option DV} : List.set (o :: e) 0 o' = o' :: e := by
  first | rfl | skip
  all_goals try simp only [R.go_eq]
  all_goals first | rfl | simp | simp [startE, List.replicate_succ] | (unfold frzE; rw [List.getElem?_cons_succ]; split <;> simp_all)
theorem q_setS' {o o' : Option DV} : List.set (o :: e) (i + 1) o' = o :: List.set e i o' := by
  first | rfl | skip
  all_goals try simp only [R.go_eq]
  all_goals first | rfl | simp | simp [startE, List.replicate_succ] | (unfold frzE; rw [List.getElem?_cons_succ]; split <;> simp_all)
theorem q_isiI : (isiV "int" (.int I)).go fu QD E = QD fu (.bool (isIntD (.int I))) := by
  first | rfl | skip
  all_goals try simp only [R.go_eq]
  all_goals first | rfl | simp | simp [startE, List.replicate_succ] | (unfold frzE; rw [List.getElem?_cons_succ]; split <;> simp_all)
theorem q_isiT : (isiV "tuple" (.tuple ds)).go fu QD E = QD fu (.bool (isTupD (.tuple ds))) := by
  first | rfl | skip
  all_goals try simp only [R.go_eq]
  all_goals first | rfl | simp | simp [startE, List.replicate_succ] | (unfold frzE; rw [List.getElem?_cons_succ]; split <;> simp_all)
theorem q_le0 : (([] : List D).length ≤ 16777216 ∧ P') = P' := propext ⟨fun h => h.2, fun h => ⟨by first | rfl | decide | simp, h⟩⟩
theorem q_ln0 : (([] : List D).length = 0 ∧ P') = P' := propext ⟨fun h => h.2, fun h => ⟨by first | rfl | decide | simp, h⟩⟩
theorem q_le1 : (([a1] : List D).length ≤ 16777216 ∧ P') = P' := propext ⟨fun h => h.2, fun h => ⟨by first | rfl | decide | simp, h⟩⟩
theorem q_ln1 : (([a1] : List D).length = 1 ∧ P') = P' := propext ⟨fun h => h.2, fun h => ⟨by first | rfl | decide | simp, h⟩⟩
theorem q_le2 : (([a1, a2] : List D).length ≤ 16777216 ∧ P') = P' := propext ⟨fun h => h.2, fun h => ⟨by first | rfl | decide | simp, h⟩⟩
theorem q_ln2 : (([a1, a2] : List D).length = 2 ∧ P') = P' := propext ⟨fun h => h.2, fun h => ⟨by first | rfl | decide | simp, h⟩⟩
theorem q_le3 : (([a1, a2, a3] : List D).length ≤ 16777216 ∧ P') = P' := propext ⟨fun h => h.2, fun h => ⟨by first | rfl | decide | simp, h⟩⟩
theorem q_ln3 : (([a1, a2, a3] : List D).length = 3 ∧ P') = P' := propext ⟨fun h => h.2, fun h => ⟨by first | rfl | decide | simp, h⟩⟩
theorem q_le4 : (([a1, a2, a3, a4] : List D).length ≤ 16777216 ∧ P') = P' := propext ⟨fun h => h.2, fun h => ⟨by first | rfl | decide | simp, h⟩⟩
theorem q_ln4 : (([a1, a2, a3, a4] : List D).length = 4 ∧ P') = P' := propext ⟨fun h => h.2, fun h => ⟨by first | rfl | decide | simp, h⟩⟩
theorem q_le5 : (([a1, a2, a3, a4, a5] : List D).length ≤ 16777216 ∧ P') = P' := propext ⟨fun h => h.2, fun h => ⟨by first | rfl | decide | simp, h⟩⟩
theorem q_ln5 : (([a1, a2, a3, a4, a5] : List D).length = 5 ∧ P') = P' := propext ⟨fun h => h.2, fun h => ⟨by first | rfl | decide | simp, h⟩⟩
theorem q_le6 : (([a1, a2, a3, a4, a5, a6] : List D).length ≤ 16777216 ∧ P') = P' := propext ⟨fun h => h.2, fun h => ⟨by first | rfl | decide | simp, h⟩⟩
theorem q_ln6 : (([a1, a2, a3, a4, a5, a6] : List D).length = 6 ∧ P') = P' := propext ⟨fun h => h.2, fun h => ⟨by first | rfl | decide | simp, h⟩⟩
theorem q_le7 : (([a1, a2, a3, a4, a5, a6, a7] : List D).length ≤ 16777216 ∧ P') = P' := propext ⟨fun h => h.2, fun h => ⟨by first | rfl | decide | simp, h⟩⟩
theorem q_ln7 : (([a1, a2, a3, a4, a5, a6, a7] : List D).length = 7 ∧ P') = P' := propext ⟨fun h => h.2, fun h => ⟨by first | rfl | decide | simp, h⟩⟩
theorem q_le8 : (([a1, a2, a3, a4, a5, a6, a7, a8] : List D).length ≤ 16777216 ∧ P') = P' := propext ⟨fun h => h.2, fun h => ⟨by first | rfl | decide | simp, h⟩⟩
theorem q_ln8 : (([a1, a2, a3, a4, a5, a6, a7, a8] : List D).length = 8 ∧ P') = P' := propext ⟨fun h => h.2, fun h => ⟨by first | rfl | decide | simp, h⟩⟩
end
section
variable {X : Cx} {c : Base} {W : WX} {e a b d : Expr} {fa : Env → R D} {ft ft1 : Env → R Bool} {fi fi1 : Env → R (List D)} {st : Stmt}
theorem tLc2_ofI {vs vs1 : List Nat} {g g1 : TG} {tg tg1 : D → Env → R Env} (hg : GD c vs g tg) (hg1 : GD c vs1 g1 tg1) : ∀ σ H Q, liftL c W (compD2 fi tg ft fi1 tg1 ft1 fa vs vs1) σ H Q → tLc2 (liftI c W fi) g (liftT c (fun _ _ _ _ => False) ft) (liftI c (fun _ _ _ _ => False) fi1) g1 (liftT c (fun _ _ _ _ => False) ft1) (liftE c (fun _ _ _ _ => False) fa) vs vs1 σ H Q := fun σ H Q h => by
  obtain ⟨w, env, a, q⟩ := tLc2_of hg hg1 σ H Q h
  exact ⟨w, env, a, R.wp_mono q (fun fu ds hd J w1 e1 g1 it => hd J w1 e1 g1 it.toC) fun _ _ h => h⟩
theorem dl_lc2 {vs vs1 : List Nat} {g g1 : TG} {tg tg1 : D → Env → R Env} (hx : PE X e (tLc2 (liftI c W fi) g (liftT c (fun _ _ _ _ => False) ft) (liftI c (fun _ _ _ _ => False) fi1) g1 (liftT c (fun _ _ _ _ => False) ft1) (liftE c (fun _ _ _ _ => False) fa) vs vs1)) (hg : GD c vs g tg) (hg1 : GD c vs1 g1 tg1) : PE X e (liftL c W (compD2 fi tg ft fi1 tg1 ft1 fa vs vs1)) := pe_imp hx (tLc2_ofI hg hg1)
/-- a, b, c = x, y, z -/
def par3S (i j l : Nat) (fr : Env → R (List D)) : Env → R Out := exS fr fun ds env => match ds with
  | [x, y, z] => .ret (.nx (((env.set i (some (.val x))).set j (some (.val y))).set l (some (.val z))))
  | _ => .bad
end
section
variable {env : Env} {fu : Nat} {E : Nat → Er → Prop} {QO : Nat → Out → Prop} {QL : Nat → List D → Prop} {i j l : Nat} {fa : Env → R D} {ft ft1 : Env → R Bool} {fi fi1 : Env → R (List D)} {d : D}
theorem g_comp2 {tg tg1 : D → Env → R Env} {vs vs1 : List Nat} (h : (fi env).go fu (fun fu ds => ds.length ≤ 4000 ∧ (compL2 (outer2 tg ft fi1 tg1 ft1 fa vs vs1 env) ds).go fu QL E) E) : (compD2 fi tg ft fi1 tg1 ft1 fa vs vs1 env).go fu QL E := by
  simp only [R.go_eq] at *
  exact bndI (R.wp_mono h (fun _ _ h => wp_guard.mpr ⟨decide_eq_true h.1, h.2⟩) fun _ _ h => h)
/-- the outer turn -/
theorem g_outer {tg tg1 : D → Env → R Env} {vs vs1 : List Nat} {QX : Nat → List D → Prop} (h : (tg d (wipeE (hideO env) vs)).go fu (fun fu e => (ft e).go fu (fun fu k => if k = true then (fi1 e).go fu (fun fu ds => ds.length ≤ 4000 ∧ (compL (inner2 tg1 ft1 fa vs1 e) ds).go fu QX (fun _ _ => False)) (fun _ _ => False) else QX fu []) (fun _ _ => False)) (fun _ _ => False)) :
    (outer2 tg ft fi1 tg1 ft1 fa vs vs1 env d).go fu QX E := by
  simp only [R.go_eq] at *
  refine bthI (R.wp_mono (bndI (R.wp_mono h (fun fu e h => bndI (R.wp_mono h (fun fu k h => ?_) fun _ _ h => h)) fun _ _ h => h)) (fun _ _ h => h) fun _ _ h => h.elim)
  cases k with
  | true => rw [if_pos rfl] at h ⊢; exact bndI (R.wp_mono h (fun _ _ h => wp_guard.mpr ⟨decide_eq_true h.1, h.2⟩) fun _ _ h => h)
  | false => rw [if_neg (by decide)] at h ⊢; exact h
theorem g_inner {tg1 : D → Env → R Env} {vs1 : List Nat} {e : Env} {QX : Nat → Option D → Prop} (h : (tg1 d (wipeE (hideO e) vs1)).go fu (fun fu e => (ft1 e).go fu (fun fu k => if k = true then (fa e).go fu (fun fu y => QX fu (some y)) E else QX fu none) E) E) : (inner2 tg1 ft1 fa vs1 e d).go fu QX E := by
  simp only [R.go_eq] at *
  refine bndI (R.wp_mono h (fun fu e h => bndI (R.wp_mono h (fun fu k h => ?_) fun _ _ h => h)) fun _ _ h => h)
  cases k with
  | true => rw [if_pos rfl] at h ⊢; exact bndI h
  | false => rw [if_neg (by decide)] at h ⊢; exact h
theorem compL2_map {α : Type} (enc : α → D) (g : α → List D) {body : D → R (List D)} : ∀ {l : List α} {fu : Nat} {QL : Nat → List D → Prop}, (∀ s ∈ l, ∀ fu (QX : Nat → List D → Prop), QX fu (g s) → (body (enc s)).wp fu QX E) → QL fu (l.flatMap g) → (compL2 body (l.map enc)).wp fu QL E
  | [], fu, QL, _, h => h
  | a :: r, fu, QL, hb, h => bndI (hb a List.mem_cons_self fu _ (bndI (compL2_map enc g (fun s hs => hb s (List.mem_cons_of_mem _ hs)) (by rw [List.flatMap_cons] at h; exact h))))
/-- outer items told one by one -/
theorem g_comp2M {α : Type} (enc : α → D) (g : α → List D) {body : D → R (List D)} {l : List α} (hb : ∀ s ∈ l, ∀ fu (QX : Nat → List D → Prop), QX fu (g s) → (body (enc s)).go fu QX E) (h : QL fu (l.flatMap g)) : (compL2 body (l.map enc)).go fu QL E := by
  simp only [R.go_eq] at *
  exact compL2_map enc g hb h
end
abbrev keyV (xs : List (NestedKey × Addr × V)) : List V := xs.map fun x => V.ref x.2.1
def rSortDX (K : PySem.W.Frag) (wl : World) : List V → Hp → VK → Prop := fun vs H Q => ∃ (p : Addr) (xs : List (NestedKey × Addr × V)) (ds : List D), vs = [V.ref p] ∧ DicH K wl H p xs ∧ DpAll K H (keyV xs) ds ∧ PyData.canLayAll0 ds = true ∧ PySem.W.AllAlike ds ∧ PySem.W.Sortable ds ∧ ds.length ≤ sizeLine ∧ (∀ d ∈ ds, PyData.depth d ≤ 60) ∧
  ∀ ys p2, PySem.W.EachIs (fun v d => (v, d) ∈ (keyV xs).zip ds) ys (ds.mergeSort (PySem.W.dataLe false id)) → H p2 = none → Q (.ref p2) (upd H p2 (.lst ys))
/-- sorted(name), the name's dict one's own -/
def sortKS (i : Nat) : Env → R (List D) := fun env => match env[i]? with
  | some (some (.dic kvs)) => guard' (sortOk (kvs.map (·.1)) && kvs.all fun p => tupK p.1) (.ret (sortD (kvs.map (·.1))))
  | _ => .bad
section
variable {X : Cx} {c : Base} {W : WX} {e : Expr}
end
section
variable {env : Env} {fu : Nat} {E : Nat → Er → Prop} {QL : Nat → List D → Prop} {i : Nat} {kvs : List (D × D)}
end
section
variable {X : Cx} {c : Base} {W : WX} {w w' w1 w2 : Wd} {σ : L2.St} {env : Env} {tg iter e a b d : Expr} {fa fb fc fk fv : Env → R D} {ft : Env → R Bool} {fi : Env → R (List D)} {pos p pos2 : Pos} {st : Stmt} {f g : Env → R Out}
def keysD (m : List (Key × D)) : List D := m.map fun p => kD p.1
def iterKE (x : D) : R (List D) := match x with
  | .dict ds => match decD ds with
    | some m => .ret (keysD m)
    | none => .bad
  | _ => .bad
def iterK (fa : Env → R D) : Env → R (List D) := fun env => (fa env).bind iterKE
theorem KR.at' {K : KM} {dk : List Addr} {G : Hp} {kvs : List (Key × V)} {ds : List (Key × D)} (h : KR K dk G kvs ds) : ∀ {i : Nat} {p : Key × D}, ds[i]? = some p → ∃ v, kvs[i]? = some (p.1, v) := by
  induction h with
  | nil => intro i p e; simp at e
  | @cons k v kvs d ds h1 h2 ih =>
    intro i p e
    cases i with
    | zero => simp at e; subst e; exact ⟨_, rfl⟩
    | succ j => exact ih (i := j) e
def frzDS (i : Nat) (f : Env → R Out) : Env → R Out := fun env => match env[i]? with
  | some (some (.dic kvs)) => guard' (decD kvs).isSome (f (env.set i (some (.val (.dict kvs)))))
  | _ => f env
def liftX (c : Base) (W : WX) (f : Env → R (List (D × D))) : TE := fun σ H Q => ∃ w env, At c σ H w env ∧
  (f env).wp w.fu (fun fu kvs => ∀ p ks w', w'.fu = fu → w'.O = p :: w.O → w.H p = none → w'.H p = some (.dK ks) → WOk c w' → Grow c w { w' with O := w.O } → RpKV c.KM (c.dks w') (c.vis w') ks kvs → Q (.ref p) w'.H) (EK c W σ w)
def dicD (f : Env → R (List (D × D))) : Env → R D := fun env => (f env).bind fun kvs => .ret (.dict kvs)
def setX (i : Nat) (f : Env → R (List (D × D))) : Env → R Out := exS f fun kvs env => .ret (.nx (env.set i (some (.dic kvs))))
def compK (body : D → R (Option (Key × D))) : List D → List (Key × D) → R (List (Key × D))
  | [], acc => .ret acc
  | x :: xs, acc => (body x).bind fun o => compK body xs (match o with | some p => putD acc p.1 p.2 | none => acc)
def compX (fi : Env → R (List D)) (tg : D → Env → R Env) (ft : Env → R Bool) (fk fv : Env → R D) (vs : List Nat) : Env → R (List (D × D)) := fun env => (fi env).bind fun ds => guard' (decide (ds.length < 16777216))
  ((compK (fun d => noErr ((tg d (wipeE env vs)).bind fun e => (ft e).bind fun k => if k = true then (fk e).bind fun y => (fv e).bind fun z => (match keyOfD y with | some k => .ret (some (k, z)) | none => .bad) else .ret none)) ds []).bind fun m => .ret (encD m))
theorem KR.mono {K : KM} {dk dk' : List Addr} {G G' : Hp} {ks : List (Key × V)} {m : List (Key × D)} (h : KR K dk G ks m) (e : ∀ a o, G a = some o → G' a = some o) (ed : ∀ a ∈ dk, a ∈ dk') : KR K dk' G' ks m := by
  induction h with
  | nil => exact .nil
  | cons h1 h2 ih => exact .cons (h1.mono e ed) ih
def pairsX : List ((Env → R D) × (Env → R D)) → Env → R (List (Key × D))
  | [], _ => .ret []
  | (fk, fv) :: r, env => (fk env).bind fun y => (fv env).bind fun z => match keyOfD y with
    | some k => (pairsX r env).bind fun m => .ret ((k, z) :: m)
    | none => .bad
def dispX (l : List ((Env → R D) × (Env → R D))) : Env → R (List (D × D)) := fun env => (pairsX l env).bind fun m => guard' (decide (m.length ≤ 15)) (.ret (encD (mergeD [] m)))
end
/-- a draw of few -/
def F_draw6 : List D → R D := fun ds => match ds with
  | [x, .int n] => guard' (isDeckD x && decide (0 < n ∧ n ≤ 1000000)) (.any n fun k => .ret (.int k))
  | _ => .bad
theorem gs_draw6 {fu : Nat} {E : Nat → Er → Prop} {QD : Nat → D → Prop} {k : Int} (h1 : 0 < k) (h2 : k ≤ 1000000) (hf : 1 ≤ fu) (h : ∀ i fu', fu = fu' + 1 → 0 ≤ i → i < k → QD fu' (.int i)) : (F_draw6 [deckD, .int k]).go fu QD E := by
  simp only [R.go_eq]
  show (guard' (isDeckD deckD && decide (0 < k ∧ k ≤ 1000000)) (R.any k fun i => .ret (.int i))).wp fu QD E
  exact wp_guard.mpr ⟨by rw [Bool.and_eq_true]; exact ⟨rfl, decide_eq_true ⟨h1, h2⟩⟩, fu - 1, by omega, fun i a b => h i _ (by omega) a b⟩
theorem gs_hand {fu : Nat} {E : Nat → Er → Prop} {QD : Nat → D → Prop} {ns : List Int} (h1 : ns.length ≤ 1000) (h : QD fu deckD) : (F_hand [scrD ns]).go fu QD E := by
  simp only [R.go_eq]
  show (scrGo (scrD ns) fun ns => guard' (decide (ns.length ≤ 1000)) (R.ret deckD)).wp fu QD E
  rw [scrGo_scr]
  exact wp_guard.mpr ⟨decide_eq_true h1, h⟩
section
variable {env : Env} {fu : Nat} {E : Nat → Er → Prop} {QO : Nat → Out → Prop} {QD : Nat → D → Prop} {fa fe fk : Env → R D} {i : Nat} {kvs : List (D × D)} {neg : Bool}
end
section
variable {X : Cx}
end
section
variable {X : Cx} {c : Base} {W : WX} {st : Stmt} {fk fv : Env → R D} {ft : Env → R Bool} {fi : Env → R (List D)}
end
section
variable {env : Env} {fu : Nat} {E : Nat → Er → Prop} {QO : Nat → Out → Prop} {QD : Nat → D → Prop} {QL : Nat → List D → Prop} {QX : Nat → List (D × D) → Prop} {fa fk fv : Env → R D} {ft : Env → R Bool} {fi : Env → R (List D)} {f : Env → R Out} {fx : Env → R (List (D × D))} {i : Nat} {kvs : List (D × D)}
end
abbrev NK := NestedKey
/-- the tuple at b is the key k -/
def KTup (h : Heap) (k : NK) (b : Addr) : Prop := NestedIs h k (.ref b) ∧ k.depth ≤ 8
def KTs (h : Heap) (L : List (Addr × NK)) : Prop := ∀ p ∈ L, KTup h p.2 p.1
/-- as the set keeps them -/
def nrow (w : World) (p : Addr × NK) : Int × Value := (p.2.hash w, .ref p.1)
def nhash (w : World) (p : Addr × NK) : Int := p.2.hash w
structure NSet (w : World) (h : Heap) (a : Addr) (L : List (Addr × NK)) (es : Array (Int × Value)) (ep : Nat) (t : SetTable) : Prop where
  obj : ∃ u : Obj, h.get? a = some u ∧ u.ExactSet ∧ u.data = .set es ep t
  ents : es.toList = L.map (nrow w)
  table : TabOk t (L.map (nhash w))
  unlike : (L.map Prod.snd).Nodup
  seen : w.params.followText "set-order" = true ∨ t.led = true
  space : L.length * 5 < t.mask * 3
  small : L.length < 64
section
variable {P : Program} {w : World} {A : Around} {E : Value → Shared → Prop} {z : Shared}
theorem KTup.more {h g : Heap} {k : NK} {b : Addr} (x : KTup h k b) (keep : ∀ c u, h.get? c = some u → g.get? c = some u) : KTup g k b := ⟨NestedIs.at (fun c u _ _ e _ => keep c u e) _ _ x.1, x.2⟩
theorem KTup.obj {h : Heap} {k : NK} {b : Addr} (x : KTup h k b) : ∃ (u : Obj) (vs : Array Value) (n : Nat) (ks : List NK), k = .tup ks ∧ h.get? b = some u ∧ u.cls = .type "tuple" ∧ u.data = .seq vs n ∧ NestedAll h ks vs.toList := by
  obtain ⟨x, _⟩ := x
  cases x with
  | tup h1 h2 h3 h4 => exact ⟨_, _, _, _, rfl, h1, h2, h3, h4⟩
mutual
/-- no statement of a class lies in a key -/
theorem key_noStmt : ∀ (k : NK) (v : Value) (n : Nat) (Q : Bool → Shared → Prop), NestedIs z.heap k v → k.depth ≤ n → Q false z → wpAny (model P w) A (ofAClassStatement n v) Q E z
  | .none, _, n, Q, x, _, q => by cases x; cases n <;> exact wpAny_pure q
  | .num _, _, n, Q, x, _, q => by cases x <;> cases n <;> exact wpAny_pure q
  | .text _, _, n, Q, x, _, q => by cases x; cases n <;> exact wpAny_pure q
  | .tup ks, _, n, Q, x, d, q => by
    cases x with
    | @tup b u vs m _ h1 h2 h3 h4 =>
      rw [NestedKey.depth] at d
      cases n with
      | zero => omega
      | succ n =>
        have ty : Shared.TypeIs z (.ref b) "tuple" := ⟨_, h1, h2⟩
        unfold ofAClassStatement
        refine wpAny_bind (wpAny_typeOf ty ?_)
        dsimp only
        simp only [show (("tuple" : String) == "tuple") = true by decide, if_true, Bool.not_true, Bool.false_eq_true, if_false]
        try refine wpAny_bind (wpAny_pure ?_)
        try simp only [Bool.not_true, Bool.false_eq_true, if_false]
        show wpAny _ _ (seqItems? (.ref b) >>= _) _ _ z
        refine wpAny_bind (wpAny_seqItems h1 h3 ?_)
        dsimp only
        refine wpAny_bind ?_
        show wpAny _ _ (forIn vs _ _) _ _ z
        rw [← Array.forIn_toList]
        have each := key_noStmts ks vs.toList n h4 (by omega)
        refine wpAny_forIn_list _ (fun left r y => r.1 = none ∧ y = z ∧ ∀ v ∈ left, v ∈ vs.toList) _ (fun v left r y ⟨r1, r2, r3⟩ => ?_) (fun ⟨r0, _⟩ y ⟨r1, r2, _⟩ => ?_) _ _ ⟨rfl, rfl, fun _ m => m⟩
        · subst r2
          refine wpAny_bind (each v (r3 v List.mem_cons_self) _ ?_)
          simp only [Bool.false_eq_true, if_false]
          exact wpAny_pure ⟨rfl, rfl, fun c m => r3 c (List.mem_cons_of_mem _ m)⟩
        · subst r2
          simp only at r1
          subst r1
          exact wpAny_pure q
theorem key_noStmts : ∀ (ks : List NK) (vs : List Value) (n : Nat), NestedAll z.heap ks vs → NestedKey.depthAll ks ≤ n → ∀ v ∈ vs, ∀ Q : Bool → Shared → Prop, Q false z → wpAny (model P w) A (ofAClassStatement n v) Q E z
  | [], _, _, x, _, v, m => by cases x; cases m
  | k :: ks, _, n, x, d, v, m => fun Q q => by
    cases x with
    | cons x1 x2 =>
      rw [NestedKey.depthAll] at d
      rcases List.mem_cons.mp m with e | m
      · rw [e]; exact key_noStmt k _ n Q x1 (by omega) q
      · exact key_noStmts ks _ n x2 (by omega) v m Q q
end

mutual
/-- whether a key's hash is told by its value: told, one way or the other -/
theorem key_byValue : ∀ (k : NK) (v : Value) (n : Nat) (Q : Bool → Shared → Prop), NestedIs z.heap k v → k.depth ≤ n → (∀ b, Q b z) → wpAny (model P w) A (hashByValue n v) Q E z
  | .none, _, n, Q, x, _, q => by cases x; cases n <;> exact wpAny_pure (q _)
  | .num _, _, n, Q, x, _, q => by cases x <;> cases n <;> exact wpAny_pure (q _)
  | .text _, _, n, Q, x, _, q => by cases x; cases n <;> exact wpAny_pure (q _)
  | .tup ks, _, n, Q, x, d, q => by
    cases x with
    | @tup b u vs m _ h1 h2 h3 h4 =>
      rw [NestedKey.depth] at d
      cases n with
      | zero => omega
      | succ n =>
        have ty : Shared.TypeIs z (.ref b) "tuple" := ⟨_, h1, h2⟩
        unfold hashByValue
        refine wpAny_bind (wpAny_specialOf ty F.slot_tuple_hash.lookup ?_)
        show wpAny _ _ (seqItems? (.ref b) >>= _) _ _ z
        refine wpAny_bind (wpAny_seqItems h1 h3 ?_)
        refine wpAny_bind ?_
        show wpAny _ _ (forIn vs _ _) _ _ z
        rw [← Array.forIn_toList]
        have each := key_byValues ks vs.toList n h4 (by omega)
        refine wpAny_forIn_list _ (fun left r y => (r.1 = none ∨ ∃ b, r.1 = some b) ∧ y = z ∧ ∀ v ∈ left, v ∈ vs.toList) _ (fun v left r y ⟨r1, r2, r3⟩ => ?_) (fun ⟨r0, _⟩ y ⟨r1, r2, _⟩ => ?_) _ _ ⟨.inl rfl, rfl, fun _ m => m⟩
        · subst r2
          refine wpAny_bind (each v (r3 v List.mem_cons_self) _ fun b => ?_)
          cases b
          · simp only [Bool.not_false, if_true]
            exact wpAny_pure (by first | exact wpAny_pure (q _) | exact q _)
          · simp only [Bool.not_true, Bool.false_eq_true, if_false]
            exact wpAny_pure ⟨.inl rfl, rfl, fun c m => r3 c (List.mem_cons_of_mem _ m)⟩
        · subst r2
          simp only at r1
          rcases r1 with r1 | ⟨b, r1⟩
          · subst r1
            exact wpAny_pure (q _)
          · subst r1
            exact wpAny_pure (q _)
theorem key_byValues : ∀ (ks : List NK) (vs : List Value) (n : Nat), NestedAll z.heap ks vs → NestedKey.depthAll ks ≤ n → ∀ v ∈ vs, ∀ Q : Bool → Shared → Prop, (∀ b, Q b z) → wpAny (model P w) A (hashByValue n v) Q E z
  | [], _, _, x, _, v, m => by cases x; cases m
  | k :: ks, _, n, x, d, v, m => fun Q q => by
    cases x with
    | cons x1 x2 =>
      rw [NestedKey.depthAll] at d
      rcases List.mem_cons.mp m with e | m
      · rw [e]; exact key_byValue k _ n Q x1 (by omega) q
      · exact key_byValues ks _ n x2 (by omega) v m Q q
end
variable {a : Addr} {L : List (Addr × NK)} {es : Array (Int × Value)} {ep : Nat} {t : SetTable}
theorem NSet.count {h : Heap} (S : NSet w h a L es ep t) : es.size = L.length := by
  rw [← Array.length_toList, S.ents, List.length_map]
theorem NSet.slots {h : Heap} (S : NSet w h a L es ep t) : t.place.size = L.length := by
  rw [S.table.sz, List.length_map]
theorem NSet.ent {h : Heap} (S : NSet w h a L es ep t) {i : Nat} {p : Addr × NK} (e : L[i]? = some p) : es[i]? = some (p.2.hash w, Value.ref p.1) := by
  rw [← Array.getElem?_toList, S.ents, List.getElem?_map, e]; rfl
/-- the c-th state of a search -/
def prb (m : Nat) (h : Int) (c : Nat) : SetTable.Probe := nth m (runAt m (SetTable.bits h % (m + 1)) (SetTable.bits h)) c
/-- what a set may be while it is being filled: its table may be too full -/
structure NSet0 (w : World) (h : Heap) (a : Addr) (L : List (Addr × NK)) (es : Array (Int × Value)) (ep : Nat) (t : SetTable) : Prop where
  obj : ∃ u : Obj, h.get? a = some u ∧ u.ExactSet ∧ u.data = .set es ep t
  ents : es.toList = L.map (nrow w)
  table : TabOk t (L.map (nhash w))
  unlike : (L.map Prod.snd).Nodup
  seen : w.params.followText "set-order" = true ∨ t.led = true
  hold : L.length ≤ t.mask
  small : L.length < 64
theorem NSet0.count {h : Heap} (S : NSet0 w h a L es ep t) : es.size = L.length := by
  rw [← Array.length_toList, S.ents, List.length_map]
end
section
variable {P : Program} {w : World} {A : Around} {E : Value → Shared → Prop} {z : Shared} {a : Addr} {L : List (Addr × NK)} {es : Array (Int × Value)} {ep : Nat} {t : SetTable}
theorem NSet.at {h g : Heap} (S : NSet w h a L es ep t) (keep : ∀ u, h.get? a = some u → g.get? a = some u) : NSet w g a L es ep t :=
  ⟨let ⟨u, e, r⟩ := S.obj; ⟨u, keep u e, r⟩, S.ents, S.table, S.unlike, S.seen, S.space, S.small⟩
/-- what the set has of the first n of ks -/
structure Has (ks : List (Addr × NK)) (n : Nat) (L : List (Addr × NK)) : Prop where
  of : ∀ p ∈ L, p ∈ ks.take n
  all : ∀ p ∈ ks.take n, p.2 ∈ L.map Prod.snd
  few : L.length ≤ n
theorem Has.next {ks M : List (Addr × NK)} {n : Nat} {p : Addr × NK} (H : Has ks n L) (e : ks[n]? = some p) (same : p.2 ∈ L.map Prod.snd → M = L) (more : p.2 ∉ L.map Prod.snd → M.Perm (p :: L)) : Has ks (n + 1) M := by
  have tk : ks.take (n + 1) = ks.take n ++ [p] := by rw [List.take_succ, e]; rfl
  by_cases m : p.2 ∈ L.map Prod.snd
  · obtain rfl := same m
    refine ⟨fun q hq => ?_, fun q hq => ?_, Nat.le_succ_of_le H.few⟩
    · rw [tk]; exact List.mem_append_left _ (H.of q hq)
    · rw [tk] at hq
      rcases List.mem_append.mp hq with hq | hq
      · exact H.all q hq
      · rw [List.mem_singleton.mp hq]; exact m
  · have pm := more m
    refine ⟨fun q hq => ?_, fun q hq => ?_, by rw [pm.length_eq]; exact Nat.succ_le_succ H.few⟩
    · rw [tk]
      rcases List.mem_cons.mp (pm.mem_iff.mp hq) with hq | hq
      · rw [hq]; exact List.mem_append_right _ (List.mem_singleton.mpr rfl)
      · exact List.mem_append_left _ (H.of q hq)
    · rw [(pm.map Prod.snd).mem_iff]
      rw [tk] at hq
      rcases List.mem_append.mp hq with hq | hq
      · exact List.mem_cons_of_mem _ (H.all q hq)
      · rw [List.mem_singleton.mp hq]; exact List.mem_cons_self
end
def NSetO (w : World) (a : Addr) (L : List (Addr × NK)) : HO := .ext fun h => ∃ es ep t, NSet w h a L es ep t
abbrev refsV (L : List (Addr × NK)) : List V := L.map fun p => V.ref p.1
/-- set(xs) -/
def rSetN (K : PySem.W.Frag) (w : World) : List V → Hp → VK → Prop := fun xs H Q => ∃ (l : Addr) (ks : List (Addr × NK)), xs = [V.ref l] ∧ SqL K H l (refsV ks) ∧ (∀ p ∈ ks, KeyAt K H p.1 p.2) ∧ (∀ M : List NK, M.Nodup → (∀ k ∈ M, k ∈ ks.map Prod.snd) → M.length < 63) ∧
  ∀ a L, H a = none → (∀ p ∈ L, p ∈ ks) → (∀ p ∈ ks, p.2 ∈ L.map Prod.snd) → (L.map Prod.snd).Nodup → Q (.ref a) (upd H a (NSetO w a L))
/-- sorted(s), s such a set -/
def rSortN (K : PySem.W.Frag) (w : World) : List V → Hp → VK → Prop := fun xs H Q => ∃ (a : Addr) (L : List (Addr × NK)) (dat : NK → D), xs = [V.ref a] ∧ H a = some (NSetO w a L) ∧ (∀ p ∈ L, Dp K H (.ref p.1) (dat p.2)) ∧ sortOk (L.map fun p => dat p.2) = true ∧
  ∀ M ys p2, M.Perm L → PySem.W.EachIs (fun v d => (v, d) ∈ (refsV M).zip (M.map fun p => dat p.2)) ys (sortD (M.map fun p => dat p.2)) → H p2 = none → Q (.ref p2) (upd H p2 (.lst ys))
section
variable {X : Cx}
end
/-- each tuple once -/
def onceD : List D → List D
  | [] => []
  | d :: ds => d :: (onceD ds).filter fun e => !sameK d e
def sortSetN (fa : Env → R D) : Env → R (List D) := fun env => (fa env).bind fun x => match x with
  | .list ds => guard' (decide ((onceD ds).length < 63) && (ds.all tupK && sortOk (onceD ds))) (.ret (sortD (onceD ds)))
  | _ => .bad
mutual
theorem nk_data : ∀ {d : D} {k : NK}, nkOf d = some k → d = k.data
  | .none, k, h => by cases h; rfl
  | .int i, k, h => by cases h; rfl
  | .str x, k, h => by cases h; rfl
  | .tuple ds, k, h => by
    have h : (match nkAll ds with | some ks => some (NestedKey.tup ks) | none => none) = some k := h
    split at h
    · rename_i ks e
      cases h
      rw [NestedKey.data, ← nks_data e]
    · cases h
  | .bool _, k, h => by cases h
  | .list _, k, h => by cases h
  | .dict _, k, h => by cases h
theorem nks_data : ∀ {ds : List D} {ks : List NK}, nkAll ds = some ks → ds = NestedKey.datas ks
  | [], ks, h => by cases h; rfl
  | d :: ds, ks, h => by
    have h : (match nkOf d, nkAll ds with | some k, some ks => some (k :: ks) | _, _ => none) = some ks := h
    split at h
    · rename_i k ks2 e1 e2
      cases h
      rw [NestedKey.datas, ← nk_data e1, ← nks_data e2]
    · cases h
end
mutual
theorem nk_eqv : ∀ {d e : D} {k j : NK}, nkOf d = some k → nkOf e = some j → PyData.eqv d e = true → k = j
  | d, e, .none, j, h, g, q => by
    rw [nk_data h, nk_data g] at q
    cases j <;> simp [NestedKey.data, PyData.eqv] at q ⊢
  | d, e, .num i, j, h, g, q => by
    rw [nk_data h, nk_data g] at q
    cases j <;> simp [NestedKey.data, PyData.eqv] at q ⊢
    exact q
  | d, e, .text x, j, h, g, q => by
    rw [nk_data h, nk_data g] at q
    cases j <;> simp [NestedKey.data, PyData.eqv] at q ⊢
    exact q
  | d, e, .tup ks, j, h, g, q => by
    have ed := nk_data h
    have ee := nk_data g
    rw [ed, ee] at q
    cases j with
    | tup js =>
      simp only [NestedKey.data] at ed ee
      subst ed ee
      have h : (match nkAll (NestedKey.datas ks) with | some ks => some (NestedKey.tup ks) | none => none) = some _ := h
      have g : (match nkAll (NestedKey.datas js) with | some ks => some (NestedKey.tup ks) | none => none) = some _ := g
      split at h
      · rename_i k1 e1
        split at g
        · rename_i k2 e2
          cases h
          cases g
          simp only [NestedKey.data, PyData.eqv] at q
          rw [nks_eqv e1 e2 q]
        · cases g
      · cases h
    | _ => simp [NestedKey.data, PyData.eqv] at q
theorem nks_eqv : ∀ {ds es : List D} {ks js : List NK}, nkAll ds = some ks → nkAll es = some js → PyData.eqvAll ds es = true → ks = js
  | ds, es, [], js, h, g, q => by
    rw [nks_data h, nks_data g] at q
    cases js with
    | nil => rfl
    | cons j js => simp [NestedKey.datas, PyData.eqvAll] at q
  | ds, es, k :: ks, js, h, g, q => by
    have ed := nks_data h
    have ee := nks_data g
    rw [ed, ee] at q
    cases js with
    | nil => simp [NestedKey.datas, PyData.eqvAll] at q
    | cons j js =>
      simp only [NestedKey.datas] at ed ee
      subst ed ee
      have h : (match nkOf k.data, nkAll (NestedKey.datas ks) with | some k, some ks => some (k :: ks) | _, _ => none) = some _ := h
      have g : (match nkOf j.data, nkAll (NestedKey.datas js) with | some k, some ks => some (k :: ks) | _, _ => none) = some _ := g
      split at h
      · rename_i k1 k2 e1 e2
        split at g
        · rename_i j1 j2 f1 f2
          cases h
          cases g
          simp only [NestedKey.datas, PyData.eqvAll, Bool.and_eq_true] at q
          rw [nk_eqv e1 f1 q.1, nks_eqv e2 f2 q.2]
        · cases g
      · cases h
end
section
variable {X : Cx} {c : Base} {W : WX} {e a b d : Expr} {fa : Env → R D}
end
section
variable {env : Env} {fu : Nat} {E : Nat → Er → Prop} {QL : Nat → List D → Prop} {fa : Env → R D}
end
section
variable {X : Cx} {CX : CXT} {E : L2.St → XK} {x : Str} {p pos : Pos} {e : Expr} {es : List Expr} {t : TA} {i : Nat}
/-- one of the functions of a table -/
structure FnIn (X : Cx) (CX : CXT) (f : Addr) (sp : Sp) : Prop where
  ex : ∃ k fd ps, FnG X.prog X.w X.K X.mg X.base CX k f fd ps sp ∧ Room k X.A ∧ Binds X.K fd ps [] ∧ PySem.W.keepIn X.K (.ref f) = true
def tCallV (i : Nat) (S : Addr → Sp → Prop) (E : L2.St → XK) (t : TA) : TE := fun σ H Q => ∃ f sp, σ[i]? = some (some (.ref f)) ∧ S f sp ∧ t σ H fun vs H1 => sp vs H1 Q (E σ)
end
structure ModD (P : Program) (w : World) (K : PySem.W.Frag) (a : Addr) (kvs : List (Str × Addr)) : Prop where
  ex : ∃ o es ep, K.lookup a = some o ∧ o.ExactDict ∧ o.data = .dict es ep ∧ KeysOf (mixKind P w) es ∧ Pairs (mixKind P w) es.toList (kvs.map fun p => ((.inr p.1 : Key), Value.ref p.2)) ∧ ((kvs.map fun p => ((.inr p.1 : Key), Value.ref p.2)).map (·.1)).Nodup
def entM (w : World) (e : Str × Nat × Addr) : DictEntry := { hash := PyData.keyHash w.params e.1, key := .str e.1 e.2.1, val := .ref e.2.2 }
def atK (kvs : List (Str × Addr)) (k : Str) : Option Addr := (kvs.find? fun p => decide (p.1 = k)).map (·.2)
def rModGet (a : Addr) (kvs : List (Str × Addr)) : R2 := fun x y H Q => ∃ k f, x = .ref a ∧ y = .str k ∧ atK kvs k = some f ∧ Q (.ref f) H
def actT (T : List (Str × (List D → R D))) (w : Str) : Option (List D → R D) := (T.find? fun p => decide (p.1 = w)).map (·.2)
def actS (i n : Nat) (T : List (Str × (List D → R D))) (fk : Env → R D) (fr : Env → R (List D)) : Env → R Out :=
  exS fk fun d env => match d with
    | .str w => match env[i]?, actT T w with
      | some _, some F => retS (callF n F fr) (env.set i none)
      | _, _ => .bad
    | _ => .bad
section
variable {X : Cx} {c : Base} {W : WX} {a : Addr} {kvs : List (Str × Addr)} {T : List (Str × (List D → R D))} {i n : Nat} {fk : Env → R D} {fr : Env → R (List D)} {x nm : Str} {key e : Expr} {es : List Expr} {p1 p2 p3 p4 p5 p6 p7 : Pos}
end
def consStar (fa : Env → R D) (fr : Env → R (List D)) : Env → R (List D) := fun env => (fa env).bind fun x => match x with
  | .tuple xs => (fr env).bind fun r => .ret (xs ++ r)
  | .list xs => (fr env).bind fun r => .ret (xs ++ r)
  | _ => .bad
section
variable {X : Cx} {c : Base} {W : WX} {a : Expr} {p : Pos} {fa : Env → R D} {fr : Env → R (List D)} {rest : List Expr}
end
section
variable {env : Env} {fu : Nat} {E : Nat → Er → Prop} {QL : Nat → List D → Prop} {fa : Env → R D} {fr : Env → R (List D)}
end
def TabIn (X : Cx) (c : Base) (n : Nat) (T : List (Str × (List D → R D))) (kvs : List (Str × Addr)) : Prop := ∀ w F, actT T w = some F → ∃ f, atK kvs w = some f ∧ FnIn X (L2.CX X.prog X.w) f (SpD c.wl c.K c.mg c.DP n F)
def minZ (n : Int) (ns : List Int) : Int := ns.foldl (fun a b => if b < a then b else a) n
def maxZ (n : Int) (ns : List Int) : Int := ns.foldl (fun a b => if b > a then b else a) n
def gMinL (xs : List D) : R D := match xs with
  | [.list ds] => match intsOf ds with
    | some (n :: ns) => .ret (.int (minZ n ns))
    | _ => .bad
  | _ => .bad
def gMaxL (xs : List D) : R D := match xs with
  | [.list ds] => match intsOf ds with
    | some (n :: ns) => .ret (.int (maxZ n ns))
    | _ => .bad
  | _ => .bad
section
variable {fu : Nat} {E : Nat → Er → Prop} {QD : Nat → D → Prop}
end
def idxD (ds : List D) (d : D) : Option Nat := ds.findIdx? fun z => PyData.eqv z d
def gIndexL (ds : List D) (d : D) : R D := guard' (SeqAt.shaped (.list ds) && SeqAt.shaped d) (match idxD ds d with
  | some j => .ret (.int (j : Nat))
  | none => .bad)
/-- the list is data, or one's own -/
def indexV (fa fb : Env → R D) : Env → R D := fun env => (fa env).bind fun x => match x with
  | .list ds => (fb env).bind fun y => gIndexL ds y
  | _ => .bad
section
variable {X : Cx} {c : Base} {W : WX} {e : Expr} {fa fb : Env → R D}
def ownIndex (i : Nat) (fb : Env → R D) : Env → R D := fun env => match env[i]? with
  | some (some (.own es)) => (fb env).bind fun y => gIndexL es y
  | some (some (.val (.list ds))) => (fb env).bind fun y => gIndexL ds y
  | _ => .bad
end
section
variable {env : Env} {fu : Nat} {E : Nat → Er → Prop} {QD : Nat → D → Prop} {fa fb : Env → R D} {ds : List D} {d : D} {j : Nat}
end
/-- what a comprehension does behind the tests of its clause d, and then k -/
def compNext (elt : Expr) (gens : List Comprehension) (scope : Scope) (pos : Pos) (d : Nat) (acc : Value) (env : PySem.Env) (k : Sem Fin) : Sem Fin :=
  match gens[d + 1]? with
  | some g => do
    let x ← eval g.iter env
    standAt g.iter.pos
    let x ← foldedSetIterable g.iter env x
    let _ ← runOwn (.compStart (.ListComp elt gens scope pos) (d + 1) (← holding [x] (pyIter x)) acc env) env
    k
  | none => do
    (do let _ ← call (.builtin "list.append") [acc, ← eval elt env])
    k
section
variable {prog : Program} {w : World} {A : Around} {R : Result → Shared → Prop} {s : Shared} {elt t i : Expr} {ifs : List Expr} {gens : List Comprehension} {scope : Scope} {pos : Pos} {d : Nat} {it acc : Value} {env : PySem.Env}
end
/-- a later clause: its source, target, tests, and the names of it and of all behind it -/
structure Cl where
  wi : TI
  g : TG
  tt : TT
  vs : List Nat
def tIn (te : TE) (D : Addr) : List Cl → L2.St → (Hp → Prop) → Hp → Prop
  | [], σ, Nx, H => te σ H fun y H7 => ∃ acc, H7 D = some (.lst acc) ∧ acc.length < sizeLine ∧ Nx (upd H7 D (.lst (acc ++ [y])))
  | c :: cs, σ, Nx, H => c.wi σ H fun J H4 => ∃ W : Nat → Nat → Hp → Prop, (∃ m, W 0 m H4) ∧ ∀ j k H, W j k H →
      (J.stop j H ∧ Nx H) ∨ (J.go j H ∧ ∃ Nx1 : Hp → Prop, (∀ H', Nx1 H' → ∃ k', k' < k ∧ W (j + 1) k' H') ∧ ∀ x H', J.yld j H x H' → c.g x (wipe σ c.vs) H' fun σ3 H5 => wipe σ3 c.vs = wipe σ c.vs ∧ c.tt σ3 H5 fun b H6 =>
        if b = true then tIn te D cs σ3 Nx1 H6 else Nx1 H6)
structure ClOk (Y : Cx) (q : Comprehension) (c : Cl) : Prop where
  i : PI Y q.target q.iter c.wi
  g : PG Y q.target c.g
  t : PTs Y q.ifs c.tt
  f : ∀ x, foldedSetIterable q.iter Y.env x = pure x
inductive ClsOk (Y : Cx) : List Comprehension → List Cl → Prop
  | nil : ClsOk Y [] []
  | cons {g c gs cs} : ClOk Y g c → ClsOk Y gs cs → ClsOk Y (g :: gs) (c :: cs)
def Sub : List Nat → List Cl → Prop
  | _, [] => True
  | vs, c :: cs => (∀ i ∈ c.vs, i ∈ vs) ∧ Sub c.vs cs
/-- behind the tests of the clause d stand the clauses cs -/
def NextOk (Y : Cx) (elt : Expr) (gens : List Comprehension) (scope : Scope) (pos : Pos) (D : Addr) (te : TE) (d : Nat) (vs : List Nat) (cs : List Cl) : Prop := ∀ (pins : List (Addr × Obj)) (σ : L2.St) (H : Hp) (s : Shared) (Nx : Hp → Prop) (k : Sem Fin) (Qk : Fin → Shared → Prop) (Er : Value → Shared → Prop),
    Inv Y pins σ H s → tIn te D cs σ Nx H →
    (∀ s' σ' H', Inv Y pins σ' H' s' → σ.length = σ'.length → (∀ (j : Nat) v, (wipe σ vs)[j]? = some (some v) → σ'[j]? = some (some v)) → Nx H' → wpAny (model Y.prog Y.w) Y.A k Qk Er s') →
    wpAny (model Y.prog Y.w) Y.A (compNext elt gens scope pos d (.ref D) Y.env k) Qk Er s
section
variable {Y : Cx} {elt : Expr} {te : TE} {gens : List Comprehension} {scope : Scope} {pos : Pos} {D : Addr}
end
section
variable {X : Cx}
/-- [elt for tg in iter if .. for ..] with any number of clauses -/
def tLcN (wi : TI) (g : TG) (tt : TT) (cs : List Cl) (te : TE) (vs : List Nat) : TE := fun σ H Q => wi σ H fun J H1 => ∀ D, H1 D = none → ∃ W : Nat → Nat → Hp → Prop, (∃ m, W 0 m (upd H1 D (.lst []))) ∧ ∀ i m H, W i m H →
  (J.stop i H ∧ Q (.ref D) H) ∨ (J.go i H ∧ ∃ Nx : Hp → Prop, (∀ H', Nx H' → ∃ m', m' < m ∧ W (i + 1) m' H') ∧ ∀ x H', J.yld i H x H' → g x (wipe σ vs) H' fun σ2 H2 => wipe σ2 vs = wipe σ vs ∧ tt σ2 H2 fun b H3 =>
    if b = true then tIn te D cs σ2 Nx H3 else Nx H3)
end
/-- a later clause; b: at most so many come of one item -/
structure DC where
  fi : Env → R (List D)
  tg : D → Env → R Env
  ft : Env → R Bool
  vs : List Nat
  b : Nat
def inN (fa : Env → R D) : List DC → Nat → Env → R (List D)
  | [], cap, e => guard' (decide (1 ≤ cap)) ((fa e).bind fun y => .ret [y])
  | c :: cs, cap, e => (c.fi e).bind fun ds => guard' (decide (ds.length * c.b ≤ cap)) (compL2 (fun d => (c.tg d (wipeE (hideO e) c.vs)).bind fun e2 => (c.ft e2).bind fun k => if k = true then inN fa cs c.b e2 else .ret []) ds)
def compDN (fi : Env → R (List D)) (tg : D → Env → R Env) (ft : Env → R Bool) (b : Nat) (cs : List DC) (fa : Env → R D) (vs : List Nat) : Env → R (List D) := fun env => (fi env).bind fun ds => guard' (decide (ds.length * b ≤ 16777215))
  (compL2 (fun d => noErr ((tg d (wipeE (hideO env) vs)).bind fun e => (ft e).bind fun k => if k = true then inN fa cs b e else .ret [])) ds)
section
variable {X : Cx} {c : Base} {W : WX} {w w' w1 w2 w3 : Wd} {σ : L2.St} {env : Env} {e a b d : Expr} {fa : Env → R D} {ft ft1 : Env → R Bool} {fi fi1 : Env → R (List D)} {Dp : Addr} {us : List V} {acc : List D}
abbrev noW : WX := fun _ _ _ _ => False
def clOf (c : Base) (p : DC × TG) : Cl := ⟨liftI c noW p.1.fi, p.2, liftT c noW p.1.ft, p.1.vs⟩
end
section
variable {env : Env} {fu : Nat} {E : Nat → Er → Prop} {QL QX : Nat → List D → Prop} {fa : Env → R D} {ft : Env → R Bool} {fi : Env → R (List D)} {tg : D → Env → R Env} {d : D} {b cap : Nat} {c : DC} {cs : List DC} {vs : List Nat} {e : Env}
end
def subB : List Nat → List (List Nat) → Bool
  | _, [] => true
  | vs, v :: r => (v.all fun i => decide (i ∈ vs)) && subB v r
section
variable {X : Cx} {c : Base}
section
variable {W : WX} {st : Stmt} {ft : Env → R Bool} {fa : Env → R D} {fi : Env → R (List D)}
end
end
def rngV (fa : Env → R D) : Env → R D := fun env => (fa env).bind fun x => match x with
  | .int j => guard' (rngOk 0 j) (.ret (rgD 0 j))
  | _ => .bad
def rgOf : D → Option (Int × Int)
  | .dict [(.list [.int i, .int j], .none)] => some (i, j)
  | _ => none
def iterV (fa : Env → R D) : Env → R (List D) := fun env => (fa env).bind fun x => match rgOf x with
  | some (i, j) => guard' (rngOk i j) (.ret (rngD i j))
  | none => .bad
/-- a walk of a range object -/
def iRngV (te : TE) : TI := fun σ H R => te σ H fun x H1 => ∃ (a : Addr) (i j : Int), x = .ref a ∧ H1 a = some (.rng i j) ∧ (-(2 ^ 62) ≤ i ∧ i < 2 ^ 62 ∧ -(2 ^ 62) ≤ j ∧ j < 2 ^ 62) ∧ R (Itr i (j - i).toNat) H1
section
variable {X : Cx} {tg e : Expr} {te : TE} {c : Base} {W : WX} {fa : Env → R D}
end
section
variable {env : Env} {fu : Nat} {E : Nat → Er → Prop} {QD : Nat → D → Prop} {QL : Nat → List D → Prop} {fa : Env → R D}
end
end DL
namespace DL
open PySem PySem.Calls PyProof.Rows PySem.W
def WAl (d d' : PyData) : Prop := ∃ u r u' r', d = .tuple (.str u :: r) ∧ d' = .tuple (.str u' :: r') ∧ (u = u' → alikeAll r r' = true)
def Worded (ds : List PyData) : Prop := ∀ d, d ∈ ds → ∀ d', d' ∈ ds → WAl d d'
section
variable {prog : Program} {w : World} {A : Around} {E : Value → Shared → Prop} {s : Shared}
end
end DL
namespace DL
open PySem PySem.Spec PyProof.Rows L2
def rSortW (K : PySem.W.Frag) : List V → Hp → VK → Prop := fun vs H Q => ∃ (a : Addr) (xs : List V) (ds : List D), vs = [V.ref a] ∧ SqL K H a xs ∧ DpAll K H xs ds ∧ Worded ds ∧ ds.length ≤ sizeLine ∧ (∀ d ∈ ds, d.depth ≤ 60) ∧
  ∀ ys p, PySem.W.EachIs (fun v d => (v, d) ∈ xs.zip ds) ys (ds.mergeSort (PySem.W.dataLe false id)) → H p = none → Q (.ref p) (upd H p (.lst ys))
def walB (d d' : D) : Bool := match d, d' with
  | .tuple (.str u :: r), .tuple (.str u' :: r') => !decide (u = u') || PySem.W.alikeAll r r'
  | _, _ => false
def sortOkW (ds : List D) : Bool := PyData.canLayAll0 ds && ((ds.all fun d => ds.all fun d' => walB d d') && (decide (ds.length ≤ 16777216) && ds.all fun d => decide (d.depth ≤ 60)))
def sortW (f : Env → R D) : Env → R (List D) := fun env => (f env).bind fun x => match x with
  | .list ds => guard' (sortOkW ds) (.ret (sortD ds))
  | _ => .bad
section
variable {X : Cx} {c : Base} {W : WX} {e : Expr} {fa : Env → R D}
end
section
variable {env : Env} {fu : Nat} {E : Nat → Er → Prop} {QL : Nat → List D → Prop} {fa : Env → R D}
end
section
variable {X : Cx}
def rRep1 (K : PySem.W.Frag) : R2 := fun x y H Q => ∃ l xs, x = .ref l ∧ y = .int 1 ∧ SqT K H l xs ∧ Q (.ref l) H
end
def rMulB (K : PySem.W.Frag) : R2 := orR (rRep1 K) (rRepF K)
def gMulB (x y : D) : R D := match x, y with
  | .tuple ds, .int k => if k = 1 then .ret (.tuple ds) else guard' (decide (ds ≠ [] ∧ 2 ≤ k ∧ k ≤ 1000 ∧ ds.length ≤ 1000)) (.ret (.tuple (List.replicate k.toNat ds).flatten))
  | _, _ => .bad
section
variable {fu : Nat} {E : Nat → Er → Prop} {QD : Nat → D → Prop} {ds : List D} {n : Nat} {d : D}
end
section
variable {X : Cx}
def rRep0 (K : PySem.W.Frag) : R2 := fun x y H Q => ∃ l k xs, x = .ref l ∧ y = .int k ∧ SqT K H l xs ∧ xs ≠ [] ∧ k ≤ 0 ∧ -1000 ≤ k ∧ ∀ p o, H p = none → o.dict = none → Q (.ref p) (upd H p (.frz o (.tup [])))
end
def rMulC (K : PySem.W.Frag) : R2 := orR (orR (rRep0 K) (rMulB K)) (rMulAll K)
def gMulC (x y : D) : R D := match x, y with
  | .tuple ds, .int k => if k ≤ 0 then guard' (decide (ds ≠ [] ∧ -1000 ≤ k)) (.ret (.tuple [])) else gMulB (.tuple ds) (.int k)
  | .int i, .int j => gMulA (.int i) (.int j)
  | _, _ => .bad
section
variable {fu : Nat} {E : Nat → Er → Prop} {QD : Nat → D → Prop} {ds : List D} {n : Nat} {d : D}
end
/-- the clause 'except C as n: suite' -/
def wLook (K : PySem.W.Frag) (c : Value) (i : Nat) (ts : Addr → TS) (Wout : WX) (Dn : Ends) : WX := fun cls d τ G =>
  ∃ b, PySem.W.exmOne K cls c = some b ∧ (b = true → d = none ∧ ∀ e, G e = none → ts e { Dn with nx := fun τ' G' => Dn.nx (τ'.set i none) G', rt := fun _ _ => False, bk := fun _ _ => False, ct := fun _ _ => False } (τ.set i (some (.ref e))) (upd G e (EXO cls e))) ∧ (b = false → Wout cls d τ G)
section
variable {X : Cx} {ps : List (Addr × Obj)} {τ : L2.St} {G : Hp} {z : Shared}
theorem suite_bare {e : Addr} {q : Addr × Obj} (I : Inv (X.suite e (q :: (X.pn ++ ps))) [] τ G z) (ok : X.Ok) : Inv (X.suite e (X.pn ++ ps)) [] τ G z :=
  ⟨ok.suite _ _, I.os, I.bare, I.base, I.loc, I.cell, I.free, I.freeC, fun p hp => I.pin p (by
    rw [List.append_nil] at hp ⊢
    exact List.mem_cons_of_mem _ hp), I.hok, I.len⟩
theorem unsuite_bare {e : Addr} (I : Inv (X.suite e (X.pn ++ ps)) [] τ G z) (ok : X.Ok) : Inv X ps τ G z :=
  ⟨ok, I.os, I.bare, I.base, I.loc, I.cell, I.free, I.freeC, fun p hp => I.pin p (by rw [List.append_nil]; exact hp), I.hok, I.len⟩
variable {cx n : Str} {c : Value} {i : Nat} {body suite : List Stmt} {st₀ : Stmt} {q1 q2 pos : Pos} {tb : WX → TS} {ts : Addr → TS} {Wout : WX}
theorem ps_try_look (hstk : X.stack = X.env :: X.outer) (hfr : X.env.frame = some X.env.locals) (hex : X.ex = []) (hN : X.N.Nodup) (hi : X.N[i]? = some n) (hln : X.env.kindOf n = some .local) (hc : Names X cx c) (tk : Takes X Wout)
    (hb : ∀ (W : WX) (pn : List (Addr × Obj)) (xe : Value → Shared → Prop), Takes (X.tr pn xe) W → PassesOwn (model X.prog X.w) X.A X.env xe → PSs (X.tr pn xe) body (tb W))
    (hsu : ∀ (a : Addr) (pn : List (Addr × Obj)), PSs (X.suite a pn) (st₀ :: suite) (ts a)) :
    PS X (.Try body [.ExceptHandler (some (.Name cx q1)) (some n) (st₀ :: suite) q2] [] [] pos) (fun Dn τ G => tb (wLook X.K c i ts Wout Dn) Dn τ G) := by
  refine ⟨fun ps s τ G Dn I h => ?_⟩
  have okX := I.ok
  have frX : X.A.frames = some (X.env :: X.outer) := okX.frames.trans (by rw [hstk])
  refine wpAny_Try_except (wpAny_mono ((hb (wLook X.K c i ts Wout Dn) (X.pn ++ ps) (fun ev s1 => wpAny (model X.prog X.w) X.A (noteFrame ev X.env) (fun _ s2 => wpAny (model X.prog X.w) X.A (setFlight ev none) (fun _ s3 => wpAny (model X.prog X.w) X.A
    (handleBy ev X.env [.ExceptHandler (some (.Name cx q1)) (some n) (st₀ :: suite) q2]) (SP X ps Dn) X.xe s3) X.xe s2) X.xe s1) (fun u z xx => ?_) PassesOwn.looking).run [] s τ G Dn (I.toTry _) h) (fun f s1 hsp => ?_) fun _ _ w => w)
  · obtain ⟨e, B, y, pp, τ1, G1, cls, d, rfl, Jy, nb, up, sky, fe, os, ag, b, hm, yes, no⟩ := xx
    have J := Jy.ofTry okX
    rw [hstk] at sky
    -- the error is new
    have gB : B.get? e = none := by
      rcases sky with ⟨_, g, _⟩ | ⟨_, g, _⟩ | ⟨_, g, _⟩ <;> exact g
    show wpAny (model X.prog X.w) X.A (noteFrame (.ref e) X.env) _ _ _
    refine Sky.land Zc.steady frX hfr sky fun hp3 fl3 up3 => ?_
    have J3 : Inv X ps τ1 G1 { z with heap := hp3 } := J.landed nb fl3.1 (up.trans up3) os ag
    obtain ⟨ob3, fs3, at3, cl3, fd3⟩ := fl3.there
    have notFrame : e ∉ frs (X.env :: X.outer) := fun w => by
      obtain ⟨_, o', h1, h2⟩ := fl3.2.2.1.mem w
      rw [at3] at h1
      cases h1
      exact h2 _ fd3
    have nl : e ≠ X.env.locals := fun w => notFrame (List.mem_filterMap.mpr ⟨X.env, List.mem_cons_self, by rw [hfr, w]⟩)
    have nF : e ∉ X.fs := fun w => by
      obtain ⟨ev, h1, h2⟩ := List.mem_filterMap.mp w
      exact notFrame (List.mem_filterMap.mpr ⟨ev, List.mem_cons_of_mem _ h1, h2⟩)
    have gy : y.heap.get? e = none := by
      cases h1 : y.heap.get? e with
      | none => rfl
      | some o =>
        have := nb e o h1 (by rw [hstk]; exact notFrame)
        rw [gB] at this
        cases this
    have g0 : X.s_0.heap.get? e = none := by
      cases h1 : X.s_0.heap.get? e with
      | none => rfl
      | some o =>
        obtain ⟨o', h2⟩ := J.base.there e o h1 (by rw [hex]; exact fun w => nomatch w)
        rw [gy] at h2
        cases h2
    have np : ∀ q ∈ X.pn ++ ps, q.1 ≠ e := fun q hq w => by
      have h1 := (J.pin q hq).1
      rw [w, gy] at h1
      cases h1
    have S3 := J3.suite at3 fd3 fe nl nF
    refine wpAny_handleBy_cons (codeAny_handlers_test ?_) fun w => nomatch w
    have knows : PySem.W.Looks (model X.prog X.w) hp3 (typeOf (.ref e)) cls := fun A Q E s k q => wpAny_typeOf_ref (k _ _ at3) (by rw [cl3.1]; exact q)
    have asks := PySem.W.exm_one (M := model X.prog X.w) J3.kIn knows hm
    have named : ∀ {Q E : Value → Shared → Prop}, Q c { z with heap := hp3 } → wpAny (model X.prog X.w) (X.A.mark (some (.ref e))) (eval (.Name cx q1) X.env) Q E { z with heap := hp3 } := fun {Q E} q => by
      obtain ⟨h1, h2, h3 | ⟨h3, h4, h5⟩⟩ := hc
      · exact ld_glob (X := X.suite e ((e, ob3) :: (X.pn ++ ps))) S3 h1 h3 q h2
      · exact ld_blt (X := X.suite e ((e, ob3) :: (X.pn ++ ps))) S3 h1 h3 h4 q h5 h2
    refine named (asks.here ?_)
    cases b with
    | false =>
      refine wpAny_handleBy_nil ?_
      obtain ⟨_, _, _, oe, vs, T, oT, tts, h1, h2, h3, h4, hr⟩ := id fl3
      unfold PySem.passOn
      refine wpAny_bind (wpAny_field h1 h3 h4 ?_)
      rw [if_neg (show ¬ ((Value.ref T == Value.none) = true) from by simp)]
      have last : wpAny (model X.prog X.w) X.A (setFlight (.ref e) X.env.frame) (fun _ s4 => wpAny (model X.prog X.w) X.A (throw (.ref e) : Sem Flow) (SP X ps Dn) X.xe s4) X.xe { z with heap := hp3 } := by
        rw [hfr]
        exact HandSPX.setFlight_upZ fl3 fun hp4 hh4 up4 => wpAny_throw (tk _ _ ⟨e, B, y, ps, τ1, G1, cls, d, rfl, J, nb, (up.trans up3).trans up4, .inr (.inr (by rw [hstk]; exact hh4)), fe, os, ag, no rfl⟩)
      first
        | exact wpAny_bind (wpAny_pure (wpAny_bind last))
        | exact wpAny_bind last
    | true =>
      obtain ⟨dn, wish⟩ := yes rfl
      subst dn
      refine codeAny_handlers_suite_as (HandSPX.lands_againZ fl3 fun hp4 fl4 up4 => ?_)
      have J4 : Inv X ps τ1 G1 { z with heap := hp4 } := J.landed nb fl4.1 ((up.trans up3).trans up4) os ag
      obtain ⟨ob4, fs4, at4, cl4, fd4⟩ := fl4.there
      refine store_ok (X := X.suite e ((e, ob4) :: (X.pn ++ ps))) (v := .ref e) (J4.suite at4 fd4 fe nl nF) hN hi (.inl hln) rfl (fun s5 S5 => ?_) (.inr hln)
      obtain ⟨at5, fr5, _⟩ := S5.pin (e, ob4) (List.mem_append.mpr (.inl List.mem_cons_self))
      have T5 := track_exc (suite_bare S5 okX) fr5 at5 cl4 fd4 g0 nl (fun q hq => np q (by rw [List.append_nil] at hq; exact hq))
      refine wpAny_mono ((hsu e (X.pn ++ ps)).run [] s5 _ _ { Dn with nx := fun τ' G' => Dn.nx (τ'.set i none) G', rt := fun _ _ => False, bk := fun _ _ => False, ct := fun _ _ => False } T5 (wish e fe)) (fun f s6 got => ?_) fun _ _ w => False.elim w
      cases f with
        | next =>
          obtain ⟨τ6, G6, S6, q6⟩ := got
          refine gone_ok (X := X.suite e (X.pn ++ ps)) S6 hN hi hln fun s7 S7 => ?_
          exact ⟨_, _, unsuite_bare S7 okX, q6⟩
        | brk =>
          obtain ⟨_, _, _, w⟩ := got
          exact w.elim
        | cont =>
          obtain ⟨_, _, _, w⟩ := got
          exact w.elim
        | ret u =>
          obtain ⟨_, _, _, _, _, w⟩ := got
          exact w.elim
  · cases f with
    | next =>
      obtain ⟨τ', G', I', w⟩ := hsp
      exact wpAny_execs_nil ⟨τ', G', I'.ofTry okX, w⟩
    | brk =>
      obtain ⟨τ', G', I', w⟩ := hsp
      exact ⟨τ', G', I'.ofTry okX, w⟩
    | cont =>
      obtain ⟨τ', G', I', w⟩ := hsp
      exact ⟨τ', G', I'.ofTry okX, w⟩
    | ret u =>
      obtain ⟨v, τ', G', I', r, w⟩ := hsp
      exact ⟨v, τ', G', I'.ofTry okX, r, w⟩
end
/-- except C as n: suite, by data -/
def lookIn (i : Nat) (f : Env → R Out) (e : Env) (er : Er) : R Out := match er.fs with
  | [] => (f (e.set i (some (.val (excD er.cls))))).bind fun o => match o with
    | .nx z => .ret (.nx (z.set i none))
    | _ => .bad
  | _ => .bad
def tryL (fb : Env → R Out) (t : Str → Option Bool) (i : Nat) (f : Env → R Out) : Env → R Out := fun env => (fb env).bind fun o => match o with
  | .ex e er => match t er.cls with
    | some true => lookIn i f e er
    | some false => .ret (.ex e er)
    | none => .bad
  | o => .ret o
section
variable {X : Cx} {c : Base} {W : WX} {w w' w1 w2 : Wd} {σ : L2.St} {env : Env} {pos p pos2 : Pos} {st : Stmt} {rest : List Stmt} {f g : Env → R Out}
theorem ds_tryL {cx n : Str} {cv : Value} {i : Nat} {body suite : List Stmt} {st₀ : Stmt} {q1 q2 : Pos} {fb : Env → R Out} {t : Str → Option Bool} (hs : X.stack = X.env :: X.outer) (hf : X.env.frame = some X.env.locals) (hex : X.ex = []) (hN : X.N.Nodup) (hi : X.N[i]? = some n) (hln : X.env.kindOf n = some .local)
    (hc : Names X cx cv) (ht : ∀ n b cls, t n = some b → c.mg n = some cls → PySem.W.exmOne X.K cls cv = some b) (tk : Takes X W)
    (hb : ∀ (W : WX) (pn : List (Addr × Obj)) (xe : Value → Shared → Prop), Takes (X.tr pn xe) W → PassesOwn (model X.prog X.w) X.A X.env xe → PSs (X.tr pn xe) body (liftS c W fb))
    (hsu : ∀ (a : Addr) (pn : List (Addr × Obj)), PSs (X.suite a pn) (st₀ :: suite) (liftS c (fun _ _ _ _ => False) f)) :
    PS X (.Try body [.ExceptHandler (some (.Name cx q1)) (some n) (st₀ :: suite) q2] [] [] pos) (liftS c W (tryL fb t i f)) := ps_imp (ps_try_look (tb := fun W => liftS c W fb) (ts := fun _ => liftS c (fun _ _ _ _ => False) f) hs hf hex hN hi hln hc tk hb hsu) fun Dn σ H ⟨w, env, a, q⟩ => by
  refine ⟨w, env, a, R.wp_mono (wp_b q) (fun fu o h => ?_) fun _ _ h => h⟩
  cases o with
  | nx z => exact h
  | rt z => exact h
  | rl z => exact h
  | bk z => exact h
  | ct z => exact h
  | ex e er =>
    intro cls dd σ' w' ef k E l er'
    subst ef
    have h : (match t er.cls with | some true => lookIn i f e er | some false => R.ret (Out.ex e er) | none => R.bad).wp w'.fu (SK c W Dn w) (fun _ _ => False) := h
    cases hb : t er.cls with
    | none => rw [hb] at h; exact h.elim
    | some b =>
      rw [hb] at h
      refine ⟨b, ht _ _ _ hb er'.cls, fun hy => ?_, fun hn => ?_⟩
      · subst hy
        have h : (lookIn i f e er).wp w'.fu (SK c W Dn w) (fun _ _ => False) := h
        unfold lookIn at h
        split at h
        · rename_i hfs
          refine ⟨er'.none hfs, fun a ha => ?_⟩
          have g := Grow.new (o := EXO cls a) k ha
          have E1 := E.grow k g
          have r : RpW c { w' with H := upd w'.H a (EXO cls a) } (.ref a) (excD er.cls) := .exc er'.cls (vis_new k ha)
          refine ⟨{ w' with H := upd w'.H a (EXO cls a) }, _, ⟨rfl, g.ok, E1.setVal r⟩, R.wp_mono (wp_b h) (fun fu o ho => ?_) fun _ _ h => h⟩
          have ll := l.trans (g.le k)
          cases o with
          | nx z =>
            have ho : SK c W Dn w fu (.nx (z.set i none)) := ho
            intro σ6 w6 ef6 k6 E6 l6
            exact ho _ w6 ef6 k6 E6.setNone (ll.trans l6)
          | rt z => exact ho.elim
          | rl z => exact ho.elim
          | bk z => exact ho.elim
          | ct z => exact ho.elim
          | ex z1 z2 => exact ho.elim
        · exact h.elim
      · subst hn
        exact (show SK c W Dn w w'.fu (.ex e er) from h) cls dd σ' w' rfl k E l er'
end
def TlK (t : Str → Option Bool) (i : Nat) (f : Env → R Out) (QO : Nat → Out → Prop) (E : Nat → Er → Prop) : Nat → Out → Prop := fun fu o => match o with
  | .ex e er => (match t er.cls with | some true => lookIn i f e er | some false => R.ret (Out.ex e er) | none => R.bad).go fu QO E
  | o => QO fu o
def LoK (i : Nat) (QO : Nat → Out → Prop) : Nat → Out → Prop := fun fu o => match o with
  | .nx z => QO fu (.nx (z.set i none))
  | _ => False
section
variable {env : Env} {fu : Nat} {E : Nat → Er → Prop} {QO : Nat → Out → Prop} {f f2 : Env → R Out} {i : Nat} {t : Str → Option Bool} {e : Env}
theorem g_tryL (h : (f env).go fu (TlK t i f2 QO E) E) : (tryL f t i f2 env).go fu QO E := by
  unfold TlK at h
  simp only [R.go_eq] at *
  exact bndI (R.wp_mono h (fun fu o h => by cases o <;> exact h) fun _ _ h => h)
theorem g_tlN (h : QO fu (.nx e)) : TlK t i f2 QO E fu (.nx e) := h
theorem g_tlX {x : Str} (ht : t x = some true) (h : (f2 (e.set i (some (.val (excD x))))).go fu (LoK i QO) E) : TlK t i f2 QO E fu (.ex e ⟨x, []⟩) := by
  show (match t x with | some true => lookIn i f2 e ⟨x, []⟩ | some false => R.ret (Out.ex e ⟨x, []⟩) | none => R.bad).go fu QO E
  rw [ht]
  simp only [R.go_eq] at *
  exact bndI (R.wp_mono h (fun fu o h => by cases o <;> first | exact h | exact h.elim) fun _ _ h => h)
theorem g_loN (h : QO fu (.nx (e.set i none))) : LoK i QO fu (.nx e) := h
end
structure FnS (P : Program) (w : World) (K : PySem.W.Frag) (mg : Str → Option Value) (base : Heap) (CX : CXT) (k : Nat) (f : Addr) (sp : Sp) : Prop where
  run : ∀ (A : Around) (outer : List PySem.Env) (s : Shared) (H : Hp) (us : List Value) (vs : List V) (Q : VK) (E : XK), Room k A → A.guards = some [] → Env0 P w K mg base A outer s H → Vals vs us → vs.length ≤ sizeLine →
    (∀ p o, H p = Option.none → o.dict = Option.none → sp [V.ref p] (upd H p (.frz o (.tup vs))) Q E) → codeAny (model P w) A (.call (.ref f) ⟨us, []⟩) (CR CX outer P w H s Q E) s
def StarB (fd : FuncData) (pv : Str) : Prop := ∀ rest : List Value, bindArgs fd ⟨rest, []⟩ = (newTuple rest >>= fun t => pure [(pv, t)])
section
variable {P : Program} {w : World} {K : PySem.W.Frag} {mg : Str → Option Value} {base : Heap} {DP : Nat → Hp → List V → Prop}
theorem fn_S {x qual : Str} {st : Stmt} {f : Addr} {fd : FuncData} {N : List Str} {pv : Str} {k n : Nat} {fb : Env → R Out} (F : Fun K x qual st f fd) (S : FnScope N [pv] (defScope st)) (hn : N.length = n) (hbd : StarB fd pv)
    (hb : ∀ (cdv : Value) (A : Around) (outer : List PySem.Env) (s : Shared) (H : Hp) (E : XK) (S' dk : List Addr), Room k (A.deeper (envOfC qual (defScope st) s.heap.objs.size f cdv)) → A.guards = some [] →
      PSs (cxOf (L2.CX P w) P w K mg base N qual (defScope st) f cdv A outer s H E) (defBody st) (liftS ⟨w, K, mg, DP, S', dk, H⟩ (fun cls d _ H => E cls d H) fb)) :
    FnS P w K mg base (L2.CX P w) (k + 1) f (SpD w K mg DP 1 (defF n fb)) := by
  obtain ⟨oc, od, kV, doc, pm, an, cdv, ct, osl, rfl, lk, hcd⟩ := F.ex
  refine ⟨fun A outer s H us vs Q E hr hgu e0 r hz hsp => ?_⟩
  have hn0 : H s.heap.objs.size = Option.none := e0.hok.fresh (Nat.le_refl _)
  have hl2 : us.length ≤ sizeLine := by rw [← r.length]; exact hz
  refine StX.run_bnd lk hcd S hr e0 (G := fun xs H2 => ∃ p o, H p = Option.none ∧ o.dict = Option.none ∧ xs = [V.ref p] ∧ H2 = upd H p (.frz o (.tup vs))) (fun A' Ex Q' h => ?_) fun s2 H2 xs ⟨p, o, hp, ho, ex, eH⟩ hr' => ?_
  · rw [hbd us]
    refine wpAny_bind (wpAny_newTuple (wpAny_pure ?_) hl2)
    have new : ObjOk P w (upd H s.heap.objs.size (.frz (tupO us) (.tup vs))) (s.heap.push ({ cls := .type "tuple", data := .seq us.toArray } : Obj)) s.heap.objs.size (.frz (tupO us) (.tup vs)) := ⟨Heap.get?_push_size _ rfl, hz, us, r, IsTup.new _ _⟩
    have un := StX.un_laid (fs := frs outer) (s := s) (o := ({ cls := .type "tuple", data := .seq us.toArray } : Obj)) (u := .frz (tupO us) (.tup vs)) hn0
    have z := h _ _ [V.ref s.heap.objs.size] [Value.ref s.heap.objs.size] (StX.env0_laid e0 new) un rfl (fun e s' => StX.cxUp outer s H _ _ E e s' un (fun b o q => Heap.get?_push_of_some _ q) rfl) (.cons rfl .nil) rfl ⟨_, _, hn0, rfl, rfl, rfl⟩
    exact z
  · subst ex eH
    obtain ⟨hl, S', dk, ds, fu, k0, r, q⟩ := hsp p o hp ho
    refine ⟨_, hb cdv A outer s2 _ E S' dk hr' hgu, ?_⟩
    refine ⟨⟨[], [], upd H p (.frz o (.tup vs)), fu⟩, startE n ds, ⟨rfl, k0, start_ok hn r⟩, R.wp_mono (wp_bo q) (fun fu1 o1 h => ?_) fun _ er h => h⟩
    cases o1 with
    | nx e =>
      have h' : ∀ v w', w'.fu = fu1 → w'.fu ≤ fu → WOk ⟨w, K, mg, DP, S', dk, upd H p (.frz o (.tup vs))⟩ w' → RpW ⟨w, K, mg, DP, S', dk, upd H p (.frz o (.tup vs))⟩ w' v PyData.none → Q v w'.H := h
      exact fun σ' w' ef k' _ l => h' .non w' ef l.fu k' .non
    | rt d => exact fun v w' ef lf k' r' => (show ∀ v w', w'.fu = fu1 → w'.fu ≤ fu → WOk ⟨w, K, mg, DP, S', dk, upd H p (.frz o (.tup vs))⟩ w' → RpW ⟨w, K, mg, DP, S', dk, upd H p (.frz o (.tup vs))⟩ w' v d → Q v w'.H from h) v w' ef lf k' r'
    | rl l => exact fun p1 vs1 w' ef lf k' hp1 he r' => (show ∀ v w', w'.fu = fu1 → w'.fu ≤ fu → WOk ⟨w, K, mg, DP, S', dk, upd H p (.frz o (.tup vs))⟩ w' → RpW ⟨w, K, mg, DP, S', dk, upd H p (.frz o (.tup vs))⟩ w' v (.list l) → Q v w'.H from h) (.ref p1) { w' with O := w'.O.filter fun x => decide (x ≠ p1) } ef lf (k'.sub fun x hx => (List.mem_filter.mp hx).1) (own_free k' hp1 he r')
    | bk e => exact h.elim
    | ct e => exact h.elim
    | ex e er => exact fun cls dd σ' w' ef k' _ l er' => (show ∀ cls dd w', w'.fu = fu1 → w'.fu ≤ fu → WOk ⟨w, K, mg, DP, S', dk, upd H p (.frz o (.tup vs))⟩ w' → ErOk ⟨w, K, mg, DP, S', dk, upd H p (.frz o (.tup vs))⟩ w' cls dd er → E cls dd w'.H from h) cls dd w' ef l.fu k' er'
end
def tCallSt (sp : Sp) (E : L2.St → XK) (t : TA) : TE := fun σ H Q => t σ H fun vs H1 => vs.length ≤ sizeLine ∧ ∀ p o, H1 p = Option.none → o.dict = Option.none → sp [V.ref p] (upd H1 p (.frz o (.tup vs))) Q (E σ)
section
variable {X : Cx} {CX : CXT} {k : Nat} {f : Addr} {sp : Sp} {E : L2.St → XK} {x : Str} {p pos : Pos} {e : Expr} {es : List Expr} {t : TA}
theorem run_fnS {pns : List (Addr × Obj)} {σ : L2.St} {Hx : Hp} {sx : Shared} {Q : VK} {uz : List Value} {vz : List V} (F : FnS X.prog X.w X.K X.mg X.base CX k f sp) (hr : Room k X.A) (hgu : X.A.guards = some []) (hx : PassesAt CX X σ (E σ))
    (Iv : Inv X pns σ Hx sx) (rr : Vals vz uz) (hz : vz.length ≤ sizeLine) (h : ∀ p o, Hx p = Option.none → o.dict = Option.none → sp [V.ref p] (upd Hx p (.frz o (.tup vz))) Q (E σ)) : wpAny (model X.prog X.w) X.A (call (.ref f) uz) (EP X pns σ Q) X.xe sx := by
  refine wpAny_call (codeAny_mono (F.run X.A X.stack sx Hx uz vz Q (E σ) hr hgu Iv.env0 rr hz h) fun rr sz hqq => ?_)
  cases rr with
  | error ee => exact hx pns Hx sx ee sz Iv hqq
  | ok flw =>
    cases flw with
    | ret uu => exact Iv.after hqq
    | next => exact False.elim hqq
    | brk => exact False.elim hqq
    | cont => exact False.elim hqq
theorem pe_callSt (F : FnS X.prog X.w X.K X.mg X.base CX k f sp) (hr : Room k X.A) (hgu : X.A.guards = some []) (hg : Gl X x) (hm : X.mg x = some (.ref f)) (hk : PySem.W.keepIn X.K (.ref f) = true) (hx : ∀ σ, PassesAt CX X σ (E σ))
    (ha : PA X (e :: es) t) (hdb : (x == ("__debug__" : Str)) = false := by decide) (he : starEach (e :: es) X.env = (false, eval e X.env) :: starEach es X.env := by rfl) (hpl : (backTo pos (starEach es X.env)).any (·.1) = false := by rfl) :
    PE X (.Call (.Name x p) (e :: es) [] pos) (tCallSt sp E t) :=
  ⟨fun pins s σ H Q I h => wpAny_Call_Name_kw (ld_glob I hg hm (PySem.W.callWith_K (h₀ := X.base) I.ok.mod.kin hk (thn (ha.run pos pins s σ H _ I h) fun us s1 ⟨vs, H1, I1, r, q⟩ => ⟨I1.kIn, run_fnS F hr hgu (hx σ) I1 r q.1 q.2⟩) he hpl) hdb)⟩
end
section
variable {X : Cx} {c : Base} {W : WX} {k : Nat} {f : Addr} {F : List D → R D} {x : Str} {p pos : Pos} {e : Expr} {es : List Expr} {fr : Env → R (List D)}
def callS (F : List D → R D) (fr : Env → R (List D)) : Env → R D := fun env => (fr env).bind fun ds => guard' (decide (ds.length ≤ 1000)) (F [.tuple ds])
theorem de_callSt (FO : FnS X.prog X.w X.K X.mg X.base (L2.CX X.prog X.w) k f (SpD c.wl c.K c.mg c.DP 1 F)) (hr : Room k X.A) (hgu : X.A.guards = some []) (hg : Gl X x) (hm : X.mg x = some (.ref f)) (hk : PySem.W.keepIn X.K (.ref f) = true) (tk : Takes X W)
    (ha : PA X (e :: es) (liftA c W fr)) (hdb : (x == ("__debug__" : Str)) = false := by decide) (he : starEach (e :: es) X.env = (false, eval e X.env) :: starEach es X.env := by rfl) (hpl : (backTo pos (starEach es X.env)).any (·.1) = false := by rfl) :
    PE X (.Call (.Name x p) (e :: es) [] pos) (liftE c W (callS F fr)) :=
  pe_imp (pe_callSt (E := WE W) FO hr hgu hg hm hk (fun σ => passAt tk σ) ha hdb he hpl) fun σ H Q ⟨w, env, a, q⟩ => stepAE a q fun xs vs w1 g1 r1 q1 => by
    obtain ⟨h1, h2⟩ := wp_guard.mp q1
    have h1 := of_decide_eq_true h1
    refine ⟨by rw [r1.len, sizeLine_eq]; omega, ?_⟩
    refine new_tup (Q := fun v H' => SpD c.wl c.K c.mg c.DP 1 F [v] H' Q (WE W σ)) g1.ok r1 fun v w' ef g' r' => ?_
    refine spD_of (K := X.K) g'.ok (.cons r' .nil) rfl ?_
    rw [ef]
    exact R.wp_mono h2 (fun _ _ z => z.grow g1.ok g') fun _ _ z => z.grow g1.ok g'
end
section
variable {env : Env} {fu : Nat} {E : Nat → Er → Prop} {QD : Nat → D → Prop} {F : List D → R D} {fr : Env → R (List D)}
theorem g_callS (h : (fr env).go fu (fun fu ds => ds.length ≤ 1000 ∧ (F [.tuple ds]).go fu QD E) E) : (callS F fr env).go fu QD E := by
  simp only [R.go_eq] at *
  exact bndI (R.wp_mono h (fun _ _ z => wp_guard.mpr ⟨decide_eq_true z.1, z.2⟩) fun _ _ z => z)
end
def B_is_whole : Env → R Out :=
  (retS (andD (isiD "int" (varD 0)) (andD (notD (isiD "bool" (varD 0))) (chainD gLe gLe (varD 1) (varD 0) (varD 2)))))
def F_is_whole : List D → R D := defF 3 B_is_whole
def B_is_pair : Env → R Out :=
  (retS (andD (isiD "tuple" (varD 0)) (bin gEq (callD gLen (consA (varD 0) nilA)) (cD (.int 2)))))
def F_is_pair : List D → R D := defF 1 B_is_pair
def B_is_rising : Env → R Out :=
  (retS (callD gAll (consA (lstD (compD (rngI (consA (bin gSub (callD gLen (consA (varD 0) nilA)) (cD (.int 1))) nilA)) (tName 1) yesT (bin gLt (bin gIx (varD 0) (varD 1)) (bin gIx (varD 0) (bin gAdd (varD 1) (cD (.int 1))))) [1])) nilA)))
def F_is_rising : List D → R D := defF 2 B_is_rising
def B_is_pattern : Env → R Out :=
  (retS (andD (isiD "str" (varD 0)) (andD (bin gLe (callD gLen (consA (varD 0) nilA)) (cD (.int 4))) (andD (bin gInA (cD (.str "o")) (varD 0)) (bin gEq (bin gAdd (strM gCount (varD 0) (cD (.str "o"))) (strM gCount (varD 0) (cD (.str "-")))) (callD gLen (consA (varD 0) nilA)))))))
def F_is_pattern : List D → R D := defF 1 B_is_pattern
def B_is_span : Env → R Out :=
  (retS (andD (callF 1 F_is_pair (consA (varD 0) nilA)) (andD (callF 3 F_is_whole (consA (bin gIx (varD 0) (cD (.int 0))) (consA (cD (.int (-30))) (consA (cD (.int 30)) nilA)))) (callF 3 F_is_whole (consA (bin gIx (varD 0) (cD (.int 1))) (consA (bin gIx (varD 0) (cD (.int 0))) (consA (cD (.int 30)) nilA)))))))
def F_is_span : List D → R D := defF 1 B_is_span
def B_is_spans : Env → R Out :=
  (retS (andD (isiD "tuple" (varD 0)) (andD (bin gLe (callD gLen (consA (varD 0) nilA)) (cD (.int 2))) (andD (callD gAll (consA (lstD (compD (iterF (varD 0)) (tName 1) yesT (callF 1 F_is_span (consA (varD 1) nilA)) [1])) nilA)) (callF 1 F_is_rising (consA (varD 0) nilA))))))
def F_is_spans : List D → R D := defF 2 B_is_spans
def B_is_calendar : Env → R Out :=
  (retS (andD (isiD "tuple" (varD 0)) (andD (bin gEq (callD gLen (consA (varD 0) nilA)) (cD (.int 3))) (andD (callF 1 F_is_pattern (consA (bin gIx (varD 0) (cD (.int 0))) nilA)) (andD (callF 1 F_is_spans (consA (bin gIx (varD 0) (cD (.int 1))) nilA)) (callF 1 F_is_spans (consA (bin gIx (varD 0) (cD (.int 2))) nilA)))))))
def F_is_calendar : List D → R D := defF 1 B_is_calendar
def B_is_name : Env → R Out :=
  (retS (andD (isiD "str" (varD 0)) (andD (bin gEq (callD gLen (consA (varD 0) nilA)) (cD (.int 1))) (chainD gLe gLe (cD (.str "a")) (varD 0) (cD (.str "z"))))))
def F_is_name : List D → R D := defF 1 B_is_name
def B_is_named_calendar : Env → R Out :=
  (retS (andD (callF 1 F_is_pair (consA (varD 0) nilA)) (andD (callF 1 F_is_name (consA (bin gIx (varD 0) (cD (.int 0))) nilA)) (callF 1 F_is_calendar (consA (bin gIx (varD 0) (cD (.int 1))) nilA)))))
def F_is_named_calendar : List D → R D := defF 1 B_is_named_calendar
def B_is_book : Env → R Out :=
  (retS (andD (isiD "tuple" (varD 0)) (andD (bin gLe (callD gLen (consA (varD 0) nilA)) (cD (.int 4))) (andD (callD gAll (consA (lstD (compD (iterF (varD 0)) (tName 1) yesT (callF 1 F_is_named_calendar (consA (varD 1) nilA)) [1])) nilA)) (callF 1 F_is_rising (consA (lstD (compD (iterF (varD 0)) (tName 1) yesT (bin gIx (varD 1) (cD (.int 0))) [1])) nilA))))))
def F_is_book : List D → R D := defF 2 B_is_book
def B_is_letter : Env → R Out :=
  (retS (orD (callF 1 F_is_name (consA (varD 0) nilA)) (andD (isiD "str" (varD 0)) (bin gEq (varD 0) (cD (.str "+"))))))
def F_is_letter : List D → R D := defF 1 B_is_letter
def B_is_route : Env → R Out :=
  (retS (andD (isiD "tuple" (varD 0)) (andD (bin gLe (callD gLen (consA (varD 0) nilA)) (cD (.int 8))) (callD gAll (consA (lstD (compD (iterF (varD 0)) (tName 1) yesT (callF 1 F_is_letter (consA (varD 1) nilA)) [1])) nilA)))))
def F_is_route : List D → R D := defF 2 B_is_route
def B_need_day : Env → R Out :=
  (ifS (notT (truT (callF 3 F_is_whole (consA (varD 0) (consA (un gNeg (cD (.int 1000000000000000))) (consA (cD (.int 1000000000000000)) nilA))))))
    (raiseS "BadDay" (cD (.str "a day is an integer from -10 ** 15 to 10 ** 15")))
    passS)
def F_need_day : List D → R D := defF 1 B_need_day
def B_need_calendar : Env → R Out :=
  (ifS (notT (truT (callF 1 F_is_calendar (consA (varD 0) nilA))))
    (raiseS "BadCalendar" (cD (.str "a calendar is a tuple of a pattern, closed spans and opened spans")))
    passS)
def F_need_calendar : List D → R D := defF 1 B_need_calendar
def B_in_spans : Env → R Out :=
  (seqS (forS (iterF (varD 0)) (tTup 2 (tCons (tName 2) (tCons (tName 3) tNil)))
    (ifS (blT (chainD gLe gLe (varD 2) (varD 1) (varD 3)))
    (retS (cD (.bool true)))
    passS))
    (retS (cD (.bool false))))
def F_in_spans : List D → R D := defF 4 B_in_spans
def B_open_on : Env → R Out :=
  (seqS (asgS (varD 0) (tTup 3 (tCons (tName 2) (tCons (tName 3) (tCons (tName 4) tNil)))))
    (seqS (ifS (blT (chainD gLe gLe (cD (.int (-30))) (varD 1) (cD (.int 30))))
    (seqS (ifS (truT (callF 2 F_in_spans (consA (varD 3) (consA (varD 1) nilA))))
    (retS (cD (.bool false)))
    passS)
    (ifS (truT (callF 2 F_in_spans (consA (varD 4) (consA (varD 1) nilA))))
    (retS (cD (.bool true)))
    passS))
    passS)
    (retS (bin gEq (bin gIx (varD 2) (bin gMod (varD 1) (callD gLen (consA (varD 2) nilA)))) (cD (.str "o"))))))
def F_open_on : List D → R D := defF 5 B_open_on
def B_is_open : Env → R Out :=
  (seqS (dropS (callF 1 F_need_calendar (consA (varD 0) nilA)))
    (seqS (dropS (callF 1 F_need_day (consA (varD 1) nilA)))
    (retS (callF 2 F_open_on (consA (varD 0) (consA (varD 1) nilA))))))
def F_is_open : List D → R D := defF 2 B_is_open
def B_open_from : Env → R Out :=
  (seqS (whileS (notT (truT (callF 2 F_open_on (consA (varD 0) (consA (varD 1) nilA)))))
    (augS 1 gAddI (cD (.int 1))))
    (retS (varD 1)))
def F_open_from : List D → R D := defF 2 B_open_from
def B_next_open : Env → R Out :=
  (seqS (dropS (callF 1 F_need_calendar (consA (varD 0) nilA)))
    (seqS (dropS (callF 1 F_need_day (consA (varD 1) nilA)))
    (retS (callF 2 F_open_from (consA (varD 0) (consA (varD 1) nilA))))))
def F_next_open : List D → R D := defF 2 B_next_open
def B_open_until : Env → R Out :=
  (seqS (whileS (notT (truT (callF 2 F_open_on (consA (varD 0) (consA (varD 1) nilA)))))
    (augS 1 gSubI (cD (.int 1))))
    (retS (varD 1)))
def F_open_until : List D → R D := defF 2 B_open_until
def B_last_open : Env → R Out :=
  (seqS (dropS (callF 1 F_need_calendar (consA (varD 0) nilA)))
    (seqS (dropS (callF 1 F_need_day (consA (varD 1) nilA)))
    (retS (callF 2 F_open_until (consA (varD 0) (consA (varD 1) nilA))))))
def F_last_open : List D → R D := defF 2 B_last_open
def B_need_number : Env → R Out :=
  (ifS (notT (truT (callF 3 F_is_whole (consA (varD 0) (consA (cD (.int 0)) (consA (varD 1) nilA))))))
    (raiseS "BadNumber" (jsD [(cD (.str "the number is an integer from 0 to ")), (fmtD (varD 1))] Str.empty))
    passS)
def F_need_number : List D → R D := defF 2 B_need_number
def B_plain_rank : Env → R Out :=
  (seqS badS
    (retS (bin gAdd (bin gMulA (varD 2) (strM gCount (varD 0) (cD (.str "o")))) (strM gCount (slD gSl (varD 0) noPart (part (varD 3))) (cD (.str "o"))))))
def F_plain_rank : List D → R D := defF 4 B_plain_rank
def B_plain_day : Env → R Out :=
  (seqS (setS 2 (lstD (compD (rngI (consA (callD gLen (consA (varD 0) nilA)) nilA)) (tName 5) (blT (bin gEq (bin gIx (varD 0) (varD 5)) (cD (.str "o")))) (varD 5) [5])))
    (seqS badS
    (retS (bin gAdd (bin gMulA (varD 3) (callD gLen (consA (varD 0) nilA))) (bin gIx (varD 2) (varD 4))))))
def F_plain_day : List D → R D := defF 6 B_plain_day
def B_ranked_day : Env → R Out :=
  (seqS (setS 2 (bin gIx (varD 0) (cD (.int 0))))
    (seqS (setS 3 (callF 2 F_plain_rank (consA (varD 2) (consA (cD (.int (-30))) nilA))))
    (seqS (ifS (blT (bin gLt (varD 1) (varD 3)))
    (retS (callF 2 F_plain_day (consA (varD 2) (consA (varD 1) nilA))))
    passS)
    (seqS (setS 4 (lstD (compD (rngI (consA (cD (.int (-30))) (consA (bin gAdd (cD (.int 30)) (cD (.int 1))) nilA))) (tName 5) (truT (callF 2 F_open_on (consA (varD 0) (consA (varD 5) nilA)))) (varD 5) [5])))
    (seqS (ifS (blT (bin gLt (varD 1) (bin gAdd (varD 3) (callD gLen (consA (varD 4) nilA)))))
    (retS (bin gIx (varD 4) (bin gSub (varD 1) (varD 3))))
    passS)
    (retS (callF 2 F_plain_day (consA (varD 2) (consA (bin gAdd (bin gSub (bin gSub (varD 1) (varD 3)) (callD gLen (consA (varD 4) nilA))) (callF 2 F_plain_rank (consA (varD 2) (consA (bin gAdd (cD (.int 30)) (cD (.int 1))) nilA)))) nilA)))))))))
def F_ranked_day : List D → R D := defF 6 B_ranked_day
def B_rank : Env → R Out :=
  (seqS (setS 2 (bin gIx (varD 0) (cD (.int 0))))
    (seqS (ifS (blT (bin gLe (varD 1) (cD (.int (-30)))))
    (retS (callF 2 F_plain_rank (consA (varD 2) (consA (varD 1) nilA))))
    passS)
    (seqS (setS 3 (lstD (compD (rngI (consA (cD (.int (-30))) (consA (callD gMin (consA (varD 1) (consA (bin gAdd (cD (.int 30)) (cD (.int 1))) nilA))) nilA))) (tName 5) (truT (callF 2 F_open_on (consA (varD 0) (consA (varD 5) nilA)))) (varD 5) [5])))
    (seqS (setS 4 (bin gAdd (callF 2 F_plain_rank (consA (varD 2) (consA (cD (.int (-30))) nilA))) (callD gLen (consA (varD 3) nilA))))
    (seqS (ifS (blT (bin gLe (varD 1) (cD (.int 30))))
    (retS (varD 4))
    passS)
    (retS (bin gSub (bin gAdd (varD 4) (callF 2 F_plain_rank (consA (varD 2) (consA (varD 1) nilA)))) (callF 2 F_plain_rank (consA (varD 2) (consA (bin gAdd (cD (.int 30)) (cD (.int 1))) nilA))))))))))
def F_rank : List D → R D := defF 6 B_rank
def B_nth_open : Env → R Out :=
  (seqS (dropS (callF 1 F_need_calendar (consA (varD 0) nilA)))
    (seqS (dropS (callF 1 F_need_day (consA (varD 1) nilA)))
    (seqS (dropS (callF 2 F_need_number (consA (varD 2) (consA (cD (.int 1000000000000000)) nilA))))
    (retS (callF 2 F_ranked_day (consA (varD 0) (consA (bin gAdd (callF 2 F_rank (consA (varD 0) (consA (varD 1) nilA))) (varD 2)) nilA)))))))
def F_nth_open : List D → R D := defF 3 B_nth_open
def B_count_open : Env → R Out :=
  (seqS (dropS (callF 1 F_need_calendar (consA (varD 0) nilA)))
    (seqS (dropS (callF 1 F_need_day (consA (varD 1) nilA)))
    (seqS (dropS (callF 1 F_need_day (consA (varD 2) nilA)))
    (seqS (ifS (blT (bin gLt (varD 2) (varD 1)))
    (retS (cD (.int 0)))
    passS)
    (retS (bin gSub (callF 2 F_rank (consA (varD 0) (consA (bin gAdd (varD 2) (cD (.int 1))) nilA))) (callF 2 F_rank (consA (varD 0) (consA (varD 1) nilA)))))))))
def F_count_open : List D → R D := defF 3 B_count_open
def B_unlike_day : Env → R Out :=
  (seqS (dropS (callF 1 F_need_calendar (consA (varD 0) nilA)))
    (seqS (dropS (callF 1 F_need_calendar (consA (varD 1) nilA)))
    (seqS (forS (rngI (consA (bin gAdd (bin gAdd (cD (.int 30)) (cD (.int 12))) (cD (.int 1))) nilA)) (tName 2)
    (forS (iterF (tupD (consA (varD 2) (consA (un gNeg (varD 2)) nilA)))) (tName 3)
    (ifS (blT (bin gNe (callF 2 F_open_on (consA (varD 0) (consA (varD 3) nilA))) (callF 2 F_open_on (consA (varD 1) (consA (varD 3) nilA)))))
    (retS (varD 3))
    passS)))
    (retS (cD .none)))))
def F_unlike_day : List D → R D := defF 4 B_unlike_day
def B_need_book : Env → R Out :=
  (ifS (notT (truT (callF 1 F_is_book (consA (varD 0) nilA))))
    (raiseS "BadBook" (cD (.str "a book is a tuple of names with their calendars, ascending by names")))
    passS)
def F_need_book : List D → R D := defF 1 B_need_book
def B_need_route : Env → R Out :=
  (ifS (notT (truT (callF 1 F_is_route (consA (varD 0) nilA))))
    (raiseS "BadRoute" (jsD [(cD (.str "a route is a tuple of at most ")), (fmtD (cD (.int 8))), (cD (.str " letters"))] Str.empty))
    passS)
def F_need_route : List D → R D := defF 1 B_need_route
def B_need_start : Env → R Out :=
  (seqS (dropS (callF 1 F_need_book (consA (varD 0) nilA)))
    (seqS (dropS (callF 1 F_need_route (consA (varD 1) nilA)))
    (dropS (callF 1 F_need_day (consA (varD 2) nilA)))))
def F_need_start : List D → R D := defF 3 B_need_start
def B_move : Env → R Out :=
  (seqS (forS (iterF (varD 1)) (tName 3)
    (setS 2 (ifD (blT (bin gEq (varD 3) (cD (.str "+")))) (bin gAdd (varD 2) (cD (.int 1))) (callF 2 F_open_from (consA (bin gGetK (varD 0) (varD 3)) (consA (varD 2) nilA))))))
    (retS (varD 2)))
def F_move : List D → R D := defF 4 B_move
def B_calendars_for : Env → R Out :=
  (seqS (setS 2 (callD gDict (consA (varD 0) nilA)))
    (seqS (forS (iterF (varD 1)) (tName 3)
    (ifS (andT (blT (bin gNe (varD 3) (cD (.str "+")))) (blT (bin (gInK true) (varD 3) (varD 2))))
    badS
    passS))
    (retS (varD 2))))
def F_calendars_for : List D → R D := defF 4 B_calendars_for
def B_moved : Env → R Out :=
  (seqS (dropS (callF 3 F_need_start (consA (varD 0) (consA (varD 1) (consA (varD 2) nilA)))))
    (retS (callF 3 F_move (consA (callF 2 F_calendars_for (consA (varD 0) (consA (varD 1) nilA))) (consA (varD 1) (consA (varD 2) nilA))))))
def F_moved : List D → R D := defF 3 B_moved
def B_stops : Env → R Out :=
  (seqS (dropS (callF 3 F_need_start (consA (varD 0) (consA (varD 1) (consA (varD 2) nilA)))))
    (seqS (setS 3 (callF 2 F_calendars_for (consA (varD 0) (consA (varD 1) nilA))))
    (seqS (setO 4 (dispL (consA (varD 2) nilA)))
    (seqS (forS (iterF (varD 1)) (tName 5)
    (appS 4 (callF 3 F_move (consA (varD 3) (consA (tupD (consA (varD 5) nilA)) (consA (ownIx 4 (un gNeg (cD (.int 1)))) nilA))))))
    (retO 4)))))
def F_stops : List D → R D := defF 6 B_stops
def FL_stops : List D → R (List D) := defL 6 B_stops
def B_move_back : Env → R Out :=
  (seqS (forS (iterF (un gRevT (varD 1))) (tName 3)
    (setS 2 (ifD (blT (bin gEq (varD 3) (cD (.str "+")))) (bin gSub (varD 2) (cD (.int 1))) (callF 2 F_open_until (consA (bin gGetK (varD 0) (varD 3)) (consA (varD 2) nilA))))))
    (retS (varD 2)))
def F_move_back : List D → R D := defF 4 B_move_back
def B_latest_start : Env → R Out :=
  (seqS (dropS (callF 3 F_need_start (consA (varD 0) (consA (varD 1) (consA (varD 2) nilA)))))
    (retS (callF 3 F_move_back (consA (callF 2 F_calendars_for (consA (varD 0) (consA (varD 1) nilA))) (consA (varD 1) (consA (varD 2) nilA))))))
def F_latest_start : List D → R D := defF 3 B_latest_start
def B_start_days : Env → R Out :=
  (seqS (dropS (callF 3 F_need_start (consA (varD 0) (consA (varD 1) (consA (varD 2) nilA)))))
    (seqS (setS 3 (callF 2 F_calendars_for (consA (varD 0) (consA (varD 1) nilA))))
    (seqS (setS 4 (bin gAdd (callF 3 F_move_back (consA (varD 3) (consA (varD 1) (consA (bin gSub (varD 2) (cD (.int 1))) nilA)))) (cD (.int 1))))
    (seqS (setS 5 (callF 3 F_move_back (consA (varD 3) (consA (varD 1) (consA (varD 2) nilA)))))
    (retS (ifD (blT (bin gLe (varD 4) (varD 5))) (tupD (consA (varD 4) (consA (varD 5) nilA))) (cD .none)))))))
def F_start_days : List D → R D := defF 6 B_start_days
def B_far_leaps : Env → R Out :=
  (seqS (setS 3 (dicD (compX (iterK (varD 0)) (tName 7) yesT (varD 7) (tupD (consA (bin gIx (bin gGetK (varD 0) (varD 7)) (cD (.int 0))) (consA (tupD nilA) (consA (tupD nilA) nilA)))) [7])))
    (seqS (setS 4 (cD (.int 1)))
    (seqS (setS 5 (lstD (compD (rngI (consA (cD (.int 12)) nilA)) (tName 8) yesT (bin gSub (callF 3 F_move (consA (varD 3) (consA (varD 1) (consA (varD 8) nilA)))) (varD 8)) [8])))
    (seqS (setO 6 (dispL (consA (tupD (consA (varD 4) (consA (varD 5) nilA))) nilA)))
    (seqS (whileS (blT (bin gLt (varD 4) (varD 2)))
    (seqS (setS 4 (bin gMulA (cD (.int 2)) (varD 4)))
    (seqS (setS 5 (lstD (compD (enumF (varD 5)) (tTup 2 (tCons (tName 8) (tCons (tName 9) tNil))) yesT (bin gAdd (varD 9) (bin gIx (varD 5) (bin gMod (bin gAdd (varD 8) (varD 9)) (cD (.int 12))))) [8, 9])))
    (appS 6 (tupD (consA (varD 4) (consA (varD 5) nilA)))))))
    (retO 6))))))
def F_far_leaps : List D → R D := defF 10 B_far_leaps
def FL_far_leaps : List D → R (List D) := defL 10 B_far_leaps
def B_leap : Env → R Out :=
  (seqS (setS 4 (cD (.int 0)))
    (seqS (forS (iterF (un gRevT (varD 0))) (tTup 2 (tCons (tName 5) (tCons (tName 6) tNil)))
    (seqS (setS 7 (bin gAdd (varD 1) (bin gIx (varD 6) (bin gMod (varD 1) (cD (.int 12))))))
    (ifS (andT (blT (bin gLe (bin gAdd (varD 4) (varD 5)) (varD 2))) (blT (bin gLe (varD 7) (varD 3))))
    (seqS (setS 1 (varD 7))
    (augS 4 gAddI (varD 5)))
    passS)))
    (retS (tupD (consA (varD 1) (consA (varD 4) nilA))))))
def F_leap : List D → R D := defF 8 B_leap
def B_move_often : Env → R Out :=
  (seqS (setS 5 (callF 3 F_far_leaps (consA (varD 0) (consA (varD 1) (consA (varD 3) nilA)))))
    (seqS (asgS (callF 4 F_leap (consA (varD 5) (consA (varD 2) (consA (varD 3) (consA (callD gMin (consA (varD 4) (consA (bin gSub (cD (.int (-30))) (cD (.int 1))) nilA))) nilA))))) (tTup 2 (tCons (tName 2) (tCons (tName 6) tNil))))
    (seqS (whileS (andT (blT (bin gLt (varD 6) (varD 3))) (blT (bin gLe (varD 2) (cD (.int 30)))))
    (seqS (setS 7 (callF 3 F_move (consA (varD 0) (consA (varD 1) (consA (varD 2) nilA)))))
    (seqS (ifS (orT (blT (bin gEq (varD 7) (varD 2))) (blT (bin gGt (varD 7) (varD 4))))
    (retS (tupD (consA (varD 2) (consA (varD 6) nilA))))
    passS)
    (seqS (setS 2 (varD 7))
    (augS 6 gAddI (cD (.int 1)))))))
    (seqS (asgS (callF 4 F_leap (consA (varD 5) (consA (varD 2) (consA (bin gSub (varD 3) (varD 6)) (consA (varD 4) nilA))))) (tTup 2 (tCons (tName 2) (tCons (tName 8) tNil))))
    (retS (tupD (consA (varD 2) (consA (bin gAdd (varD 6) (varD 8)) nilA))))))))
def F_move_often : List D → R D := defF 9 B_move_often
def B_repeated : Env → R Out :=
  (seqS (dropS (callF 3 F_need_start (consA (varD 0) (consA (varD 1) (consA (varD 2) nilA)))))
    (seqS (dropS (callF 2 F_need_number (consA (varD 3) (consA (cD (.int 1000000000000)) nilA))))
    (seqS (setS 4 (callF 2 F_calendars_for (consA (varD 0) (consA (varD 1) nilA))))
    (seqS (asgS (callF 5 F_move_often (consA (varD 4) (consA (varD 1) (consA (varD 2) (consA (varD 3) (consA (bin gAdd (varD 2) (bin gMulA (cD (.int 800)) (varD 3))) nilA)))))) (tTup 2 (tCons (tName 5) (tCons (tName 6) tNil))))
    (retS (varD 5))))))
def F_repeated : List D → R D := defF 7 B_repeated
def B_times_to : Env → R Out :=
  (seqS (dropS (callF 3 F_need_start (consA (varD 0) (consA (varD 1) (consA (varD 2) nilA)))))
    (seqS (dropS (callF 1 F_need_day (consA (varD 3) nilA)))
    (seqS (setS 4 (callF 2 F_calendars_for (consA (varD 0) (consA (varD 1) nilA))))
    (seqS (ifS (blT (bin gGe (varD 2) (varD 3)))
    (retS (cD (.int 0)))
    passS)
    (seqS (asgS (callF 5 F_move_often (consA (varD 4) (consA (varD 1) (consA (varD 2) (consA (bin gSub (varD 3) (varD 2)) (consA (bin gSub (varD 3) (cD (.int 1))) nilA)))))) (tTup 2 (tCons (tName 5) (tCons (tName 6) tNil))))
    (seqS (ifS (blT (bin gEq (callF 3 F_move (consA (varD 4) (consA (varD 1) (consA (varD 5) nilA)))) (varD 5)))
    (retS (cD .none))
    passS)
    (retS (bin gAdd (varD 6) (cD (.int 1))))))))))
def F_times_to : List D → R D := defF 7 B_times_to
def B_reduce_letters : Env → R Out :=
  (seqS (setO 1 (dispL nilA))
    (seqS (forS (iterF (varD 0)) (tName 2)
    (ifS (orT (blT (bin gEq (varD 2) (cD (.str "+")))) (blT (bin gNe (ownSl 1 (part (un gNeg (cD (.int 1)))) noPart) (lstD (dispL (consA (varD 2) nilA))))))
    (appS 1 (varD 2))
    passS))
    (retS (ownTup 1))))
def F_reduce_letters : List D → R D := defF 3 B_reduce_letters
def B_reduced : Env → R Out :=
  (seqS (dropS (callF 1 F_need_route (consA (varD 0) nilA)))
    (retS (callF 1 F_reduce_letters (consA (varD 0) nilA))))
def F_reduced : List D → R D := defF 1 B_reduced
def B_joined : Env → R Out :=
  (seqS (forS (iterF (varD 0)) (tName 1)
    (dropS (callF 1 F_need_route (consA (varD 1) nilA))))
    (seqS (setS 2 (callF 1 F_reduce_letters (consA (lstD (compD2 (iterF (varD 0)) (tName 1) yesT (iterF (varD 1)) (tName 3) yesT (varD 3) [1, 3] [3])) nilA)))
    (seqS (ifS (blT (bin gGt (callD gLen (consA (varD 2) nilA)) (cD (.int 8))))
    (raiseS "TooMany" (jsD [(cD (.str "the joined route has more than ")), (fmtD (cD (.int 8))), (cD (.str " letters"))] Str.empty))
    passS)
    (retS (varD 2)))))
def F_joined : List D → R D := defF 4 B_joined
def B_need_routes : Env → R Out :=
  (seqS (dropS (callF 1 F_need_route (consA (varD 0) nilA)))
    (dropS (callF 1 F_need_route (consA (varD 1) nilA))))
def F_need_routes : List D → R D := defF 2 B_need_routes
def B_spell : Env → R Out :=
  (seqS (setO 2 (dispL nilA))
    (seqS (forS (enumF (varD 1)) (tTup 2 (tCons (tName 3) (tCons (tName 4) tNil)))
    (ifS (andT (blT (bin gLt (ownLen 2) (callD gLen (consA (varD 0) nilA)))) (blT (bin gEq (bin gIx (varD 0) (ownLen 2)) (varD 4))))
    (appS 2 (varD 3))
    passS))
    (retS (ifD (blT (bin gEq (ownLen 2) (callD gLen (consA (varD 0) nilA)))) (ownTup 2) (cD .none)))))
def F_spell : List D → R D := defF 5 B_spell
def B_never_later : Env → R Out :=
  (seqS (dropS (callF 2 F_need_routes (consA (varD 0) (consA (varD 1) nilA))))
    (retS (bin gIsNot (callF 2 F_spell (consA (callF 1 F_reduce_letters (consA (varD 0) nilA)) (consA (varD 1) nilA))) (cD .none))))
def F_never_later : List D → R D := defF 2 B_never_later
def B_spelled_at : Env → R Out :=
  (seqS (dropS (callF 2 F_need_routes (consA (varD 0) (consA (varD 1) nilA))))
    (retS (callF 2 F_spell (consA (callF 1 F_reduce_letters (consA (varD 0) nilA)) (consA (varD 1) nilA)))))
def F_spelled_at : List D → R D := defF 2 B_spelled_at
def B_names_of : Env → R Out :=
  badS
def F_names_of : List D → R D := defF 2 B_names_of
def FL_names_of : List D → R (List D) := defL 2 B_names_of
def B_later_shown : Env → R Out :=
  (seqS (dropS (callF 2 F_need_routes (consA (varD 0) (consA (varD 1) nilA))))
    (seqS (setS 2 (callF 1 F_reduce_letters (consA (varD 0) nilA)))
    (seqS (ifS (blT (bin gIsNot (callF 2 F_spell (consA (varD 2) (consA (varD 1) nilA))) (cD .none)))
    (retS (cD .none))
    passS)
    (seqS (setS 3 (dicD (compX (iterF (callF 1 F_names_of (consA (bin gAdd (varD 0) (varD 1)) nilA))) (tName 7) yesT (varD 7) (lstD (dispL nilA)) [7])))
    (seqS (setS 4 (cD (.int 0)))
    (seqS (forS (iterF (varD 2)) (tName 5)
    (seqS (setS 6 (ifD (blT (bin gEq (varD 5) (cD (.str "+")))) (bin gAdd (varD 4) (cD (.int 1))) (bin gAdd (bin gAdd (varD 4) (callD gLen (consA (varD 1) nilA))) (cD (.int 1)))))
    (seqS (ifS (blT (bin gNe (varD 5) (cD (.str "+"))))
    badS
    passS)
    (setS 4 (varD 6)))))
    (retS (tupD (consA (callD gTuple (consA (lstD (compD (iterK (varD 3)) (tName 7) yesT (tupD (consA (varD 7) (consA (callD gTuple (consA (bin gGetK (varD 3) (varD 7)) nilA)) nilA))) [7])) nilA)) (consA (cD (.int 0)) nilA))))))))))
def F_later_shown : List D → R D := defF 8 B_later_shown
def B_is_near : Env → R Out :=
  (retS (callF 3 F_is_whole (consA (varD 0) (consA (un gNeg (cD (.int 200))) (consA (cD (.int 200)) nilA)))))
def F_is_near : List D → R D := defF 1 B_is_near
def B_is_closed : Env → R Out :=
  (retS (andD (callF 1 F_is_pair (consA (varD 0) nilA)) (andD (callF 1 F_is_name (consA (bin gIx (varD 0) (cD (.int 0))) nilA)) (andD (isiD "tuple" (bin gIx (varD 0) (cD (.int 1)))) (andD (bin gLe (callD gLen (consA (bin gIx (varD 0) (cD (.int 1))) nilA)) (cD (.int 100))) (andD (callD gAll (consA (lstD (compD (iterF (bin gIx (varD 0) (cD (.int 1)))) (tName 1) yesT (callF 1 F_is_near (consA (varD 1) nilA)) [1])) nilA)) (callF 1 F_is_rising (consA (bin gIx (varD 0) (cD (.int 1))) nilA))))))))
def F_is_closed : List D → R D := defF 2 B_is_closed
def B_is_shown : Env → R Out :=
  (retS (andD (callF 1 F_is_pair (consA (varD 0) nilA)) (andD (isiD "tuple" (bin gIx (varD 0) (cD (.int 0)))) (andD (callD gAll (consA (lstD (compD (iterF (bin gIx (varD 0) (cD (.int 0)))) (tName 1) yesT (callF 1 F_is_closed (consA (varD 1) nilA)) [1])) nilA)) (andD (callF 1 F_is_rising (consA (lstD (compD (iterF (bin gIx (varD 0) (cD (.int 0)))) (tName 1) yesT (bin gIx (varD 1) (cD (.int 0))) [1])) nilA)) (callF 1 F_is_near (consA (bin gIx (varD 0) (cD (.int 1))) nilA)))))))
def F_is_shown : List D → R D := defF 2 B_is_shown
def B_move_past : Env → R Out :=
  (seqS (forS (iterF (varD 1)) (tName 3)
    (ifS (blT (bin gEq (varD 3) (cD (.str "+"))))
    (augS 2 gAddI (cD (.int 1)))
    (whileS (blT (bin gInA (varD 2) (bin gIx (varD 0) (varD 3))))
    (augS 2 gAddI (cD (.int 1))))))
    (retS (varD 2)))
def F_move_past : List D → R D := defF 4 B_move_past
def B_later_holds : Env → R Out :=
  (seqS (dropS (callF 2 F_need_routes (consA (varD 0) (consA (varD 1) nilA))))
    (seqS (ifS (notT (truT (callF 1 F_is_shown (consA (varD 2) nilA))))
    (retS (cD (.bool false)))
    passS)
    (seqS (asgS (tupD (consA (callD gDict (consA (bin gIx (varD 2) (cD (.int 0))) nilA)) (consA (bin gIx (varD 2) (cD (.int 1))) nilA))) (tTup 2 (tCons (tName 3) (tCons (tName 4) tNil))))
    (seqS (ifS (notT (truT (callD gAll (consA (lstD (compD (iterF (callF 1 F_names_of (consA (bin gAdd (varD 0) (varD 1)) nilA))) (tName 5) yesT (bin gInA (varD 5) (varD 3)) [5])) nilA))))
    (retS (cD (.bool false)))
    passS)
    (retS (bin gGt (callF 3 F_move_past (consA (varD 3) (consA (varD 0) (consA (varD 4) nilA)))) (callF 3 F_move_past (consA (varD 3) (consA (varD 1) (consA (varD 4) nilA))))))))))
def F_later_holds : List D → R D := defF 6 B_later_holds
def B_is_word : Env → R Out :=
  (retS (andD (isiD "str" (varD 0)) (bin gInA (varD 0) (varD 1))))
def F_is_word : List D → R D := defF 2 B_is_word
def B_is_weights : Env → R Out :=
  (retS (andD (isiD "tuple" (varD 0)) (andD (chainD gLe gLe (cD (.int 2)) (callD gLen (consA (varD 0) nilA)) (cD (.int 6))) (callD gAll (consA (lstD (compD (iterF (varD 0)) (tName 2) yesT (callF 3 F_is_whole (consA (varD 2) (consA (cD (.int 0)) (consA (bin gSub (varD 1) (cD (.int 1))) nilA)))) [2])) nilA)))))
def F_is_weights : List D → R D := defF 3 B_is_weights
def B_is_scheme : Env → R Out :=
  (retS (andD (isiD "tuple" (varD 0)) (andD (bin gEq (callD gLen (consA (varD 0) nilA)) (cD (.int 4))) (andD (callF 3 F_is_whole (consA (bin gIx (varD 0) (cD (.int 0))) (consA (cD (.int 2)) (consA (cD (.int 10)) nilA)))) (andD (callF 3 F_is_whole (consA (bin gIx (varD 0) (cD (.int 1))) (consA (cD (.int 2)) (consA (cD (.int 30)) nilA)))) (andD (callF 2 F_is_weights (consA (bin gIx (varD 0) (cD (.int 2))) (consA (bin gIx (varD 0) (cD (.int 1))) nilA))) (callF 3 F_is_whole (consA (bin gIx (varD 0) (cD (.int 3))) (consA (cD (.int 0)) (consA (bin gSub (bin gIx (varD 0) (cD (.int 1))) (cD (.int 1))) nilA))))))))))
def F_is_scheme : List D → R D := defF 1 B_is_scheme
def B_need_scheme : Env → R Out :=
  (ifS (notT (truT (callF 1 F_is_scheme (consA (varD 0) nilA))))
    (raiseS "BadScheme" (cD (.str "a scheme is a tuple of a base, a modulus, weights and a rest")))
    passS)
def F_need_scheme : List D → R D := defF 1 B_need_scheme
def B_is_row : Env → R Out :=
  (retS (andD (isiD "tuple" (varD 1)) (bin gEq (callD gLen (consA (varD 1) nilA)) (callD gLen (consA (bin gIx (varD 0) (cD (.int 2))) nilA)))))
def F_is_row : List D → R D := defF 2 B_is_row
def B_is_digit : Env → R Out :=
  (retS (callF 3 F_is_whole (consA (varD 1) (consA (cD (.int 0)) (consA (bin gSub (bin gIx (varD 0) (cD (.int 0))) (cD (.int 1))) nilA)))))
def F_is_digit : List D → R D := defF 2 B_is_digit
def B_has_digits : Env → R Out :=
  (retS (andD (callF 2 F_is_row (consA (varD 0) (consA (varD 1) nilA))) (callD gAll (consA (lstD (compD (iterF (varD 1)) (tName 2) yesT (callF 2 F_is_digit (consA (varD 0) (consA (varD 2) nilA))) [2])) nilA))))
def F_has_digits : List D → R D := defF 3 B_has_digits
def B_is_code : Env → R Out :=
  (seqS (dropS (callF 1 F_need_scheme (consA (varD 0) nilA)))
    (retS (callF 2 F_has_digits (consA (varD 0) (consA (varD 1) nilA)))))
def F_is_code : List D → R D := defF 2 B_is_code
def B_need_code : Env → R Out :=
  (ifS (notT (truT (callF 2 F_has_digits (consA (varD 0) (consA (varD 1) nilA)))))
    (raiseS "BadCode" (cD (.str "a code is a tuple of as many digits as the scheme has weights")))
    passS)
def F_need_code : List D → R D := defF 2 B_need_code
def B_leaves_rest : Env → R Out :=
  (seqS (asgS (varD 0) (tTup 4 (tCons (tName 2) (tCons (tName 3) (tCons (tName 4) (tCons (tName 5) tNil))))))
    (retS (bin gEq (bin gMod (callD gSum (consA (lstD (compD (zipG (consA (varD 4) (consA (varD 1) nilA))) (tTup 2 (tCons (tName 6) (tCons (tName 7) tNil))) yesT (bin gMulA (varD 6) (varD 7)) [6, 7])) nilA)) (varD 3)) (varD 5))))
def F_leaves_rest : List D → R D := defF 8 B_leaves_rest
def B_is_right : Env → R Out :=
  (seqS (dropS (callF 1 F_need_scheme (consA (varD 0) nilA)))
    (seqS (dropS (callF 2 F_need_code (consA (varD 0) (consA (varD 1) nilA))))
    (retS (callF 2 F_leaves_rest (consA (varD 0) (consA (varD 1) nilA))))))
def F_is_right : List D → R D := defF 2 B_is_right
def B_digits_at : Env → R Out :=
  (retS (ifD (blT (bin gIs (varD 1) (cD .none))) (lstD (rng1 (bin gIx (varD 0) (cD (.int 0))))) (lstD (dispL (consA (varD 1) nilA)))))
def F_digits_at : List D → R D := defF 2 B_digits_at
def B_ways_along : Env → R Out :=
  (seqS (asgS (varD 0) (tTup 4 (tCons (tName 2) (tCons (tName 3) (tCons (tName 4) (tCons (tName 2) tNil))))))
    (seqS (setS 5 (bin gAdd (lstD (dispL (consA (cD (.int 1)) nilA))) (lstD (repL (dispL (consA (cD (.int 0)) nilA)) (bin gSub (varD 3) (cD (.int 1)))))))
    (seqS (setO 6 (dispL (consA (varD 5) nilA)))
    (seqS (forS (revRI (callD gLen (consA (varD 4) nilA))) (tName 7)
    (seqS (setS 8 (lstD (compD (iterF (callF 2 F_digits_at (consA (varD 0) (consA (bin gIx (varD 1) (varD 7)) nilA)))) (tName 9) yesT (bin gMulA (bin gIx (varD 4) (varD 7)) (varD 9)) [9])))
    (seqS (setS 5 (lstD (compD (rngI (consA (varD 3) nilA)) (tName 11) yesT (callD gSum (consA (lstD (compD (iterF (varD 8)) (tName 10) yesT (bin gIx (varD 5) (bin gMod (bin gSub (varD 11) (varD 10)) (varD 3))) [10])) nilA)) [11])))
    (appS 6 (varD 5)))))
    (retL (ownRev 6))))))
def F_ways_along : List D → R D := defF 12 B_ways_along
def B_count_in : Env → R Out :=
  (retS (bin gIx (bin gIx (callF 2 F_ways_along (consA (varD 0) (consA (varD 1) nilA))) (cD (.int 0))) (bin gIx (varD 0) (cD (.int 3)))))
def F_count_in : List D → R D := defF 2 B_count_in
def B_open_gap : Env → R Out :=
  (retS (bin gMulA (tupD (consA (cD .none) nilA)) (callD gLen (consA (bin gIx (varD 0) (cD (.int 2))) nilA))))
def F_open_gap : List D → R D := defF 1 B_open_gap
def B_count_right : Env → R Out :=
  (seqS (dropS (callF 1 F_need_scheme (consA (varD 0) nilA)))
    (retS (callF 2 F_count_in (consA (varD 0) (consA (callF 1 F_open_gap (consA (varD 0) nilA)) nilA)))))
def F_count_right : List D → R D := defF 1 B_count_right
def B_nth_in : Env → R Out :=
  (seqS (asgS (varD 0) (tTup 4 (tCons (tName 3) (tCons (tName 4) (tCons (tName 5) (tCons (tName 6) tNil))))))
    (seqS (setS 7 (callF 2 F_ways_along (consA (varD 0) (consA (varD 1) nilA))))
    (seqS (setO 8 (dispL nilA))
    (seqS (forS (enumF (varD 5)) (tTup 2 (tCons (tName 9) (tCons (tName 10) tNil)))
    (seqS (forS (iterF (callF 2 F_digits_at (consA (varD 0) (consA (bin gIx (varD 1) (varD 9)) nilA)))) (tName 11)
    (seqS (setS 12 (bin gMod (bin gSub (varD 6) (bin gMulA (varD 10) (varD 11))) (varD 4)))
    (seqS (ifS (blT (bin gLt (varD 2) (bin gIx (bin gIx (varD 7) (bin gAdd (varD 9) (cD (.int 1)))) (varD 12))))
    brkS
    passS)
    (augS 2 gSubI (bin gIx (bin gIx (varD 7) (bin gAdd (varD 9) (cD (.int 1)))) (varD 12))))))
    (seqS (appS 8 (varD 11))
    (setS 6 (varD 12)))))
    (retS (ownTup 8))))))
def F_nth_in : List D → R D := defF 13 B_nth_in
def B_numbered : Env → R Out :=
  (seqS (dropS (callF 2 F_need_number (consA (varD 2) (consA (bin gSub (callF 2 F_count_in (consA (varD 0) (consA (varD 1) nilA))) (cD (.int 1))) nilA))))
    (retS (callF 3 F_nth_in (consA (varD 0) (consA (varD 1) (consA (varD 2) nilA))))))
def F_numbered : List D → R D := defF 3 B_numbered
def B_nth_right : Env → R Out :=
  (seqS (dropS (callF 1 F_need_scheme (consA (varD 0) nilA)))
    (retS (callF 3 F_numbered (consA (varD 0) (consA (callF 1 F_open_gap (consA (varD 0) nilA)) (consA (varD 1) nilA))))))
def F_nth_right : List D → R D := defF 2 B_nth_right
def B_count_less : Env → R Out :=
  (seqS (asgS (varD 0) (tTup 4 (tCons (tName 2) (tCons (tName 3) (tCons (tName 4) (tCons (tName 5) tNil))))))
    (seqS (setS 6 (callF 2 F_ways_along (consA (varD 0) (consA (callF 1 F_open_gap (consA (varD 0) nilA)) nilA))))
    (seqS (setS 7 (cD (.int 0)))
    (seqS (forS (enumF (varD 4)) (tTup 2 (tCons (tName 8) (tCons (tName 9) tNil)))
    (seqS (augS 7 gAddI (callD gSum (consA (lstD (compD (rngI (consA (bin gIx (varD 1) (varD 8)) nilA)) (tName 10) yesT (bin gIx (bin gIx (varD 6) (bin gAdd (varD 8) (cD (.int 1)))) (bin gMod (bin gSub (varD 5) (bin gMulA (varD 9) (varD 10))) (varD 3))) [10])) nilA)))
    (setS 5 (bin gMod (bin gSub (varD 5) (bin gMulA (varD 9) (bin gIx (varD 1) (varD 8)))) (varD 3)))))
    (retS (varD 7))))))
def F_count_less : List D → R D := defF 11 B_count_less
def B_number_of : Env → R Out :=
  (seqS (dropS (callF 1 F_need_scheme (consA (varD 0) nilA)))
    (seqS (dropS (callF 2 F_need_code (consA (varD 0) (consA (varD 1) nilA))))
    (seqS (ifS (notT (truT (callF 2 F_leaves_rest (consA (varD 0) (consA (varD 1) nilA)))))
    (raiseS "NotRight" (cD (.str "the code is not right")))
    passS)
    (retS (callF 2 F_count_less (consA (varD 0) (consA (varD 1) nilA)))))))
def F_number_of : List D → R D := defF 2 B_number_of
def B_next_right : Env → R Out :=
  (seqS (dropS (callF 1 F_need_scheme (consA (varD 0) nilA)))
    (seqS (dropS (callF 2 F_need_code (consA (varD 0) (consA (varD 1) nilA))))
    (seqS (setS 2 (callF 1 F_open_gap (consA (varD 0) nilA)))
    (seqS (setS 3 (callF 2 F_count_less (consA (varD 0) (consA (varD 1) nilA))))
    (seqS (ifS (truT (callF 2 F_leaves_rest (consA (varD 0) (consA (varD 1) nilA))))
    (augS 3 gAddI (cD (.int 1)))
    passS)
    (retS (ifD (blT (bin gLt (varD 3) (callF 2 F_count_in (consA (varD 0) (consA (varD 2) nilA))))) (callF 3 F_nth_in (consA (varD 0) (consA (varD 2) (consA (varD 3) nilA)))) (cD .none))))))))
def F_next_right : List D → R D := defF 4 B_next_right
def B_count_below : Env → R Out :=
  (seqS (dropS (callF 1 F_need_scheme (consA (varD 0) nilA)))
    (seqS (dropS (callF 2 F_need_code (consA (varD 0) (consA (varD 1) nilA))))
    (retS (callF 2 F_count_less (consA (varD 0) (consA (varD 1) nilA))))))
def F_count_below : List D → R D := defF 2 B_count_below
def B_need_gap : Env → R Out :=
  (ifS (notT (andT (truT (callF 2 F_is_row (consA (varD 0) (consA (varD 1) nilA)))) (truT (callD gAll (consA (lstD (compD (iterF (varD 1)) (tName 2) yesT (orD (bin gIs (varD 2) (cD .none)) (callF 2 F_is_digit (consA (varD 0) (consA (varD 2) nilA)))) [2])) nilA)))))
    (raiseS "BadGap" (cD (.str "a gap is a tuple of as many digits and None as the scheme has weights")))
    passS)
def F_need_gap : List D → R D := defF 3 B_need_gap
def B_count_fills : Env → R Out :=
  (seqS (dropS (callF 1 F_need_scheme (consA (varD 0) nilA)))
    (seqS (dropS (callF 2 F_need_gap (consA (varD 0) (consA (varD 1) nilA))))
    (retS (callF 2 F_count_in (consA (varD 0) (consA (varD 1) nilA))))))
def F_count_fills : List D → R D := defF 2 B_count_fills
def B_nth_fill : Env → R Out :=
  (seqS (dropS (callF 1 F_need_scheme (consA (varD 0) nilA)))
    (seqS (dropS (callF 2 F_need_gap (consA (varD 0) (consA (varD 1) nilA))))
    (retS (callF 3 F_numbered (consA (varD 0) (consA (varD 1) (consA (varD 2) nilA)))))))
def F_nth_fill : List D → R D := defF 3 B_nth_fill
def B_put_in : Env → R Out :=
  (retS (bin gAdd (bin gAdd (slD gSl (varD 0) noPart (part (varD 1))) (varD 2)) (slD gSl (varD 0) (part (bin gAdd (varD 1) (callD gLen (consA (varD 2) nilA)))) noPart)))
def F_put_in : List D → R D := defF 3 B_put_in
def B_sure_digits : Env → R Out :=
  (seqS (dropS (callF 1 F_need_scheme (consA (varD 0) nilA)))
    (seqS (dropS (callF 2 F_need_gap (consA (varD 0) (consA (varD 1) nilA))))
    (seqS (ifS (blT (bin gEq (callF 2 F_count_in (consA (varD 0) (consA (varD 1) nilA))) (cD (.int 0))))
    (raiseS "NotRight" (cD (.str "no right code has the digits of the gap")))
    passS)
    (seqS (setO 2 (dispL nilA))
    (seqS (forS (rngI (consA (callD gLen (consA (varD 1) nilA)) nilA)) (tName 3)
    (seqS (setS 4 (lstD (compD (iterF (callF 2 F_digits_at (consA (varD 0) (consA (bin gIx (varD 1) (varD 3)) nilA)))) (tName 5) (blT (bin gGt (callF 2 F_count_in (consA (varD 0) (consA (callF 3 F_put_in (consA (varD 1) (consA (varD 3) (consA (tupD (consA (varD 5) nilA)) nilA)))) nilA))) (cD (.int 0)))) (varD 5) [5])))
    (appS 2 (ifD (blT (bin gEq (callD gLen (consA (varD 4) nilA)) (cD (.int 1)))) (bin gIx (varD 4) (cD (.int 0))) (cD .none)))))
    (retS (ownTup 2)))))))
def F_sure_digits : List D → R D := defF 6 B_sure_digits
def B_exchanged : Env → R Out :=
  (seqS (setS 1 (lstD (compD (rngI (consA (bin gSub (callD gLen (consA (varD 0) nilA)) (cD (.int 1))) nilA)) (tName 2) yesT (tupD (consA (varD 2) (consA (bin gIx (varD 0) (varD 2)) (consA (bin gIx (varD 0) (bin gAdd (varD 2) (cD (.int 1)))) nilA)))) [2])))
    (retL (compD (iterF (varD 1)) (tTup 3 (tCons (tName 2) (tCons (tName 3) (tCons (tName 4) tNil)))) (blT (bin gNe (varD 3) (varD 4))) (callF 3 F_put_in (consA (varD 0) (consA (varD 2) (consA (tupD (consA (varD 4) (consA (varD 3) nilA))) nilA)))) [2, 3, 4])))
def F_exchanged : List D → R D := defF 5 B_exchanged
def FL_exchanged : List D → R (List D) := defL 5 B_exchanged
def B_slipped : Env → R Out :=
  (seqS (setS 2 (rngV (bin gIx (varD 0) (cD (.int 0)))))
    (seqS (setS 3 (lstD (compD2 (rngI (consA (callD gLen (consA (varD 1) nilA)) nilA)) (tName 4) yesT (iterV (varD 2)) (tName 5) (blT (bin gNe (varD 5) (bin gIx (varD 1) (varD 4)))) (callF 3 F_put_in (consA (varD 1) (consA (varD 4) (consA (tupD (consA (varD 5) nilA)) nilA)))) [4, 5] [5])))
    (retS (bin gAdd (varD 3) (callF 1 F_exchanged (consA (varD 1) nilA))))))
def F_slipped : List D → R D := defF 6 B_slipped
def B_fixes : Env → R Out :=
  (seqS (dropS (callF 1 F_need_scheme (consA (varD 0) nilA)))
    (seqS (dropS (callF 2 F_need_code (consA (varD 0) (consA (varD 1) nilA))))
    (retL (sortG (lstD (compD (iterF (callF 2 F_slipped (consA (varD 0) (consA (varD 1) nilA)))) (tName 2) (truT (callF 2 F_leaves_rest (consA (varD 0) (consA (varD 2) nilA)))) (varD 2) [2]))))))
def F_fixes : List D → R D := defF 3 B_fixes
def FL_fixes : List D → R (List D) := defL 3 B_fixes
def B_need_kind : Env → R Out :=
  (ifS (notT (truT (callF 2 F_is_word (consA (varD 0) (consA (cD (.tuple ((["digit", "swap"] : List Str).map PyData.str))) nilA)))))
    (raiseS "BadKind" (cD (.str "a kind of slip is 'digit' or 'swap'")))
    passS)
def F_need_kind : List D → R D := defF 1 B_need_kind
def B_blind_slips : Env → R Out :=
  (seqS (asgS (varD 0) (tTup 4 (tCons (tName 2) (tCons (tName 3) (tCons (tName 4) (tCons (tName 5) tNil))))))
    (seqS (setS 6 (lstD (compD2 (rngI (consA (varD 2) nilA)) (tName 10) yesT (rngI (consA (bin gAdd (varD 10) (cD (.int 1))) (consA (varD 2) nilA))) (tName 11) yesT (tupD (consA (varD 10) (consA (varD 11) nilA))) [10, 11] [11])))
    (seqS (setO 7 (dispL nilA))
    (seqS (forS (enumF (ifD (blT (bin gEq (varD 1) (cD (.str "digit")))) (varD 4) (slD gSl (varD 4) (part (cD (.int 1))) noPart))) (tTup 2 (tCons (tName 8) (tCons (tName 9) tNil)))
    (forS (iterF (varD 6)) (tTup 2 (tCons (tName 10) (tCons (tName 11) tNil)))
    (seqS (ifS (blT (bin gEq (varD 1) (cD (.str "digit"))))
    (par3S 12 13 14 (consA (tupD (consA (varD 10) nilA)) (consA (tupD (consA (varD 11) nilA)) (consA (bin gMulA (varD 9) (bin gSub (varD 11) (varD 10))) nilA))))
    (par3S 12 13 14 (consA (tupD (consA (varD 10) (consA (varD 11) nilA))) (consA (tupD (consA (varD 11) (consA (varD 10) nilA))) (consA (bin gMulA (bin gSub (varD 9) (bin gIx (varD 4) (varD 8))) (bin gSub (varD 10) (varD 11))) nilA)))))
    (ifS (blT (bin gEq (bin gMod (varD 14) (varD 3)) (cD (.int 0))))
    (appS 7 (tupD (consA (varD 8) (consA (varD 12) (consA (varD 13) nilA)))))
    passS))))
    (retO 7)))))
def F_blind_slips : List D → R D := defF 15 B_blind_slips
def FL_blind_slips : List D → R (List D) := defL 15 B_blind_slips
def B_unnoticed : Env → R Out :=
  (seqS (dropS (callF 1 F_need_scheme (consA (varD 0) nilA)))
    (seqS (dropS (callF 1 F_need_kind (consA (varD 1) nilA)))
    (seqS (setO 2 (dispL nilA))
    (seqS (forS (iterF (callF 2 F_blind_slips (consA (varD 0) (consA (varD 1) nilA)))) (tTup 3 (tCons (tName 3) (tCons (tName 4) (tCons (tName 5) tNil))))
    (seqS (setS 6 (callF 3 F_put_in (consA (callF 1 F_open_gap (consA (varD 0) nilA)) (consA (varD 3) (consA (varD 4) nilA)))))
    (ifS (blT (bin gGt (callF 2 F_count_in (consA (varD 0) (consA (varD 6) nilA))) (cD (.int 0))))
    (seqS (setS 7 (callF 3 F_nth_in (consA (varD 0) (consA (varD 6) (consA (cD (.int 0)) nilA)))))
    (appS 2 (tupD (consA (varD 7) (consA (callF 3 F_put_in (consA (varD 7) (consA (varD 3) (consA (varD 5) nilA)))) nilA)))))
    passS)))
    badS))))
def F_unnoticed : List D → R D := defF 8 B_unnoticed
def B_count_unnoticed : Env → R Out :=
  (seqS (dropS (callF 1 F_need_scheme (consA (varD 0) nilA)))
    (seqS (dropS (callF 1 F_need_kind (consA (varD 1) nilA)))
    (seqS (setS 2 (callF 1 F_open_gap (consA (varD 0) nilA)))
    (retS (callD gSum (consA (lstD (compD (iterF (callF 2 F_blind_slips (consA (varD 0) (consA (varD 1) nilA)))) (tTup 3 (tCons (tName 3) (tCons (tName 4) (tCons (tName 5) tNil)))) yesT (callF 2 F_count_in (consA (varD 0) (consA (callF 3 F_put_in (consA (varD 2) (consA (varD 3) (consA (varD 4) nilA)))) nilA))) [3, 4, 5])) nilA))))))
def F_count_unnoticed : List D → R D := defF 6 B_count_unnoticed
def B_changes_along : Env → R Out :=
  (seqS (asgS (varD 0) (tTup 4 (tCons (tName 2) (tCons (tName 3) (tCons (tName 4) (tCons (tName 5) tNil))))))
    (seqS (setS 6 (bin gAdd (lstD (dispL (consA (cD (.int 0)) nilA))) (lstD (repL (dispL (consA (cD (.int 7)) nilA)) (bin gSub (varD 3) (cD (.int 1)))))))
    (seqS (setO 7 (dispL (consA (varD 6) nilA)))
    (seqS (forS (revRI (callD gLen (consA (varD 4) nilA))) (tName 8)
    (seqS (setS 9 (lstD (compD (rngI (consA (varD 2) nilA)) (tName 10) yesT (tupD (consA (callD gInt (consA (bin gNe (varD 10) (bin gIx (varD 1) (varD 8))) nilA)) (consA (bin gMulA (bin gIx (varD 4) (varD 8)) (varD 10)) nilA))) [10])))
    (seqS (setS 6 (lstD (compD (rngI (consA (varD 3) nilA)) (tName 13) yesT (callD gMinL (consA (lstD (compD (iterF (varD 9)) (tTup 2 (tCons (tName 11) (tCons (tName 12) tNil))) yesT (bin gAdd (varD 11) (bin gIx (varD 6) (bin gMod (bin gSub (varD 13) (varD 12)) (varD 3)))) [11, 12])) nilA)) [13])))
    (appS 7 (varD 6)))))
    (retL (ownRev 7))))))
def F_changes_along : List D → R D := defF 14 B_changes_along
def B_least_change : Env → R Out :=
  (seqS (asgS (varD 0) (tTup 4 (tCons (tName 3) (tCons (tName 4) (tCons (tName 5) (tCons (tName 6) tNil))))))
    (seqS (setO 7 (dispL nilA))
    (seqS (forS (enumF (varD 5)) (tTup 2 (tCons (tName 8) (tCons (tName 9) tNil)))
    (seqS (forS (rngI (consA (varD 3) nilA)) (tName 10)
    (seqS (setS 11 (bin gMod (bin gSub (varD 6) (bin gMulA (varD 9) (varD 10))) (varD 4)))
    (ifS (blT (bin gEq (bin gAdd (callD gInt (consA (bin gNe (varD 10) (bin gIx (varD 1) (varD 8))) nilA)) (bin gIx (bin gIx (varD 2) (bin gAdd (varD 8) (cD (.int 1)))) (varD 11))) (bin gIx (bin gIx (varD 2) (varD 8)) (varD 6))))
    brkS
    passS)))
    (seqS (appS 7 (varD 10))
    (setS 6 (varD 11)))))
    (retS (ownTup 7)))))
def F_least_change : List D → R D := defF 12 B_least_change
def B_closest_right : Env → R Out :=
  (seqS (dropS (callF 1 F_need_scheme (consA (varD 0) nilA)))
    (seqS (dropS (callF 2 F_need_code (consA (varD 0) (consA (varD 1) nilA))))
    (seqS (setS 2 (callF 2 F_changes_along (consA (varD 0) (consA (varD 1) nilA))))
    (seqS (setS 3 (bin gIx (bin gIx (varD 2) (cD (.int 0))) (bin gIx (varD 0) (cD (.int 3)))))
    (seqS (ifS (blT (bin gGe (varD 3) (cD (.int 7))))
    (retS (cD .none))
    passS)
    (retS (tupD (consA (varD 3) (consA (callF 3 F_least_change (consA (varD 0) (consA (varD 1) (consA (varD 2) nilA)))) nilA)))))))))
def F_closest_right : List D → R D := defF 4 B_closest_right
def B_need_register : Env → R Out :=
  (ifS (notT (andT (truT (isiD "tuple" (varD 1))) (andT (blT (bin gLe (callD gLen (consA (varD 1) nilA)) (cD (.int 8)))) (andT (truT (callD gAll (consA (lstD (compD (iterF (varD 1)) (tName 2) yesT (andD (callF 2 F_has_digits (consA (varD 0) (consA (varD 2) nilA))) (callF 2 F_leaves_rest (consA (varD 0) (consA (varD 2) nilA)))) [2])) nilA))) (truT (callF 1 F_is_rising (consA (varD 1) nilA)))))))
    (raiseS "BadRegister" (jsD [(cD (.str "a register is a tuple of at most ")), (fmtD (cD (.int 8))), (cD (.str " right codes, ascending, without duplicates"))] Str.empty))
    passS)
def F_need_register : List D → R D := defF 3 B_need_register
def B_near_pairs : Env → R Out :=
  (seqS (dropS (callF 1 F_need_scheme (consA (varD 0) nilA)))
    (seqS (dropS (callF 2 F_need_register (consA (varD 0) (consA (varD 1) nilA))))
    (seqS (setS 2 (dicD (compX (iterF (varD 1)) (tName 5) yesT (varD 5) (lstD (dispL (consA (varD 5) (consStar (callF 2 F_slipped (consA (varD 0) (consA (varD 5) nilA))) nilA)))) [5])))
    (seqS (setO 3 (dispL nilA))
    (seqS (forS (enumF (varD 1)) (tTup 2 (tCons (tName 4) (tCons (tName 5) tNil)))
    (seqS badS
    (forS (iterF (slD gSl (varD 1) (part (bin gAdd (varD 4) (cD (.int 1)))) noPart)) (tName 7)
    (ifS (truT (callD gAny (consA (lstD (compD (iterF (bin gGetK (varD 2) (varD 7))) (tName 8) yesT (bin gInA (varD 8) (varD 6)) [8])) nilA)))
    (appS 3 (tupD (consA (varD 5) (consA (varD 7) nilA))))
    passS))))
    (retO 3))))))
def F_near_pairs : List D → R D := defF 9 B_near_pairs
def FL_near_pairs : List D → R (List D) := defL 9 B_near_pairs
def B_read_typed : Env → R Out :=
  (seqS (dropS (callF 1 F_need_scheme (consA (varD 0) nilA)))
    (seqS (dropS (callF 2 F_need_register (consA (varD 0) (consA (varD 1) nilA))))
    (seqS (dropS (callF 2 F_need_code (consA (varD 0) (consA (varD 2) nilA))))
    (seqS badS
    (retL (compD (iterF (varD 1)) (tName 4) (blT (bin gInA (varD 4) (varD 3))) (varD 4) [4]))))))
def F_read_typed : List D → R D := defF 5 B_read_typed
def FL_read_typed : List D → R (List D) := defL 5 B_read_typed
def B_ends_by_rest : Env → R Out :=
  (seqS (asgS (varD 0) (tTup 4 (tCons (tName 1) (tCons (tName 2) (tCons (tName 3) (tCons (tName 4) tNil))))))
    (seqS (setS 5 (lstD (compD (rngI (consA (varD 2) nilA)) (tName 4) yesT (lstD (dispL nilA)) [4])))
    (seqS (forS (rngI (consA (varD 1) nilA)) (tName 6)
    (forS (rngI (consA (varD 1) nilA)) (tName 7)
    badS))
    (retS (varD 5)))))
def F_ends_by_rest : List D → R D := defF 8 B_ends_by_rest
def B_least_apart : Env → R Out :=
  (seqS (setS 4 (lstD (compD (iterF (varD 2)) (tName 8) yesT (tupD (consA (callD gSum (consA (lstD (compD (zipG (consA (varD 0) (consA (varD 8) nilA))) (tTup 2 (tCons (tName 9) (tCons (tName 10) tNil))) yesT (callD gInt (consA (bin gNe (varD 9) (varD 10)) nilA)) [9, 10])) nilA)) (consA (bin gIx (varD 8) (un gNeg (cD (.int 2)))) (consA (bin gIx (varD 8) (un gNeg (cD (.int 1)))) nilA)))) [8])))
    (seqS (setS 5 (lstD (compD (iterF (varD 4)) (tName 11) (blT (bin gLe (bin gIx (varD 11) (cD (.int 0))) (cD (.int 2)))) (varD 11) [11])))
    (seqS (forS (iterF (varD 1)) (tTup 2 (tCons (tName 6) (tCons (tName 7) tNil)))
    (ifS (truT (callD gAll (consA (lstD (compD (iterF (varD 5)) (tTup 3 (tCons (tName 12) (tCons (tName 13) (tCons (tName 14) tNil)))) yesT (bin gGt (bin gAdd (bin gAdd (varD 12) (callD gInt (consA (bin gNe (varD 6) (varD 13)) nilA))) (callD gInt (consA (bin gNe (varD 7) (varD 14)) nilA))) (cD (.int 2))) [12, 13, 14])) nilA)))
    (seqS badS
    (ifS (notT (truT (callD gAny (consA (lstD (compD (iterF (callF 1 F_exchanged (consA (varD 8) nilA))) (tName 15) yesT (bin gInA (varD 15) (varD 3)) [15])) nilA))))
    (retS (varD 8))
    passS))
    passS))
    (retS (cD .none)))))
def F_least_apart : List D → R D := defF 16 B_least_apart
def B_longer_heads : Env → R Out :=
  (seqS (asgS (varD 0) (tTup 4 (tCons (tName 4) (tCons (tName 5) (tCons (tName 6) (tCons (tName 7) tNil))))))
    (seqS (setS 8 (callD gLen (consA (varD 2) nilA)))
    (seqS badS
    (retL (compD (iterF (varD 9)) (tTup 2 (tCons (tName 11) (tCons (tName 12) tNil))) (blT (bin gGt (bin gIx (bin gIx (varD 1) (bin gAdd (varD 8) (cD (.int 1)))) (varD 12)) (cD (.int 0)))) (tupD (consA (varD 11) (consA (varD 12) nilA))) [11, 12])))))
def F_longer_heads : List D → R D := defF 13 B_longer_heads
def FL_longer_heads : List D → R (List D) := defL 13 B_longer_heads
def B_take_apart : Env → R Out :=
  (seqS (setS 3 (callF 1 F_ends_by_rest (consA (varD 0) nilA)))
    (seqS (setO 4 (dispL nilA))
    (seqS (newX 5)
    (seqS (setO 6 (dispL (consA (tupD (consA (tupD nilA) (consA (bin gIx (varD 0) (cD (.int 3))) nilA))) nilA)))
    (seqS (frzS 6 (whileS (andT (truT (varD 6)) (blT (bin gLt (ownLen 4) (varD 2))))
    (seqS badS
    (seqS (ifS (blT (bin gLt (callD gLen (consA (varD 7) nilA)) (bin gSub (callD gLen (consA (bin gIx (varD 0) (cD (.int 2))) nilA)) (cD (.int 2)))))
    (seqS (extS 6 (callL 4 FL_longer_heads (consA (varD 0) (consA (varD 1) (consA (varD 7) (consA (varD 8) nilA))))))
    ctS)
    passS)
    (seqS (frzDS 5 (frzS 4 (setS 9 (callF 4 F_least_apart (consA (varD 7) (consA (bin gIx (varD 3) (varD 8)) (consA (varD 4) (consA (varD 5) nilA))))))))
    (ifS (blT (bin gIsNot (varD 9) (cD .none)))
    (seqS (appS 4 (varD 9))
    (forS (iterF (lstD (dispL (consA (varD 9) (consStar (callF 2 F_slipped (consA (varD 0) (consA (varD 9) nilA))) nilA))))) (tName 10)
    (putDS 5 (cD (.bool true)) (varD 10))))
    passS))))))
    (retO 4))))))
def F_take_apart : List D → R D := defF 11 B_take_apart
def FL_take_apart : List D → R (List D) := defL 11 B_take_apart
def B_safe_register : Env → R Out :=
  (seqS (dropS (callF 1 F_need_scheme (consA (varD 0) nilA)))
    (seqS (dropS (callF 2 F_need_number (consA (varD 1) (consA (cD (.int 8)) nilA))))
    (seqS (ifS (blT (bin gEq (varD 1) (cD (.int 0))))
    (retS (tupD nilA))
    passS)
    (seqS (setS 2 (callF 2 F_ways_along (consA (varD 0) (consA (callF 1 F_open_gap (consA (varD 0) nilA)) nilA))))
    (seqS (ifS (blT (bin gLt (bin gIx (bin gIx (varD 2) (cD (.int 0))) (bin gIx (varD 0) (cD (.int 3)))) (varD 1)))
    (retS (cD .none))
    passS)
    (seqS (setS 3 (callF 3 F_take_apart (consA (varD 0) (consA (varD 2) (consA (varD 1) nilA)))))
    (retS (ifD (blT (bin gEq (callD gLen (consA (varD 3) nilA)) (varD 1))) (callD gTuple (consA (varD 3) nilA)) (cD .none)))))))))
def F_safe_register : List D → R D := defF 4 B_safe_register
def B_is_folder : Env → R Out :=
  (retS (callF 3 F_is_whole (consA (varD 1) (consA (cD (.int 0)) (consA (bin gSub (varD 0) (cD (.int 1))) nilA)))))
def F_is_folder : List D → R D := defF 2 B_is_folder
def B_is_path : Env → R Out :=
  (retS (callF 3 F_is_whole (consA (varD 0) (consA (cD (.int 0)) (consA (cD (.int 3)) nilA)))))
def F_is_path : List D → R D := defF 1 B_is_path
def B_is_contents : Env → R Out :=
  (retS (andD (isiD "tuple" (varD 1)) (andD (callD gAll (consA (lstD (compD (iterF (varD 1)) (tName 2) yesT (callF 2 F_is_folder (consA (varD 0) (consA (varD 2) nilA))) [2])) nilA)) (callF 1 F_is_rising (consA (varD 1) nilA)))))
def F_is_contents : List D → R D := defF 3 B_is_contents
def B_need_path : Env → R Out :=
  (ifS (notT (truT (callF 1 F_is_path (consA (varD 0) nilA))))
    (raiseS "BadPath" (jsD [(cD (.str "a path is an integer from 0 to ")), (fmtD (cD (.int 3)))] Str.empty))
    passS)
def F_need_path : List D → R D := defF 1 B_need_path
def B_need_contents : Env → R Out :=
  (ifS (notT (truT (callF 2 F_is_contents (consA (varD 0) (consA (varD 1) nilA)))))
    (raiseS "BadContents" (cD (.str "first contents are a tuple of folders, ascending, without duplicates")))
    passS)
def F_need_contents : List D → R D := defF 2 B_need_contents
def B_is_paper_deed : Env → R Out :=
  (seqS (ifS (notT (andT (truT (isiD "tuple" (varD 1))) (andT (blT (bin gEq (callD gLen (consA (varD 1) nilA)) (cD (.int 3)))) (truT (callF 2 F_is_folder (consA (varD 0) (consA (bin gIx (varD 1) (cD (.int 1))) nilA)))))))
    (retS (cD (.bool false)))
    passS)
    (seqS (ifS (truT (callF 2 F_is_word (consA (bin gIx (varD 1) (cD (.int 0))) (consA (cD (.tuple ((["over", "under"] : List Str).map PyData.str))) nilA))))
    (retS (andD (callF 2 F_is_folder (consA (varD 0) (consA (bin gIx (varD 1) (cD (.int 2))) nilA))) (bin gNe (bin gIx (varD 1) (cD (.int 1))) (bin gIx (varD 1) (cD (.int 2))))))
    passS)
    (retS (andD (callF 2 F_is_word (consA (bin gIx (varD 1) (cD (.int 0))) (consA (cD (.tuple ((["write", "throw"] : List Str).map PyData.str))) nilA))) (callF 1 F_is_path (consA (bin gIx (varD 1) (cD (.int 2))) nilA))))))
def F_is_paper_deed : List D → R D := defF 2 B_is_paper_deed
def B_first_lists : Env → R Out :=
  (retS (callD gTuple (consA (lstD (compD (rngI (consA (varD 0) nilA)) (tName 1) yesT (tupD (consA (tupD (consA (cD (.str "first")) (consA (varD 1) nilA))) nilA)) [1])) nilA)))
def F_first_lists : List D → R D := defF 2 B_first_lists
def B_put : Env → R Out :=
  (retS (bin gAdd (bin gAdd (slD gSl (varD 0) noPart (part (varD 1))) (tupD (consA (varD 2) nilA))) (slD gSl (varD 0) (part (bin gAdd (varD 1) (cD (.int 1)))) noPart)))
def F_put : List D → R D := defF 3 B_put
def B_laid_over : Env → R Out :=
  (seqS (ifS (andT (truT (varD 0)) (blT (bin gEq (bin gIx (bin gIx (varD 0) (un gNeg (cD (.int 1)))) (cD (.int 0))) (cD (.str "written")))))
    (retS (varD 0))
    passS)
    (retS (bin gAdd (varD 0) (callD gTuple (consA (lstD (compD (iterF (varD 1)) (tName 2) (blT (bin gNotInA (varD 2) (varD 0))) (varD 2) [2])) nilA)))))
def F_laid_over : List D → R D := defF 3 B_laid_over
def B_lists_behind : Env → R Out :=
  (seqS (asgS (varD 1) (tTup 3 (tCons (tName 4) (tCons (tName 5) (tCons (tName 6) tNil)))))
    (seqS (ifS (blT (bin gEq (varD 4) (cD (.str "over"))))
    (retS (callF 3 F_put (consA (varD 0) (consA (varD 6) (consA (callF 2 F_laid_over (consA (bin gIx (varD 0) (varD 5)) (consA (bin gIx (varD 0) (varD 6)) nilA))) nilA)))))
    passS)
    (seqS (ifS (blT (bin gEq (varD 4) (cD (.str "under"))))
    (retS (callF 3 F_put (consA (varD 0) (consA (varD 6) (consA (callF 2 F_laid_over (consA (bin gIx (varD 0) (varD 6)) (consA (bin gIx (varD 0) (varD 5)) nilA))) nilA)))))
    passS)
    (seqS (ifS (blT (bin gNe (varD 6) (varD 2)))
    (retS (varD 0))
    passS)
    (retS (callF 3 F_put (consA (varD 0) (consA (varD 5) (consA (ifD (blT (bin gEq (varD 4) (cD (.str "write")))) (tupD (consA (tupD (consA (cD (.str "written")) (consA (varD 3) nilA))) nilA)) (tupD nilA)) nilA)))))))))
def F_lists_behind : List D → R D := defF 7 B_lists_behind
def B_first_there : Env → R Out :=
  (seqS (forS (iterF (varD 0)) (tName 2)
    (ifS (orT (blT (bin gEq (bin gIx (varD 2) (cD (.int 0))) (cD (.str "written")))) (blT (bin gInA (bin gIx (varD 2) (cD (.int 1))) (varD 1))))
    (retS (varD 2))
    passS))
    (retS (cD .none)))
def F_first_there : List D → R D := defF 3 B_first_there
def B_papers_of : Env → R Out :=
  (retS (callD gTuple (consA (lstD (compD (iterF (varD 0)) (tName 2) yesT (callF 2 F_first_there (consA (varD 2) (consA (varD 1) nilA))) [2])) nilA)))
def F_papers_of : List D → R D := defF 3 B_papers_of
def B_comes_up : Env → R Out :=
  (seqS (forS (iterF (varD 0)) (tName 2)
    (ifS (blT (bin gNe (varD 1) (cD (.int 0))))
    (setS 1 (bin gIx (varD 0) (bin gSub (varD 1) (cD (.int 1)))))
    passS))
    (retS (bin gEq (varD 1) (cD (.int 0)))))
def F_comes_up : List D → R D := defF 3 B_comes_up
def B_is_parents : Env → R Out :=
  (seqS (ifS (notT (andT (truT (isiD "tuple" (varD 0))) (blT (bin gLt (callD gLen (consA (varD 0) nilA)) (cD (.int 6))))))
    (retS (cD (.bool false)))
    passS)
    (seqS (setS 1 (bin gAdd (callD gLen (consA (varD 0) nilA)) (cD (.int 1))))
    (retS (andD (callD gAll (consA (lstD (compD (iterF (varD 0)) (tName 2) yesT (callF 2 F_is_folder (consA (varD 1) (consA (varD 2) nilA))) [2])) nilA)) (callD gAll (consA (lstD (compD (rngI (consA (varD 1) nilA)) (tName 3) yesT (callF 2 F_comes_up (consA (varD 0) (consA (varD 3) nilA))) [3])) nilA))))))
def F_is_parents : List D → R D := defF 4 B_is_parents
def B_is_group : Env → R Out :=
  (retS (callF 3 F_is_whole (consA (varD 0) (consA (bin gIx (cD (.tuple (([(0), (1), (2)] : List Int).map PyData.int))) (cD (.int 0))) (consA (bin gIx (cD (.tuple (([(0), (1), (2)] : List Int).map PyData.int))) (un gNeg (cD (.int 1)))) nilA)))))
def F_is_group : List D → R D := defF 1 B_is_group
def B_is_who : Env → R Out :=
  (seqS (ifS (notT (truT (callF 1 F_is_pair (consA (varD 1) nilA))))
    (retS (cD (.bool false)))
    passS)
    (seqS (ifS (truT (callF 2 F_is_word (consA (bin gIx (varD 1) (cD (.int 0))) (consA (tupD (consA (cD (.str "p")) nilA)) nilA))))
    (retS (callF 3 F_is_whole (consA (bin gIx (varD 1) (cD (.int 1))) (consA (cD (.int 0)) (consA (bin gSub (varD 0) (cD (.int 1))) nilA)))))
    passS)
    (retS (andD (callF 2 F_is_word (consA (bin gIx (varD 1) (cD (.int 0))) (consA (tupD (consA (cD (.str "g")) nilA)) nilA))) (callF 1 F_is_group (consA (bin gIx (varD 1) (cD (.int 1))) nilA))))))
def F_is_who : List D → R D := defF 2 B_is_who
def B_is_entry : Env → R Out :=
  (retS (andD (isiD "tuple" (varD 2)) (andD (bin gEq (callD gLen (consA (varD 2) nilA)) (cD (.int 3))) (andD (callF 2 F_is_folder (consA (varD 1) (consA (bin gIx (varD 2) (cD (.int 0))) nilA))) (andD (callF 2 F_is_who (consA (varD 0) (consA (bin gIx (varD 2) (cD (.int 1))) nilA))) (callF 2 F_is_word (consA (bin gIx (varD 2) (cD (.int 2))) (consA (cD (.tuple ((["allow", "bar"] : List Str).map PyData.str))) nilA))))))))
def F_is_entry : List D → R D := defF 3 B_is_entry
def B_is_entries : Env → R Out :=
  (retS (andD (isiD "tuple" (varD 2)) (andD (bin gLe (callD gLen (consA (varD 2) nilA)) (cD (.int 12))) (andD (callD gAll (consA (lstD (compD (iterF (varD 2)) (tName 3) yesT (callF 3 F_is_entry (consA (varD 0) (consA (varD 1) (consA (varD 3) nilA)))) [3])) nilA)) (callF 1 F_is_rising (consA (lstD (compD (iterF (varD 2)) (tName 3) yesT (slD gSl (varD 3) noPart (part (cD (.int 2)))) [3])) nilA))))))
def F_is_entries : List D → R D := defF 4 B_is_entries
def B_has_one_of : Env → R Out :=
  (retS (callD gAny (consA (lstD (compD (iterF (varD 2)) (tName 3) yesT (bin gInA (tupD (consA (varD 1) (consA (tupD (consA (cD (.str "g")) (consA (varD 3) nilA))) nilA))) (varD 0)) [3])) nilA)))
def F_has_one_of : List D → R D := defF 4 B_has_one_of
def B_groups_of : Env → R Out :=
  (seqS (setS 3 (lstD (compD (iterF (cD (.tuple (([(0), (1), (2)] : List Int).map PyData.int)))) (tName 6) (blT (bin gInA (tupD (consA (varD 6) (consA (varD 1) nilA))) (varD 0))) (varD 6) [6])))
    (seqS (forS (iterF (ifD (truT (varD 2)) (slD gSl (cD (.tuple (([(0), (1), (2)] : List Int).map PyData.int))) (part (cD (.int 1))) noPart) (tupD nilA))) (tName 4)
    (seqS (setS 5 (varD 3))
    (setS 3 (lstD (compD (iterF (cD (.tuple (([(0), (1), (2)] : List Int).map PyData.int)))) (tName 6) (orT (blT (bin gInA (varD 6) (varD 5))) (truT (callF 3 F_has_one_of (consA (varD 0) (consA (varD 6) (consA (varD 5) nilA)))))) (varD 6) [6])))))
    (retS (callD gTuple (consA (varD 3) nilA)))))
def F_groups_of : List D → R D := defF 7 B_groups_of
def B_is_acyclic : Env → R Out :=
  (retS (notD (callD gAny (consA (lstD (compD (iterF (cD (.tuple (([(0), (1), (2)] : List Int).map PyData.int)))) (tName 1) yesT (bin gInA (varD 1) (callF 3 F_groups_of (consA (varD 0) (consA (tupD (consA (cD (.str "g")) (consA (varD 1) nilA))) (consA (cD (.bool true)) nilA))))) [1])) nilA))))
def F_is_acyclic : List D → R D := defF 2 B_is_acyclic
def B_is_members : Env → R Out :=
  (retS (andD (isiD "tuple" (varD 1)) (andD (callD gAll (consA (lstD (compD (iterF (varD 1)) (tName 2) yesT (andD (callF 1 F_is_pair (consA (varD 2) nilA)) (andD (callF 1 F_is_group (consA (bin gIx (varD 2) (cD (.int 0))) nilA)) (callF 2 F_is_who (consA (varD 0) (consA (bin gIx (varD 2) (cD (.int 1))) nilA))))) [2])) nilA)) (andD (callF 1 F_is_rising (consA (varD 1) nilA)) (callF 1 F_is_acyclic (consA (varD 1) nilA))))))
def F_is_members : List D → R D := defF 3 B_is_members
def B_is_furnished : Env → R Out :=
  (seqS (asgS (varD 2) (tTup 3 (tCons (tName 3) (tCons (tName 4) (tCons (tName 5) tNil)))))
    (retS (andD (isiD "tuple" (varD 3)) (andD (bin gEq (callD gLen (consA (varD 3) nilA)) (varD 1)) (andD (callD gAll (consA (lstD (compD (iterF (varD 3)) (tName 6) yesT (isiD "bool" (varD 6)) [6])) nilA)) (andD (callF 3 F_is_entries (consA (varD 0) (consA (varD 1) (consA (varD 4) nilA)))) (callF 2 F_is_members (consA (varD 0) (consA (varD 5) nilA)))))))))
def F_is_furnished : List D → R D := defF 7 B_is_furnished
def B_is_house : Env → R Out :=
  (retS (andD (isiD "tuple" (varD 0)) (andD (bin gEq (callD gLen (consA (varD 0) nilA)) (cD (.int 5))) (andD (callF 3 F_is_whole (consA (bin gIx (varD 0) (cD (.int 0))) (consA (cD (.int 1)) (consA (cD (.int 4)) nilA)))) (andD (callF 1 F_is_parents (consA (bin gIx (varD 0) (cD (.int 1))) nilA)) (callF 3 F_is_furnished (consA (bin gIx (varD 0) (cD (.int 0))) (consA (bin gAdd (callD gLen (consA (bin gIx (varD 0) (cD (.int 1))) nilA)) (cD (.int 1))) (consA (slD gSl (varD 0) (part (cD (.int 2))) noPart) nilA)))))))))
def F_is_house : List D → R D := defF 1 B_is_house
def B_is_mode : Env → R Out :=
  (retS (andD (isiD "tuple" (varD 0)) (andD (bin gEq (callD gLen (consA (varD 0) nilA)) (cD (.int 4))) (andD (callF 2 F_is_word (consA (bin gIx (varD 0) (cD (.int 0))) (consA (cD (.tuple ((["bar", "near"] : List Str).map PyData.str))) nilA))) (andD (callF 2 F_is_word (consA (bin gIx (varD 0) (cD (.int 1))) (consA (cD (.tuple ((["drops", "keeps"] : List Str).map PyData.str))) nilA))) (andD (callF 2 F_is_word (consA (bin gIx (varD 0) (cD (.int 2))) (consA (cD (.tuple ((["login", "now"] : List Str).map PyData.str))) nilA))) (isiD "bool" (bin gIx (varD 0) (cD (.int 3))))))))))
def F_is_mode : List D → R D := defF 1 B_is_mode
def B_size_of : Env → R Out :=
  (retS (bin gAdd (callD gLen (consA (bin gIx (varD 0) (cD (.int 1))) nilA)) (cD (.int 1))))
def F_size_of : List D → R D := defF 1 B_size_of
def B_is_person : Env → R Out :=
  (retS (callF 3 F_is_whole (consA (varD 1) (consA (cD (.int 0)) (consA (bin gSub (bin gIx (varD 0) (cD (.int 0))) (cD (.int 1))) nilA)))))
def F_is_person : List D → R D := defF 2 B_is_person
def B_start_state : Env → R Out :=
  (seqS (asgS (varD 0) (tTup 5 (tCons (tName 2) (tCons (tName 3) (tCons (tName 4) (tCons (tName 5) (tCons (tName 6) tNil)))))))
    (seqS (setS 7 (lstD (compD (rngI (consA (varD 2) nilA)) (tName 8) yesT (callF 3 F_groups_of (consA (varD 6) (consA (tupD (consA (cD (.str "p")) (consA (varD 8) nilA))) (consA (bin gIx (varD 1) (cD (.int 3))) nilA)))) [8])))
    (retS (tupD (consA (varD 3) (consA (varD 4) (consA (varD 5) (consA (varD 6) (consA (callD gTuple (consA (varD 7) nilA)) nilA)))))))))
def F_start_state : List D → R D := defF 9 B_start_state
def B_is_right_deed : Env → R Out :=
  (seqS (ifS (notT (andT (truT (isiD "tuple" (varD 1))) (blT (bin gInA (callD gLen (consA (varD 1) nilA)) (tupD (consA (cD (.int 2)) (consA (cD (.int 3)) nilA)))))))
    (retS (cD (.bool false)))
    passS)
    (seqS (asgS (slD gSl (varD 1) noPart (part (cD (.int 2)))) (tTup 2 (tCons (tName 2) (tCons (tName 3) tNil))))
    (seqS (setS 4 (callF 1 F_size_of (consA (varD 0) nilA)))
    (seqS (ifS (blT (bin gEq (callD gLen (consA (varD 1) nilA)) (cD (.int 2))))
    (retS (ifD (truT (callF 2 F_is_word (consA (varD 2) (consA (tupD (consA (cD (.str "login")) nilA)) nilA)))) (callF 2 F_is_person (consA (varD 0) (consA (varD 3) nilA))) (andD (callF 2 F_is_word (consA (varD 2) (consA (cD (.tuple ((["open", "shut"] : List Str).map PyData.str))) nilA))) (callF 2 F_is_folder (consA (varD 4) (consA (varD 3) nilA))))))
    passS)
    (seqS (ifS (truT (callF 2 F_is_word (consA (varD 2) (consA (tupD (consA (cD (.str "move")) nilA)) nilA))))
    (retS (andD (callF 2 F_is_folder (consA (varD 4) (consA (varD 3) nilA))) (callF 2 F_is_folder (consA (varD 4) (consA (bin gIx (varD 1) (cD (.int 2))) nilA)))))
    passS)
    (seqS (ifS (truT (callF 2 F_is_word (consA (varD 2) (consA (cD (.tuple ((["join", "leave"] : List Str).map PyData.str))) nilA))))
    (retS (andD (callF 1 F_is_group (consA (varD 3) nilA)) (callF 2 F_is_who (consA (bin gIx (varD 0) (cD (.int 0))) (consA (bin gIx (varD 1) (cD (.int 2))) nilA)))))
    passS)
    (retS (andD (callF 2 F_is_word (consA (varD 2) (consA (cD (.tuple ((["allow", "bar", "clear"] : List Str).map PyData.str))) nilA))) (andD (callF 2 F_is_folder (consA (varD 4) (consA (varD 3) nilA))) (callF 2 F_is_who (consA (bin gIx (varD 0) (cD (.int 0))) (consA (bin gIx (varD 1) (cD (.int 2))) nilA))))))))))))
def F_is_right_deed : List D → R D := defF 5 B_is_right_deed
def B_with_part : Env → R Out :=
  (retS (bin gAdd (bin gAdd (slD gSl (varD 0) noPart (part (varD 1))) (tupD (consA (callD gTuple (consA (varD 2) nilA)) nilA))) (slD gSl (varD 0) (part (bin gAdd (varD 1) (cD (.int 1)))) noPart)))
def F_with_part : List D → R D := defF 3 B_with_part
def B_put_entry : Env → R Out :=
  (seqS (asgS (varD 2) (tTup 3 (tCons (tName 3) (tCons (tName 4) (tCons (tName 5) tNil)))))
    (seqS (setS 6 (lstD (compD (iterF (bin gIx (varD 1) (cD (.int 2)))) (tName 7) (blT (bin gNe (slD gSl (varD 7) noPart (part (cD (.int 2)))) (tupD (consA (varD 4) (consA (varD 5) nilA))))) (varD 7) [7])))
    (seqS (ifS (blT (bin gEq (callD gLen (consA (varD 6) nilA)) (cD (.int 12))))
    (retS (varD 1))
    passS)
    (retS (callF 3 F_with_part (consA (varD 1) (consA (cD (.int 2)) (consA (lstD (sortG (bin gAdd (varD 6) (lstD (dispL (consA (tupD (consA (varD 4) (consA (varD 5) (consA (varD 3) nilA)))) nilA)))))) nilA))))))))
def F_put_entry : List D → R D := defF 8 B_put_entry
def B_clear_entry : Env → R Out :=
  (retS (callF 3 F_with_part (consA (varD 1) (consA (cD (.int 2)) (consA (lstD (compD (iterF (bin gIx (varD 1) (cD (.int 2)))) (tName 3) (blT (bin gNe (slD gSl (varD 3) noPart (part (cD (.int 2)))) (slD gSl (varD 2) (part (cD (.int 1))) noPart))) (varD 3) [3])) nilA)))))
def F_clear_entry : List D → R D := defF 4 B_clear_entry
def B_join : Env → R Out :=
  (seqS (setS 3 (lstD (sortSetN (lstD (dispL (consStar (bin gIx (varD 1) (cD (.int 3))) (consA (slD gSl (varD 2) (part (cD (.int 1))) noPart) nilA)))))))
    (retS (ifD (truT (callF 1 F_is_acyclic (consA (varD 3) nilA))) (callF 3 F_with_part (consA (varD 1) (consA (cD (.int 3)) (consA (varD 3) nilA)))) (varD 1))))
def F_join : List D → R D := defF 4 B_join
def B_leave : Env → R Out :=
  (retS (callF 3 F_with_part (consA (varD 1) (consA (cD (.int 3)) (consA (lstD (compD (iterF (bin gIx (varD 1) (cD (.int 3)))) (tName 3) (blT (bin gNe (varD 3) (slD gSl (varD 2) (part (cD (.int 1))) noPart))) (varD 3) [3])) nilA)))))
def F_leave : List D → R D := defF 4 B_leave
def B_line_up : Env → R Out :=
  (seqS (setO 2 (dispL (consA (varD 1) nilA)))
    (seqS (whileS (blT (bin gNe (ownIx 2 (un gNeg (cD (.int 1)))) (cD (.int 0))))
    (appS 2 (bin gIx (varD 0) (bin gSub (ownIx 2 (un gNeg (cD (.int 1)))) (cD (.int 1))))))
    (retO 2)))
def F_line_up : List D → R D := defF 3 B_line_up
def FL_line_up : List D → R (List D) := defL 3 B_line_up
def B_move_ : Env → R Out :=
  (seqS (asgS (varD 2) (tTup 3 (tCons (tName 3) (tCons (tName 4) (tCons (tName 5) tNil)))))
    (seqS (setS 6 (bin gIx (varD 1) (cD (.int 0))))
    (seqS (ifS (blT (bin gInA (varD 4) (callF 2 F_line_up (consA (varD 6) (consA (varD 5) nilA)))))
    (retS (varD 1))
    passS)
    (seqS (setS 1 (callF 3 F_with_part (consA (varD 1) (consA (cD (.int 0)) (consA (bin gAdd (bin gAdd (slD gSl (varD 6) noPart (part (bin gSub (varD 4) (cD (.int 1))))) (tupD (consA (varD 5) nilA))) (slD gSl (varD 6) (part (varD 4)) noPart)) nilA)))))
    (seqS (ifS (blT (bin gEq (bin gIx (varD 0) (cD (.int 1))) (cD (.str "keeps"))))
    (retS (varD 1))
    passS)
    (retS (callF 3 F_with_part (consA (varD 1) (consA (cD (.int 2)) (consA (lstD (compD (iterF (bin gIx (varD 1) (cD (.int 2)))) (tName 7) (blT (bin gNe (bin gIx (varD 7) (cD (.int 0))) (varD 4))) (varD 7) [7])) nilA))))))))))
def F_move_ : List D → R D := defF 8 B_move_
def B_set_shut : Env → R Out :=
  (seqS (asgS (varD 2) (tTup 2 (tCons (tName 3) (tCons (tName 4) tNil))))
    (seqS (setS 5 (bin gIx (varD 1) (cD (.int 1))))
    (retS (callF 3 F_with_part (consA (varD 1) (consA (cD (.int 1)) (consA (bin gAdd (bin gAdd (slD gSl (varD 5) noPart (part (varD 4))) (tupD (consA (bin gEq (varD 3) (cD (.str "shut"))) nilA))) (slD gSl (varD 5) (part (bin gAdd (varD 4) (cD (.int 1)))) noPart)) nilA)))))))
def F_set_shut : List D → R D := defF 6 B_set_shut
def B_login : Env → R Out :=
  (seqS (setS 3 (bin gIx (varD 2) (cD (.int 1))))
    (seqS (setS 4 (bin gIx (varD 1) (cD (.int 4))))
    (seqS (setS 5 (callF 3 F_groups_of (consA (bin gIx (varD 1) (cD (.int 3))) (consA (tupD (consA (cD (.str "p")) (consA (varD 3) nilA))) (consA (bin gIx (varD 0) (cD (.int 3))) nilA)))))
    (retS (callF 3 F_with_part (consA (varD 1) (consA (cD (.int 4)) (consA (bin gAdd (bin gAdd (slD gSl (varD 4) noPart (part (varD 3))) (tupD (consA (varD 5) nilA))) (slD gSl (varD 4) (part (bin gAdd (varD 3) (cD (.int 1)))) noPart)) nilA))))))))
def F_login : List D → R D := defF 6 B_login
def TB_put_entry : List (Str × (List D → R D)) := [("allow", F_put_entry), ("bar", F_put_entry), ("clear", F_clear_entry), ("join", F_join), ("leave", F_leave), ("move", F_move_), ("open", F_set_shut), ("shut", F_set_shut), ("login", F_login)]
def B_do_right : Env → R Out :=
  (actS 3 3 TB_put_entry (bin gIx (varD 2) (cD (.int 0))) (consA (varD 0) (consA (varD 1) (consA (varD 2) nilA))))
def F_do_right : List D → R D := defF 4 B_do_right
def B_is_office : Env → R Out :=
  (retS (andD (isiD "tuple" (varD 0)) (andD (bin gEq (callD gLen (consA (varD 0) nilA)) (cD (.int 3))) (andD (callF 1 F_is_house (consA (bin gIx (varD 0) (cD (.int 0))) nilA)) (andD (callF 1 F_is_mode (consA (bin gIx (varD 0) (cD (.int 1))) nilA)) (callF 1 F_is_book (consA (bin gIx (varD 0) (cD (.int 2))) nilA)))))))
def F_is_office : List D → R D := defF 1 B_is_office
def B_need_office : Env → R Out :=
  (ifS (notT (truT (callF 1 F_is_office (consA (varD 0) nilA))))
    (raiseS "BadOffice" (cD (.str "an office is a tuple of a house, a mode and a book")))
    passS)
def F_need_office : List D → R D := defF 1 B_need_office
def B_is_look : Env → R Out :=
  (retS (andD (isiD "tuple" (varD 1)) (andD (bin gEq (callD gLen (consA (varD 1) nilA)) (cD (.int 4))) (andD (callF 2 F_is_word (consA (bin gIx (varD 1) (cD (.int 0))) (consA (tupD (consA (cD (.str "look")) nilA)) nilA))) (andD (callF 2 F_is_person (consA (varD 0) (consA (bin gIx (varD 1) (cD (.int 1))) nilA))) (andD (callF 2 F_is_folder (consA (callF 1 F_size_of (consA (varD 0) nilA)) (consA (bin gIx (varD 1) (cD (.int 2))) nilA))) (callF 1 F_is_path (consA (bin gIx (varD 1) (cD (.int 3))) nilA))))))))
def F_is_look : List D → R D := defF 2 B_is_look
def B_is_deed : Env → R Out :=
  (retS (orD (callF 2 F_is_right_deed (consA (varD 0) (consA (varD 1) nilA))) (orD (callF 2 F_is_paper_deed (consA (callF 1 F_size_of (consA (varD 0) nilA)) (consA (varD 1) nilA))) (callF 2 F_is_look (consA (varD 0) (consA (varD 1) nilA))))))
def F_is_deed : List D → R D := defF 2 B_is_deed
def B_is_route_of : Env → R Out :=
  (seqS (setS 2 (lstD (compD (iterF (varD 0)) (tTup 2 (tCons (tName 3) (tCons (tName 4) tNil))) yesT (varD 3) [3, 4])))
    (retS (andD (callF 1 F_is_route (consA (varD 1) nilA)) (callD gAll (consA (lstD (compD (iterF (varD 1)) (tName 5) yesT (orD (bin gEq (varD 5) (cD (.str "+"))) (bin gInA (varD 5) (varD 2))) [5])) nilA)))))
def F_is_route_of : List D → R D := defF 6 B_is_route_of
def B_is_step : Env → R Out :=
  (retS (andD (callF 1 F_is_pair (consA (varD 1) nilA)) (andD (callF 2 F_is_deed (consA (bin gIx (varD 0) (cD (.int 0))) (consA (bin gIx (varD 1) (cD (.int 0))) nilA))) (callF 2 F_is_route_of (consA (bin gIx (varD 0) (cD (.int 2))) (consA (bin gIx (varD 1) (cD (.int 1))) nilA))))))
def F_is_step : List D → R D := defF 2 B_is_step
def B_is_plan : Env → R Out :=
  (seqS (dropS (callF 1 F_need_office (consA (varD 0) nilA)))
    (retS (andD (isiD "tuple" (varD 1)) (andD (bin gLe (callD gLen (consA (varD 1) nilA)) (cD (.int 8))) (callD gAll (consA (lstD (compD (iterF (varD 1)) (tName 2) yesT (callF 2 F_is_step (consA (varD 0) (consA (varD 2) nilA))) [2])) nilA))))))
def F_is_plan : List D → R D := defF 3 B_is_plan
def B_history_for : Env → R Out :=
  (seqS (setS 3 (callD gDict (consA (bin gIx (varD 0) (cD (.int 2))) nilA)))
    (retL (sortG (lstD (compD (enumF (varD 1)) (tTup 2 (tCons (tName 4) (tCons (tName 5) tNil))) yesT (tupD (consA (callF 3 F_move (consA (varD 3) (consA (bin gIx (varD 5) (cD (.int 1))) (consA (varD 2) nilA)))) (consA (varD 4) nilA))) [4, 5])))))
def F_history_for : List D → R D := defF 6 B_history_for
def FL_history_for : List D → R (List D) := defL 6 B_history_for
def B_order_for : Env → R Out :=
  (retS (callD gTuple (consA (lstD (compD (iterF (callF 3 F_history_for (consA (varD 0) (consA (varD 1) (consA (varD 2) nilA))))) (tTup 2 (tCons (tName 3) (tCons (tName 4) tNil))) yesT (varD 4) [3, 4])) nilA)))
def F_order_for : List D → R D := defF 5 B_order_for
def B_writes_of : Env → R Out :=
  (retL (compD (enumF (varD 0)) (tTup 2 (tCons (tName 1) (tCons (tTup 2 (tCons (tName 2) (tCons (tName 3) tNil))) tNil))) (blT (bin gEq (bin gIx (varD 2) (cD (.int 0))) (cD (.str "write")))) (varD 1) [1, 2, 3]))
def F_writes_of : List D → R D := defF 4 B_writes_of
def FL_writes_of : List D → R (List D) := defL 4 B_writes_of
def B_need_plan : Env → R Out :=
  (ifS (notT (truT (callF 2 F_is_plan (consA (varD 0) (consA (varD 1) nilA)))))
    (raiseS "BadPlan" (jsD [(cD (.str "a plan is a tuple of at most ")), (fmtD (cD (.int 8))), (cD (.str " steps, tuples of a deed and a route of the office"))] Str.empty))
    passS)
def F_need_plan : List D → R D := defF 2 B_need_plan
def B_need_moment : Env → R Out :=
  (seqS (dropS (callF 2 F_need_plan (consA (varD 0) (consA (varD 1) nilA))))
    (seqS (dropS (callF 1 F_need_day (consA (varD 2) nilA)))
    (ifS (notT (truT (callF 3 F_is_whole (consA (varD 3) (consA (cD (.int 0)) (consA (callD gLen (consA (varD 1) nilA)) nilA))))))
    (raiseS "BadMoment" (jsD [(cD (.str "a moment is an integer from 0 to ")), (fmtD (callD gLen (consA (varD 1) nilA)))] Str.empty))
    passS)))
def F_need_moment : List D → R D := defF 4 B_need_moment
def B_first_world : Env → R Out :=
  (seqS (asgS (varD 0) (tTup 3 (tCons (tName 1) (tCons (tName 2) (tCons (tName 3) tNil)))))
    (retS (tupD (consA (callF 2 F_start_state (consA (varD 1) (consA (varD 2) nilA))) (consA (bin gMulA (tupD (consA (callF 1 F_first_lists (consA (callF 1 F_size_of (consA (varD 1) nilA)) nilA)) nilA)) (callD gLen (consA (cD (.tuple (([(0), (1), (2), (3)] : List Int).map PyData.int))) nilA))) nilA)))))
def F_first_world : List D → R D := defF 4 B_first_world
def B_is_with_papers : Env → R Out :=
  (retS (orD (bin gInA (bin gIx (varD 0) (cD (.int 0))) (cD (.tuple ((["over", "under"] : List Str).map PyData.str)))) (bin gInA (bin gIx (varD 0) (cD (.int 0))) (cD (.tuple ((["write", "throw"] : List Str).map PyData.str))))))
def F_is_with_papers : List D → R D := defF 1 B_is_with_papers
def B_world_behind : Env → R Out :=
  (seqS (asgS (varD 1) (tTup 2 (tCons (tName 4) (tCons (tName 5) tNil))))
    (seqS (ifS (blT (bin gEq (bin gIx (varD 2) (cD (.int 0))) (cD (.str "look"))))
    (retS (varD 1))
    passS)
    (seqS (ifS (truT (callF 1 F_is_with_papers (consA (varD 2) nilA)))
    (retS (tupD (consA (varD 4) (consA (callD gTuple (consA (lstD (compD (iterF (cD (.tuple (([(0), (1), (2), (3)] : List Int).map PyData.int)))) (tName 6) yesT (callF 4 F_lists_behind (consA (bin gIx (varD 5) (varD 6)) (consA (varD 2) (consA (varD 6) (consA (varD 3) nilA))))) [6])) nilA)) nilA))))
    passS)
    (retS (tupD (consA (callF 3 F_do_right (consA (bin gIx (varD 0) (cD (.int 1))) (consA (varD 4) (consA (varD 2) nilA)))) (consA (varD 5) nilA)))))))
def F_world_behind : List D → R D := defF 7 B_world_behind
def B_worlds_along : Env → R Out :=
  (seqS (setO 3 (dispL (consA (callF 1 F_first_world (consA (varD 0) nilA)) nilA)))
    (seqS (forS (iterF (varD 2)) (tName 4)
    (appS 3 (callF 4 F_world_behind (consA (varD 0) (consA (ownIx 3 (un gNeg (cD (.int 1)))) (consA (bin gIx (bin gIx (varD 1) (varD 4)) (cD (.int 0))) (consA (varD 4) nilA)))))))
    (retO 3)))
def F_worlds_along : List D → R D := defF 5 B_worlds_along
def FL_worlds_along : List D → R (List D) := defL 5 B_worlds_along
def B_lists_at : Env → R Out :=
  (seqS (dropS (callF 4 F_need_moment (consA (varD 0) (consA (varD 1) (consA (varD 2) (consA (varD 3) nilA))))))
    (seqS (dropS (callF 1 F_need_path (consA (varD 4) nilA)))
    (seqS (asgS (bin gIx (callF 3 F_worlds_along (consA (varD 0) (consA (varD 1) (consA (callF 3 F_order_for (consA (varD 0) (consA (varD 1) (consA (varD 2) nilA)))) nilA)))) (varD 3)) (tTup 2 (tCons (tName 5) (tCons (tName 6) tNil))))
    (retS (bin gIx (varD 6) (varD 4))))))
def F_lists_at : List D → R D := defF 7 B_lists_at
def B_label_writes : Env → R Out :=
  (seqS (ifS (blT (bin gGt (callD gLen (consA (varD 1) nilA)) (cD (.int 8))))
    (raiseS "TooMany" (jsD [(cD (.str "no more than ")), (fmtD (cD (.int 8))), (cD (.str " papers are labelled"))] Str.empty))
    passS)
    (seqS (setS 2 (callF 2 F_safe_register (consA (varD 0) (consA (callD gLen (consA (varD 1) nilA)) nilA))))
    (seqS (ifS (blT (bin gIs (varD 2) (cD .none)))
    (raiseS "TooMany" (cD (.str "the scheme has not so many codes that are safe together")))
    passS)
    badS)))
def F_label_writes : List D → R D := defF 3 B_label_writes
def B_labels : Env → R Out :=
  (seqS (dropS (callF 1 F_need_scheme (consA (varD 0) nilA)))
    (seqS (dropS (callF 2 F_need_plan (consA (varD 1) (consA (varD 2) nilA))))
    (retS (callF 2 F_label_writes (consA (varD 0) (consA (callF 1 F_writes_of (consA (varD 2) nilA)) nilA))))))
def F_labels : List D → R D := defF 3 B_labels
def B_typed_writes : Env → R Out :=
  (seqS (setS 3 (callF 2 F_label_writes (consA (varD 0) (consA (varD 1) nilA))))
    (seqS (setS 4 (callF 3 F_read_typed (consA (varD 0) (consA (callD gTuple (consA (lstD (compD (iterF (varD 3)) (tTup 2 (tCons (tName 5) (tCons (tName 6) tNil))) yesT (varD 6) [5, 6])) nilA)) (consA (varD 2) nilA)))))
    (retL (compD (iterF (varD 3)) (tTup 2 (tCons (tName 7) (tCons (tName 6) tNil))) (blT (bin gInA (varD 6) (varD 4))) (varD 7) [7, 6]))))
def F_typed_writes : List D → R D := defF 8 B_typed_writes
def FL_typed_writes : List D → R (List D) := defL 8 B_typed_writes
def B_found_typed : Env → R Out :=
  (seqS (dropS (callF 1 F_need_scheme (consA (varD 0) nilA)))
    (seqS (dropS (callF 4 F_need_moment (consA (varD 1) (consA (varD 2) (consA (varD 3) (consA (varD 4) nilA))))))
    (seqS (dropS (callF 2 F_need_contents (consA (callF 1 F_size_of (consA (bin gIx (varD 1) (cD (.int 0))) nilA)) (consA (varD 5) nilA))))
    (seqS (dropS (callF 2 F_need_code (consA (varD 0) (consA (varD 6) nilA))))
    (seqS (setS 7 (callF 3 F_typed_writes (consA (varD 0) (consA (callF 1 F_writes_of (consA (varD 2) nilA)) (consA (varD 6) nilA)))))
    (seqS (asgS (bin gIx (callF 3 F_worlds_along (consA (varD 1) (consA (varD 2) (consA (slD gSl (callF 3 F_order_for (consA (varD 1) (consA (varD 2) (consA (varD 3) nilA)))) noPart (part (varD 4))) nilA)))) (un gNeg (cD (.int 1)))) (tTup 2 (tCons (tName 8) (tCons (tName 9) tNil))))
    (seqS (setS 10 (lstD (compD (iterF (varD 9)) (tName 11) yesT (callF 2 F_papers_of (consA (varD 11) (consA (varD 5) nilA))) [11])))
    (retL (compD2 (iterF (varD 7)) (tName 12) yesT (enumF (bin gIx (varD 10) (bin gIx (bin gIx (bin gIx (varD 2) (varD 12)) (cD (.int 0))) (cD (.int 2))))) (tTup 2 (tCons (tName 13) (tCons (tName 14) tNil))) (blT (bin gEq (varD 14) (tupD (consA (cD (.str "written")) (consA (varD 12) nilA))))) (tupD (consA (varD 12) (consA (varD 13) nilA))) [12, 13, 14] [13, 14])))))))))
def F_found_typed : List D → R D := defF 15 B_found_typed
def FL_found_typed : List D → R (List D) := defL 15 B_found_typed
def B_need_size : Env → R Out :=
  (ifS (notT (truT (callF 3 F_is_whole (consA (varD 0) (consA (cD (.int 1)) (consA (cD (.int 6)) nilA))))))
    (raiseS "BadSize" (jsD [(cD (.str "a size is an integer from 1 to ")), (fmtD (cD (.int 6)))] Str.empty))
    passS)
def F_need_size : List D → R D := defF 1 B_need_size
def B_is_script : Env → R Out :=
  (seqS (dropS (callF 1 F_need_size (consA (varD 0) nilA)))
    (retS (andD (isiD "tuple" (varD 1)) (andD (bin gLe (callD gLen (consA (varD 1) nilA)) (cD (.int 30))) (callD gAll (consA (lstD (compD (iterF (varD 1)) (tName 2) yesT (callF 2 F_is_paper_deed (consA (varD 0) (consA (varD 2) nilA))) [2])) nilA))))))
def F_is_script : List D → R D := defF 3 B_is_script
def B_need_work : Env → R Out :=
  (seqS (ifS (notT (truT (callF 2 F_is_script (consA (varD 0) (consA (varD 1) nilA)))))
    (raiseS "BadScript" (jsD [(cD (.str "a script is a tuple of at most ")), (fmtD (cD (.int 30))), (cD (.str " paper deeds"))] Str.empty))
    passS)
    (dropS (callF 1 F_need_path (consA (varD 2) nilA))))
def F_need_work : List D → R D := defF 3 B_need_work
def B_lists_through : Env → R Out :=
  (seqS (setO 3 (dispL (consA (callF 1 F_first_lists (consA (varD 0) nilA)) nilA)))
    (seqS (forS (enumF (varD 1)) (tTup 2 (tCons (tName 4) (tCons (tName 5) tNil)))
    (appS 3 (callF 4 F_lists_behind (consA (ownIx 3 (un gNeg (cD (.int 1)))) (consA (varD 5) (consA (varD 2) (consA (varD 4) nilA)))))))
    (retO 3)))
def F_lists_through : List D → R D := defF 6 B_lists_through
def FL_lists_through : List D → R (List D) := defL 6 B_lists_through
def B_papers_at : Env → R Out :=
  (seqS (dropS (callF 3 F_need_work (consA (varD 0) (consA (varD 1) (consA (varD 2) nilA)))))
    (seqS (dropS (callF 2 F_need_contents (consA (varD 0) (consA (varD 3) nilA))))
    (retS (callF 2 F_papers_of (consA (bin gIx (callF 3 F_lists_through (consA (varD 0) (consA (varD 1) (consA (varD 2) nilA)))) (un gNeg (cD (.int 1)))) (consA (varD 3) nilA))))))
def F_papers_at : List D → R D := defF 4 B_papers_at
def B_order_at : Env → R Out :=
  (seqS (dropS (callF 2 F_need_plan (consA (varD 0) (consA (varD 1) nilA))))
    (seqS (dropS (callF 1 F_need_day (consA (varD 2) nilA)))
    (retS (callF 3 F_order_for (consA (varD 0) (consA (varD 1) (consA (varD 2) nilA)))))))
def F_order_at : List D → R D := defF 3 B_order_at
def B_need_step : Env → R Out :=
  (ifS (notT (truT (callF 3 F_is_whole (consA (varD 1) (consA (cD (.int 0)) (consA (bin gSub (callD gLen (consA (varD 0) nilA)) (cD (.int 1))) nilA))))))
    (raiseS "BadStep" (cD (.str "a step is told by its number, an integer from 0 on")))
    passS)
def F_need_step : List D → R D := defF 2 B_need_step
def B_need_write : Env → R Out :=
  (seqS (dropS (callF 2 F_need_step (consA (varD 0) (consA (varD 1) nilA))))
    (ifS (blT (bin gNe (bin gIx (bin gIx (bin gIx (varD 0) (varD 1)) (cD (.int 0))) (cD (.int 0))) (cD (.str "write"))))
    (raiseS "BadStep" (cD (.str "the step has to be a writing")))
    passS))
def F_need_write : List D → R D := defF 2 B_need_write
def B_script_of : Env → R Out :=
  (seqS (setS 2 (callD gTuple (consA (lstD (compD (iterF (varD 1)) (tName 3) (truT (callF 1 F_is_with_papers (consA (bin gIx (bin gIx (varD 0) (varD 3)) (cD (.int 0))) nilA))) (varD 3) [3])) nilA)))
    (retS (tupD (consA (callD gTuple (consA (lstD (compD (iterF (varD 2)) (tName 3) yesT (bin gIx (bin gIx (varD 0) (varD 3)) (cD (.int 0))) [3])) nilA)) (consA (varD 2) nilA)))))
def F_script_of : List D → R D := defF 4 B_script_of
def B_script_at : Env → R Out :=
  (seqS (dropS (callF 4 F_need_moment (consA (varD 0) (consA (varD 1) (consA (varD 2) (consA (varD 3) nilA))))))
    (retS (callF 2 F_script_of (consA (varD 1) (consA (slD gSl (callF 3 F_order_for (consA (varD 0) (consA (varD 1) (consA (varD 2) nilA)))) noPart (part (varD 3))) nilA)))))
def F_script_at : List D → R D := defF 4 B_script_at
def B_folders_with : Env → R Out :=
  (seqS (setS 2 (lstD (compD (enumF (varD 1)) (tTup 2 (tCons (tName 4) (tCons (tName 5) tNil))) (blT (bin gEq (slD gSl (varD 5) noPart (part (cD (.int 1)))) (tupD (consA (varD 0) nilA)))) (varD 4) [4, 5])))
    (seqS (setS 3 (lstD (compD (enumF (varD 1)) (tTup 2 (tCons (tName 4) (tCons (tName 5) tNil))) (blT (bin gInA (varD 0) (varD 5))) (varD 4) [4, 5])))
    (retS (tupD (consA (callD gTuple (consA (varD 2) nilA)) (consA (callD gTuple (consA (varD 3) nilA)) nilA))))))
def F_folders_with : List D → R D := defF 6 B_folders_with
def B_whereabouts : Env → R Out :=
  (seqS (dropS (callF 2 F_need_plan (consA (varD 0) (consA (varD 1) nilA))))
    (seqS (dropS (callF 1 F_need_day (consA (varD 2) nilA)))
    (seqS (dropS (callF 2 F_need_write (consA (varD 1) (consA (varD 3) nilA))))
    (seqS (setS 4 (callF 3 F_order_for (consA (varD 0) (consA (varD 1) (consA (varD 2) nilA)))))
    (seqS (setS 5 (slD gSl (callF 3 F_worlds_along (consA (varD 0) (consA (varD 1) (consA (varD 4) nilA)))) (part (bin gAdd (ownIndex 4 (varD 3)) (cD (.int 1)))) noPart))
    (seqS (setS 6 (bin gIx (bin gIx (bin gIx (varD 1) (varD 3)) (cD (.int 0))) (cD (.int 2))))
    (retL (compD (iterF (varD 5)) (tTup 2 (tCons (tName 7) (tCons (tName 8) tNil))) yesT (callF 2 F_folders_with (consA (tupD (consA (cD (.str "written")) (consA (varD 3) nilA))) (consA (bin gIx (varD 8) (varD 6)) nilA))) [7, 8]))))))))
def F_whereabouts : List D → R D := defF 9 B_whereabouts
def FL_whereabouts : List D → R (List D) := defL 9 B_whereabouts
def B_lists_of : Env → R Out :=
  (seqS (dropS (callF 3 F_need_work (consA (varD 0) (consA (varD 1) (consA (varD 2) nilA)))))
    (retS (bin gIx (callF 3 F_lists_through (consA (varD 0) (consA (varD 1) (consA (varD 2) nilA)))) (un gNeg (cD (.int 1))))))
def F_lists_of : List D → R D := defF 3 B_lists_of
def B_lists_along : Env → R Out :=
  (seqS (dropS (callF 3 F_need_work (consA (varD 0) (consA (varD 1) (consA (varD 2) nilA)))))
    (retL (callL 3 FL_lists_through (consA (varD 0) (consA (varD 1) (consA (varD 2) nilA))))))
def F_lists_along : List D → R D := defF 3 B_lists_along
def FL_lists_along : List D → R (List D) := defL 3 B_lists_along
def B_need_folder : Env → R Out :=
  (ifS (notT (truT (callF 2 F_is_folder (consA (varD 0) (consA (varD 1) nilA)))))
    (raiseS "BadFolder" (jsD [(cD (.str "a folder is an integer from 0 to ")), (fmtD (bin gSub (varD 0) (cD (.int 1))))] Str.empty))
    passS)
def F_need_folder : List D → R D := defF 2 B_need_folder
def B_is_source : Env → R Out :=
  (seqS (ifS (notT (truT (callF 1 F_is_pair (consA (varD 3) nilA))))
    (retS (cD (.bool false)))
    passS)
    (seqS (asgS (varD 3) (tTup 2 (tCons (tName 4) (tCons (tName 5) tNil))))
    (seqS (ifS (truT (callF 2 F_is_word (consA (varD 4) (consA (tupD (consA (cD (.str "first")) nilA)) nilA))))
    (retS (callF 2 F_is_folder (consA (varD 0) (consA (varD 5) nilA))))
    passS)
    (retS (andD (callF 2 F_is_word (consA (varD 4) (consA (tupD (consA (cD (.str "written")) nilA)) nilA))) (andD (callF 3 F_is_whole (consA (varD 5) (consA (cD (.int 0)) (consA (bin gSub (callD gLen (consA (varD 1) nilA)) (cD (.int 1))) nilA)))) (andD (bin gEq (bin gIx (bin gIx (varD 1) (varD 5)) (cD (.int 0))) (cD (.str "write"))) (bin gEq (bin gIx (bin gIx (varD 1) (varD 5)) (cD (.int 2))) (varD 2)))))))))
def F_is_source : List D → R D := defF 6 B_is_source
def B_need_source : Env → R Out :=
  (ifS (notT (truT (callF 4 F_is_source (consA (varD 0) (consA (varD 1) (consA (varD 2) (consA (varD 3) nilA)))))))
    (raiseS "BadSource" (cD (.str "a source is the first paper of a folder, or one written at the path by the script")))
    passS)
def F_need_source : List D → R D := defF 4 B_need_source
def B_contents_of : Env → R Out :=
  (retS (ifD (blT (bin gEq (bin gIx (varD 0) (cD (.int 0))) (cD (.str "first")))) (tupD (consA (bin gIx (varD 0) (cD (.int 1))) nilA)) (tupD nilA)))
def F_contents_of : List D → R D := defF 1 B_contents_of
def B_contents_for : Env → R Out :=
  (seqS (dropS (callF 3 F_need_work (consA (varD 0) (consA (varD 1) (consA (varD 2) nilA)))))
    (seqS (dropS (callF 2 F_need_folder (consA (varD 0) (consA (varD 3) nilA))))
    (seqS (dropS (callF 4 F_need_source (consA (varD 0) (consA (varD 1) (consA (varD 2) (consA (varD 4) nilA))))))
    (retS (ifD (blT (bin gInA (varD 4) (bin gIx (bin gIx (callF 3 F_lists_through (consA (varD 0) (consA (varD 1) (consA (varD 2) nilA)))) (un gNeg (cD (.int 1)))) (varD 3)))) (callF 1 F_contents_of (consA (varD 4) nilA)) (cD .none))))))
def F_contents_for : List D → R D := defF 5 B_contents_for
def B_start_of : Env → R Out :=
  (seqS (asgS (varD 1) (tTup 2 (tCons (tName 2) (tCons (tName 3) tNil))))
    (retS (ifD (blT (bin gEq (varD 2) (cD (.str "first")))) (tupD (consA (varD 3) (consA (cD (.int 0)) nilA))) (tupD (consA (bin gIx (bin gIx (varD 0) (varD 3)) (cD (.int 1))) (consA (bin gAdd (varD 3) (cD (.int 1))) nilA))))))
def F_start_of : List D → R D := defF 4 B_start_of
def B_copies : Env → R Out :=
  (seqS (asgS (varD 0) (tTup 3 (tCons (tName 2) (tCons (tName 3) (tCons (tName 4) tNil)))))
    (retS (orD (bin gEq (varD 2) (cD (.str "over"))) (andD (bin gEq (varD 2) (cD (.str "under"))) (bin gIs (bin gIx (varD 1) (varD 4)) (cD .none))))))
def F_copies : List D → R D := defF 5 B_copies
def B_least_trail : Env → R Out :=
  (seqS (asgS (callF 2 F_start_of (consA (varD 0) (consA (varD 3) nilA))) (tTup 2 (tCons (tName 4) (tCons (tName 5) tNil))))
    (seqS (setS 6 (dicD (dispX [((varD 4), (tupD nilA))])))
    (seqS (forS (rngI (consA (varD 5) (consA (callD gLen (consA (varD 0) nilA)) nilA))) (tName 7)
    (seqS (asgS (bin gIx (varD 0) (varD 7)) (tTup 3 (tCons (tName 8) (tCons (tName 9) (tCons (tName 10) tNil)))))
    (seqS (setX 11 (compX (iterK (varD 6)) (tName 13) (blT (bin gEq (bin gIx (bin gIx (varD 1) (bin gAdd (varD 7) (cD (.int 1)))) (varD 13)) (varD 3))) (varD 13) (bin gGetK (varD 6) (varD 13)) [13]))
    (seqS (ifS (andT (blT (bin (gInK false) (varD 9) (varD 6))) (truT (callF 2 F_copies (consA (bin gIx (varD 0) (varD 7)) (consA (bin gIx (varD 1) (varD 7)) nilA)))))
    (seqS (setS 12 (bin gAdd (bin gGetK (varD 6) (varD 9)) (tupD (consA (varD 7) nilA))))
    (ifS (orT (blT (inDS true 11 (varD 10))) (blT (bin gLt (callD gLen (consA (varD 12) nilA)) (callD gLen (consA (getDS 11 (varD 10)) nilA)))))
    (putDS 11 (varD 12) (varD 10))
    passS))
    passS)
    (frzDS 11 (setS 6 (varD 11)))))))
    (retS (bin gGetK (varD 6) (varD 2))))))
def F_least_trail : List D → R D := defF 14 B_least_trail
def B_trail : Env → R Out :=
  (seqS (dropS (callF 3 F_need_work (consA (varD 0) (consA (varD 1) (consA (varD 2) nilA)))))
    (seqS (dropS (callF 2 F_need_folder (consA (varD 0) (consA (varD 3) nilA))))
    (seqS (dropS (callF 4 F_need_source (consA (varD 0) (consA (varD 1) (consA (varD 2) (consA (varD 4) nilA))))))
    (seqS (setS 5 (callF 3 F_lists_through (consA (varD 0) (consA (varD 1) (consA (varD 2) nilA)))))
    (seqS (ifS (blT (bin gNotInA (varD 4) (bin gIx (bin gIx (varD 5) (un gNeg (cD (.int 1)))) (varD 3))))
    (retS (cD .none))
    passS)
    (seqS (setS 6 (callF 1 F_contents_of (consA (varD 4) nilA)))
    (seqS (setS 7 (lstD (compD (iterF (varD 5)) (tName 8) yesT (callF 2 F_papers_of (consA (varD 8) (consA (varD 6) nilA))) [8])))
    (retS (tupD (consA (varD 6) (consA (callF 4 F_least_trail (consA (varD 1) (consA (varD 7) (consA (varD 3) (consA (varD 4) nilA))))) nilA)))))))))))
def F_trail : List D → R D := defF 9 B_trail
def B_stands_on : Env → R Out :=
  (retS (callD gAll (consA (lstD (compD (iterF (varD 0)) (tName 3) yesT (bin gEq (bin gIx (varD 3) (varD 1)) (varD 2)) [3])) nilA)))
def F_stands_on : List D → R D := defF 4 B_stands_on
def B_is_trail : Env → R Out :=
  (seqS (asgS (callF 2 F_start_of (consA (varD 0) (consA (varD 3) nilA))) (tTup 2 (tCons (tName 5) (tCons (tName 6) tNil))))
    (seqS (forS (iterF (varD 4)) (tName 7)
    (seqS (asgS (bin gIx (varD 0) (varD 7)) (tTup 3 (tCons (tName 8) (tCons (tName 9) (tCons (tName 10) tNil)))))
    (seqS (ifS (orT (blT (bin gLt (varD 7) (varD 6))) (orT (blT (bin gNe (varD 9) (varD 5))) (notT (truT (callF 2 F_copies (consA (bin gIx (varD 0) (varD 7)) (consA (bin gIx (varD 1) (varD 7)) nilA)))))))
    (retS (cD (.bool false)))
    passS)
    (seqS (ifS (notT (truT (callF 3 F_stands_on (consA (slD gSl (varD 1) (part (varD 6)) (part (bin gAdd (varD 7) (cD (.int 1))))) (consA (varD 5) (consA (varD 3) nilA))))))
    (retS (cD (.bool false)))
    passS)
    (parS 5 6 (consA (varD 10) (consA (bin gAdd (varD 7) (cD (.int 1))) nilA)))))))
    (retS (andD (bin gEq (varD 5) (varD 2)) (callF 3 F_stands_on (consA (slD gSl (varD 1) (part (varD 6)) noPart) (consA (varD 5) (consA (varD 3) nilA))))))))
def F_is_trail : List D → R D := defF 11 B_is_trail
def B_trail_holds : Env → R Out :=
  (seqS (dropS (callF 3 F_need_work (consA (varD 0) (consA (varD 1) (consA (varD 2) nilA)))))
    (seqS (dropS (callF 2 F_need_folder (consA (varD 0) (consA (varD 3) nilA))))
    (seqS (dropS (callF 4 F_need_source (consA (varD 0) (consA (varD 1) (consA (varD 2) (consA (varD 4) nilA))))))
    (seqS (dropS (callF 2 F_need_contents (consA (varD 0) (consA (varD 5) nilA))))
    (seqS (ifS (notT (andT (truT (isiD "tuple" (varD 6))) (truT (callD gAll (consA (lstD (compD (iterF (varD 6)) (tName 8) yesT (callF 3 F_is_whole (consA (varD 8) (consA (cD (.int 0)) (consA (bin gSub (callD gLen (consA (varD 1) nilA)) (cD (.int 1))) nilA)))) [8])) nilA)))))
    (retS (cD (.bool false)))
    passS)
    (seqS (setS 7 (lstD (compD (iterF (callF 3 F_lists_through (consA (varD 0) (consA (varD 1) (consA (varD 2) nilA))))) (tName 9) yesT (callF 2 F_papers_of (consA (varD 9) (consA (varD 5) nilA))) [9])))
    (retS (callF 5 F_is_trail (consA (varD 1) (consA (varD 7) (consA (varD 3) (consA (varD 4) (consA (varD 6) nilA)))))))))))))
def F_trail_holds : List D → R D := defF 10 B_trail_holds
def B_need_script : Env → R Out :=
  (ifS (notT (truT (callF 2 F_is_script (consA (varD 0) (consA (varD 1) nilA)))))
    (raiseS "BadScript" (cD (.str "a script is a tuple of at most thirty paper deeds")))
    passS)
def F_need_script : List D → R D := defF 2 B_need_script
def B_need_no_writes : Env → R Out :=
  (seqS (dropS (callF 2 F_need_script (consA (varD 0) (consA (varD 1) nilA))))
    (ifS (truT (callD gAny (consA (lstD (compD (iterF (varD 1)) (tName 2) yesT (bin gEq (bin gIx (varD 2) (cD (.int 0))) (cD (.str "write"))) [2])) nilA)))
    (raiseS "BadScript" (cD (.str "the script has to be one without a write")))
    passS))
def F_need_no_writes : List D → R D := defF 3 B_need_no_writes
def B_rows_of : Env → R Out :=
  (seqS (setS 3 (bin gIx (callF 3 F_lists_through (consA (varD 0) (consA (varD 1) (consA (varD 2) nilA)))) (un gNeg (cD (.int 1)))))
    (retS (callD gTuple (consA (lstD (compD (iterF (varD 3)) (tName 6) yesT (callD gTuple (consA (lstD (compD (iterF (varD 6)) (tTup 2 (tCons (tName 4) (tCons (tName 5) tNil))) yesT (varD 5) [4, 5])) nilA)) [6])) nilA))))
def F_rows_of : List D → R D := defF 7 B_rows_of
def B_telling_contents : Env → R Out :=
  (seqS (setS 2 (cD (.int 0)))
    (seqS (whileS (blT (bin gEq (slD gSl (varD 0) (part (varD 2)) (part (bin gAdd (varD 2) (cD (.int 1))))) (slD gSl (varD 1) (part (varD 2)) (part (bin gAdd (varD 2) (cD (.int 1)))))))
    (augS 2 gAddI (cD (.int 1))))
    (retS (callD gTuple (consA (lstD (sortG (bin gAdd (slD gSl (varD 0) (part (varD 2)) (part (bin gAdd (varD 2) (cD (.int 1))))) (slD gSl (varD 1) (part (varD 2)) (part (bin gAdd (varD 2) (cD (.int 1)))))))) nilA)))))
def F_telling_contents : List D → R D := defF 3 B_telling_contents
def B_same_script : Env → R Out :=
  (seqS (dropS (callF 2 F_need_no_writes (consA (varD 0) (consA (varD 1) nilA))))
    (seqS (dropS (callF 2 F_need_no_writes (consA (varD 0) (consA (varD 2) nilA))))
    (seqS (forS (iterF (cD (.tuple (([(0), (1), (2), (3)] : List Int).map PyData.int)))) (tName 3)
    (forS (zipG (consA (callF 3 F_rows_of (consA (varD 0) (consA (varD 1) (consA (varD 3) nilA)))) (consA (callF 3 F_rows_of (consA (varD 0) (consA (varD 2) (consA (varD 3) nilA)))) nilA))) (tTup 2 (tCons (tName 4) (tCons (tName 5) tNil)))
    (ifS (blT (bin gNe (varD 4) (varD 5)))
    (retS (tupD (consA (varD 3) (consA (callF 2 F_telling_contents (consA (varD 4) (consA (varD 5) nilA))) nilA))))
    passS)))
    (retS (cD .none)))))
def F_same_script : List D → R D := defF 6 B_same_script
def B_lists_without : Env → R Out :=
  (seqS (forS (rngI (consA (bin gAdd (varD 3) (cD (.int 1))) (consA (callD gLen (consA (varD 1) nilA)) nilA))) (tName 4)
    (setS 0 (callF 4 F_lists_behind (consA (varD 0) (consA (bin gIx (varD 1) (varD 4)) (consA (varD 2) (consA (varD 4) nilA)))))))
    (retS (varD 0)))
def F_lists_without : List D → R D := defF 5 B_lists_without
def B_is_idle : Env → R Out :=
  (retS (callD gAll (consA (lstD (compD (iterF (cD (.tuple (([(0), (1), (2), (3)] : List Int).map PyData.int)))) (tName 3) yesT (bin gEq (callF 4 F_lists_without (consA (bin gIx (bin gIx (varD 0) (varD 3)) (varD 2)) (consA (varD 1) (consA (varD 3) (consA (varD 2) nilA))))) (bin gIx (bin gIx (varD 0) (varD 3)) (un gNeg (cD (.int 1))))) [3])) nilA)))
def F_is_idle : List D → R D := defF 4 B_is_idle
def B_idle_deeds : Env → R Out :=
  (seqS (dropS (callF 2 F_need_script (consA (varD 0) (consA (varD 1) nilA))))
    (seqS (setS 2 (lstD (compD (iterF (cD (.tuple (([(0), (1), (2), (3)] : List Int).map PyData.int)))) (tName 3) yesT (callF 3 F_lists_through (consA (varD 0) (consA (varD 1) (consA (varD 3) nilA)))) [3])))
    (retL (compD (rngI (consA (callD gLen (consA (varD 1) nilA)) nilA)) (tName 4) (truT (callF 3 F_is_idle (consA (varD 2) (consA (varD 1) (consA (varD 4) nilA))))) (varD 4) [4]))))
def F_idle_deeds : List D → R D := defF 5 B_idle_deeds
def FL_idle_deeds : List D → R (List D) := defL 5 B_idle_deeds
def B_last_idle : Env → R Out :=
  (seqS (setS 2 (lstD (compD (iterF (cD (.tuple (([(0), (1), (2), (3)] : List Int).map PyData.int)))) (tName 4) yesT (callF 3 F_lists_through (consA (varD 0) (consA (varD 1) (consA (varD 4) nilA)))) [4])))
    (seqS (forS (revRI (callD gLen (consA (varD 1) nilA))) (tName 3)
    (ifS (truT (callF 3 F_is_idle (consA (varD 2) (consA (varD 1) (consA (varD 3) nilA)))))
    (retS (varD 3))
    passS))
    (retS (cD .none))))
def F_last_idle : List D → R D := defF 5 B_last_idle
def B_least_script : Env → R Out :=
  (seqS (dropS (callF 2 F_need_script (consA (varD 0) (consA (varD 1) nilA))))
    (seqS (setS 2 (callF 2 F_last_idle (consA (varD 0) (consA (varD 1) nilA))))
    (seqS (whileS (blT (bin gIsNot (varD 2) (cD .none)))
    (seqS (setS 1 (bin gAdd (slD gSl (varD 1) noPart (part (varD 2))) (slD gSl (varD 1) (part (bin gAdd (varD 2) (cD (.int 1)))) noPart)))
    (setS 2 (callF 2 F_last_idle (consA (varD 0) (consA (varD 1) nilA))))))
    (retS (varD 1)))))
def F_least_script : List D → R D := defF 3 B_least_script
def B_own_rows : Env → R Out :=
  (retS (callD gTuple (consA (lstD (compD (rngI (consA (varD 0) nilA)) (tName 1) yesT (tupD (consA (varD 1) nilA)) [1])) nilA)))
def F_own_rows : List D → R D := defF 2 B_own_rows
def B_each_once : Env → R Out :=
  (retS (callD gTuple (consA (lstD (compD (enumF (varD 0)) (tTup 2 (tCons (tName 1) (tCons (tName 2) tNil))) (blT (bin gNotInA (varD 2) (slD gSl (varD 0) noPart (part (varD 1))))) (varD 2) [1, 2])) nilA)))
def F_each_once : List D → R D := defF 3 B_each_once
def B_rows_behind : Env → R Out :=
  (retS (callD gTuple (consA (lstD (compD (iterF (varD 1)) (tName 4) yesT (callF 1 F_each_once (consA (lstD (compD2 (iterF (varD 4)) (tName 2) yesT (iterF (bin gIx (varD 0) (varD 2))) (tName 3) yesT (varD 3) [2, 3] [3])) nilA)) [4])) nilA)))
def F_rows_behind : List D → R D := defF 5 B_rows_behind
def B_repeated_rows : Env → R Out :=
  (seqS (setS 2 (callF 1 F_own_rows (consA (callD gLen (consA (varD 0) nilA)) nilA)))
    (seqS (whileS (blT (bin gGt (varD 1) (cD (.int 0))))
    (seqS (ifS (blT (bin gEq (bin gMod (varD 1) (cD (.int 2))) (cD (.int 1))))
    (setS 2 (callF 2 F_rows_behind (consA (varD 2) (consA (varD 0) nilA))))
    passS)
    (seqS (setS 0 (callF 2 F_rows_behind (consA (varD 0) (consA (varD 0) nilA))))
    (setS 1 (bin gDiv (varD 1) (cD (.int 2)))))))
    (retS (varD 2))))
def F_repeated_rows : List D → R D := defF 3 B_repeated_rows
def B_lists_after : Env → R Out :=
  (seqS (dropS (callF 2 F_need_no_writes (consA (varD 0) (consA (varD 1) nilA))))
    (seqS (dropS (callF 1 F_need_path (consA (varD 2) nilA)))
    (seqS (dropS (callF 2 F_need_number (consA (varD 3) (consA (cD (.int 1000000000000000)) nilA))))
    (seqS (setS 4 (callF 2 F_repeated_rows (consA (callF 3 F_rows_of (consA (varD 0) (consA (varD 1) (consA (varD 2) nilA)))) (consA (varD 3) nilA))))
    (retS (callD gTuple (consA (lstD (compD (iterF (varD 4)) (tName 6) yesT (callD gTuple (consA (lstD (compD (iterF (varD 6)) (tName 5) yesT (tupD (consA (cD (.str "first")) (consA (varD 5) nilA))) [5])) nilA)) [6])) nilA)))))))
def F_lists_after : List D → R D := defF 7 B_lists_after
def B_settling : Env → R Out :=
  (seqS (dropS (callF 2 F_need_no_writes (consA (varD 0) (consA (varD 1) nilA))))
    (seqS (setS 2 (lstD (compD (iterF (cD (.tuple (([(0), (1), (2), (3)] : List Int).map PyData.int)))) (tName 5) yesT (callF 3 F_rows_of (consA (varD 0) (consA (varD 1) (consA (varD 5) nilA)))) [5])))
    (seqS (setS 3 (callD gTuple (consA (lstD (compD (iterF (cD (.tuple (([(0), (1), (2), (3)] : List Int).map PyData.int)))) (tName 6) yesT (callF 1 F_own_rows (consA (varD 0) nilA)) [6])) nilA)))
    (seqS (newX 4)
    (seqS (whileS (blT (inDS true 4 (varD 3)))
    (seqS (putDS 4 (callD gLen (consA (varD 4) nilA)) (varD 3))
    (setS 3 (callD gTuple (consA (lstD (compD (zipG (consA (varD 3) (consA (varD 2) nilA))) (tTup 2 (tCons (tName 7) (tCons (tName 8) tNil))) yesT (callF 2 F_rows_behind (consA (varD 7) (consA (varD 8) nilA))) [7, 8])) nilA)))))
    (retS (tupD (consA (getDS 4 (varD 3)) (consA (bin gSub (callD gLen (consA (varD 4) nilA)) (getDS 4 (varD 3))) nilA)))))))))
def F_settling : List D → R D := defF 9 B_settling
def B_need_row : Env → R Out :=
  badS
def F_need_row : List D → R D := defF 4 B_need_row
def B_script_for : Env → R Out :=
  (seqS (dropS (callF 1 F_need_size (consA (varD 0) nilA)))
    (seqS (dropS (callF 2 F_need_folder (consA (varD 0) (consA (varD 1) nilA))))
    (seqS (dropS (callF 3 F_need_row (consA (varD 0) (consA (varD 1) (consA (varD 2) nilA)))))
    (seqS (setS 3 (ownIndex 2 (varD 1)))
    (seqS (setS 4 (lstD (compD (iterF (un gRevT (slD gSl (varD 2) noPart (part (varD 3))))) (tName 5) yesT (tupD (consA (cD (.str "over")) (consA (varD 5) (consA (varD 1) nilA)))) [5])))
    (retS (callD gTuple (consA (bin gAdd (varD 4) (lstD (compD (iterF (slD gSl (varD 2) (part (bin gAdd (varD 3) (cD (.int 1)))) noPart)) (tName 5) yesT (tupD (consA (cD (.str "under")) (consA (varD 5) (consA (varD 1) nilA)))) [5]))) nilA))))))))
def F_script_for : List D → R D := defF 6 B_script_for
def B_is_report : Env → R Out :=
  (seqS (ifS (notT (andT (truT (callF 1 F_is_pair (consA (varD 1) nilA))) (andT (truT (callF 2 F_is_contents (consA (varD 0) (consA (bin gIx (varD 1) (cD (.int 0))) nilA)))) (truT (bin gIx (varD 1) (cD (.int 0)))))))
    (retS (cD (.bool false)))
    passS)
    (seqS (asgS (varD 1) (tTup 2 (tCons (tName 2) (tCons (tName 3) tNil))))
    (retS (orD (bin gIs (varD 3) (cD .none)) (andD (callF 2 F_is_folder (consA (varD 0) (consA (varD 3) nilA))) (bin gInA (varD 3) (varD 2)))))))
def F_is_report : List D → R D := defF 4 B_is_report
def B_need_told : Env → R Out :=
  (seqS (dropS (callF 1 F_need_size (consA (varD 0) nilA)))
    (seqS (dropS (callF 2 F_need_folder (consA (varD 0) (consA (varD 1) nilA))))
    (ifS (notT (andT (truT (isiD "tuple" (varD 2))) (andT (blT (bin gLe (callD gLen (consA (varD 2) nilA)) (cD (.int 12)))) (truT (callD gAll (consA (lstD (compD (iterF (varD 2)) (tName 3) yesT (callF 2 F_is_report (consA (varD 0) (consA (varD 3) nilA))) [3])) nilA))))))
    (raiseS "BadReports" (jsD [(cD (.str "reports are a tuple of at most ")), (fmtD (cD (.int 12))), (cD (.str " tuples of first contents and what is told"))] Str.empty))
    passS)))
def F_need_told : List D → R D := defF 4 B_need_told
def B_listed : Env → R Out :=
  (retL (sortSetF (bin gAdd (lstD (dispL (consA (varD 0) nilA))) (lstD (compD (iterF (varD 1)) (tTup 2 (tCons (tName 2) (tCons (tName 3) tNil))) (blT (bin gIsNot (varD 3) (cD .none))) (varD 3) [2, 3])))))
def F_listed : List D → R D := defF 4 B_listed
def FL_listed : List D → R (List D) := defL 4 B_listed
def B_those_ahead : Env → R Out :=
  (retL (compD (enumF (varD 0)) (tTup 2 (tCons (tName 3) (tCons (tTup 2 (tCons (tName 4) (tCons (tName 5) tNil))) tNil))) (andT (blT (bin gNe (varD 5) (varD 2))) (andT (blT (bin gInA (varD 5) (varD 1))) (blT (bin gInA (varD 2) (varD 4))))) (varD 3) [3, 4, 5]))
def F_those_ahead : List D → R D := defF 6 B_those_ahead
def FL_those_ahead : List D → R (List D) := defL 6 B_those_ahead
def B_lined_up : Env → R Out :=
  (seqS (setO 2 (dispL nilA))
    (seqS (setS 3 (callF 2 F_listed (consA (varD 0) (consA (varD 1) nilA))))
    (seqS (setS 4 (varD 3))
    (seqS (whileS (truT (varD 4))
    (seqS (setS 4 (lstD (compD (iterF (varD 3)) (tName 5) (notT (truT (callF 3 F_those_ahead (consA (varD 1) (consA (varD 3) (consA (varD 5) nilA)))))) (varD 5) [5])))
    (seqS badS
    (setS 3 (lstD (compD (iterF (varD 3)) (tName 5) (blT (ownIn true 2 (varD 5))) (varD 5) [5]))))))
    (frzS 2 (retS (tupD (consA (varD 2) (consA (varD 3) nilA)))))))))
def F_lined_up : List D → R D := defF 6 B_lined_up
def B_lost : Env → R Out :=
  (seqS (forS (enumF (varD 1)) (tTup 2 (tCons (tName 2) (tCons (tTup 2 (tCons (tName 3) (tCons (tName 4) tNil))) tNil)))
    (seqS (setS 5 (lstD (compD (iterF (callF 2 F_listed (consA (varD 0) (consA (varD 1) nilA)))) (tName 6) (blT (bin gInA (varD 6) (varD 3))) (varD 6) [6])))
    (ifS (andT (blT (bin gIs (varD 4) (cD .none))) (truT (varD 5)))
    (retS (tupD (consA (cD (.str "lost")) (consA (varD 2) (consA (bin gIx (varD 5) (cD (.int 0))) nilA)))))
    passS)))
    (retS (cD .none)))
def F_lost : List D → R D := defF 7 B_lost
def B_explained : Env → R Out :=
  (seqS (dropS (callF 3 F_need_told (consA (varD 0) (consA (varD 1) (consA (varD 2) nilA)))))
    (seqS (asgS (callF 2 F_lined_up (consA (varD 1) (consA (varD 2) nilA))) (tTup 2 (tCons (tName 3) (tCons (tName 4) tNil))))
    (retS (ifD (orT (truT (varD 4)) (blT (bin gIsNot (callF 2 F_lost (consA (varD 1) (consA (varD 2) nilA))) (cD .none)))) (cD .none) (callD gTuple (consA (varD 3) nilA))))))
def F_explained : List D → R D := defF 5 B_explained
def B_ring : Env → R Out :=
  (seqS (setS 2 (bin gIx (varD 1) (cD (.int 0))))
    (seqS (setO 3 (dispL nilA))
    (seqS (setO 4 (dispL nilA))
    (seqS (whileS (blT (ownIn true 3 (varD 2)))
    (seqS (appS 3 (varD 2))
    (seqS (appS 4 (bin gIx (callF 3 F_those_ahead (consA (varD 0) (consA (varD 1) (consA (varD 2) nilA)))) (cD (.int 0))))
    (setS 2 (bin gIx (bin gIx (varD 0) (ownIx 4 (un gNeg (cD (.int 1))))) (cD (.int 1)))))))
    (frzS 3 (retS (callD gTuple (consA (un gRevT (ownSl 4 (part (ownIndex 3 (varD 2))) noPart)) nilA))))))))
def F_ring : List D → R D := defF 5 B_ring
def B_against : Env → R Out :=
  (seqS (dropS (callF 3 F_need_told (consA (varD 0) (consA (varD 1) (consA (varD 2) nilA)))))
    (seqS (setS 3 (callF 2 F_lost (consA (varD 1) (consA (varD 2) nilA))))
    (seqS (ifS (blT (bin gIsNot (varD 3) (cD .none)))
    (retS (varD 3))
    passS)
    (seqS (asgS (callF 2 F_lined_up (consA (varD 1) (consA (varD 2) nilA))) (tTup 2 (tCons (tName 4) (tCons (tName 5) tNil))))
    (retS (ifD (truT (varD 5)) (tupD (consA (cD (.str "ring")) (consA (callF 2 F_ring (consA (varD 2) (consA (varD 5) nilA))) nilA))) (cD .none)))))))
def F_against : List D → R D := defF 6 B_against
def B_is_lost : Env → R Out :=
  (retS (andD (callF 3 F_is_whole (consA (varD 3) (consA (cD (.int 0)) (consA (bin gSub (callD gLen (consA (varD 2) nilA)) (cD (.int 1))) nilA)))) (andD (callF 2 F_is_folder (consA (varD 0) (consA (varD 4) nilA))) (andD (bin gInA (varD 4) (callF 2 F_listed (consA (varD 1) (consA (varD 2) nilA)))) (andD (bin gIs (bin gIx (bin gIx (varD 2) (varD 3)) (cD (.int 1))) (cD .none)) (bin gInA (varD 4) (bin gIx (bin gIx (varD 2) (varD 3)) (cD (.int 0)))))))))
def F_is_lost : List D → R D := defF 5 B_is_lost
def B_is_ring : Env → R Out :=
  (seqS (ifS (notT (andT (truT (isiD "tuple" (varD 1))) (blT (bin gGe (callD gLen (consA (varD 1) nilA)) (cD (.int 2))))))
    (retS (cD (.bool false)))
    passS)
    (seqS (ifS (notT (truT (callD gAll (consA (lstD (compD (iterF (varD 1)) (tName 3) yesT (callF 3 F_is_whole (consA (varD 3) (consA (cD (.int 0)) (consA (bin gSub (callD gLen (consA (varD 0) nilA)) (cD (.int 1))) nilA)))) [3])) nilA))))
    (retS (cD (.bool false)))
    passS)
    (seqS (setS 2 (lstD (compD (iterF (varD 1)) (tName 3) yesT (bin gIx (bin gIx (varD 0) (varD 3)) (cD (.int 1))) [3])))
    badS)))
def F_is_ring : List D → R D := defF 5 B_is_ring
def B_against_holds : Env → R Out :=
  (seqS (dropS (callF 3 F_need_told (consA (varD 0) (consA (varD 1) (consA (varD 2) nilA)))))
    (seqS (ifS (notT (truT (isiD "tuple" (varD 3))))
    (retS (cD (.bool false)))
    passS)
    (seqS (ifS (andT (blT (bin gEq (callD gLen (consA (varD 3) nilA)) (cD (.int 3)))) (truT (callF 2 F_is_word (consA (bin gIx (varD 3) (cD (.int 0))) (consA (tupD (consA (cD (.str "lost")) nilA)) nilA)))))
    (retS (callF 5 F_is_lost (consA (varD 0) (consA (varD 1) (consA (varD 2) (consA (bin gIx (varD 3) (cD (.int 1))) (consA (bin gIx (varD 3) (cD (.int 2))) nilA)))))))
    passS)
    (retS (andD (bin gEq (callD gLen (consA (varD 3) nilA)) (cD (.int 2))) (andD (callF 2 F_is_word (consA (bin gIx (varD 3) (cD (.int 0))) (consA (tupD (consA (cD (.str "ring")) nilA)) nilA))) (callF 2 F_is_ring (consA (varD 2) (consA (bin gIx (varD 3) (cD (.int 1))) nilA)))))))))
def F_against_holds : List D → R D := defF 4 B_against_holds
def B_need_house : Env → R Out :=
  (ifS (notT (truT (callF 1 F_is_house (consA (varD 0) nilA))))
    (raiseS "BadHouse" (cD (.str "a house is a tuple of people, parents, shut, entries and members")))
    passS)
def F_need_house : List D → R D := defF 1 B_need_house
def B_need_mode : Env → R Out :=
  (ifS (notT (truT (callF 1 F_is_mode (consA (varD 0) nilA))))
    (raiseS "BadMode" (cD (.str "a mode is a tuple of which entry comes first, what moving does, what is known, and deep")))
    passS)
def F_need_mode : List D → R D := defF 1 B_need_mode
def B_first_state : Env → R Out :=
  (seqS (dropS (callF 1 F_need_house (consA (varD 0) nilA)))
    (seqS (dropS (callF 1 F_need_mode (consA (varD 1) nilA)))
    (retS (callF 2 F_start_state (consA (varD 0) (consA (varD 1) nilA))))))
def F_first_state : List D → R D := defF 2 B_first_state
def B_is_groups : Env → R Out :=
  (retS (andD (isiD "tuple" (varD 0)) (andD (callD gAll (consA (lstD (compD (iterF (varD 0)) (tName 1) yesT (callF 1 F_is_group (consA (varD 1) nilA)) [1])) nilA)) (callF 1 F_is_rising (consA (varD 0) nilA)))))
def F_is_groups : List D → R D := defF 2 B_is_groups
def B_is_logins : Env → R Out :=
  (retS (andD (isiD "tuple" (varD 1)) (andD (bin gEq (callD gLen (consA (varD 1) nilA)) (varD 0)) (callD gAll (consA (lstD (compD (iterF (varD 1)) (tName 2) yesT (callF 1 F_is_groups (consA (varD 2) nilA)) [2])) nilA)))))
def F_is_logins : List D → R D := defF 3 B_is_logins
def B_is_state : Env → R Out :=
  (retS (andD (isiD "tuple" (varD 1)) (andD (bin gEq (callD gLen (consA (varD 1) nilA)) (cD (.int 5))) (andD (callF 1 F_is_parents (consA (bin gIx (varD 1) (cD (.int 0))) nilA)) (andD (bin gEq (callD gLen (consA (bin gIx (varD 1) (cD (.int 0))) nilA)) (callD gLen (consA (bin gIx (varD 0) (cD (.int 1))) nilA))) (andD (callF 3 F_is_furnished (consA (bin gIx (varD 0) (cD (.int 0))) (consA (callF 1 F_size_of (consA (varD 0) nilA)) (consA (slD gSl (varD 1) (part (cD (.int 1))) (part (cD (.int 4)))) nilA)))) (callF 2 F_is_logins (consA (bin gIx (varD 0) (cD (.int 0))) (consA (bin gIx (varD 1) (cD (.int 4))) nilA)))))))))
def F_is_state : List D → R D := defF 2 B_is_state
def B_need_state : Env → R Out :=
  (ifS (notT (truT (callF 2 F_is_state (consA (varD 0) (consA (varD 1) nilA)))))
    (raiseS "BadState" (cD (.str "a state is a tuple of parents, shut, entries, members and logins as of its house")))
    passS)
def F_need_state : List D → R D := defF 2 B_need_state
def B_need_held : Env → R Out :=
  (seqS (dropS (callF 1 F_need_house (consA (varD 0) nilA)))
    (seqS (dropS (callF 1 F_need_mode (consA (varD 1) nilA)))
    (dropS (callF 2 F_need_state (consA (varD 0) (consA (varD 2) nilA))))))
def F_need_held : List D → R D := defF 3 B_need_held
def B_need_person : Env → R Out :=
  (ifS (notT (truT (callF 2 F_is_person (consA (varD 0) (consA (varD 1) nilA)))))
    (raiseS "BadPerson" (jsD [(cD (.str "a person is an integer from 0 to ")), (fmtD (bin gSub (bin gIx (varD 0) (cD (.int 0))) (cD (.int 1))))] Str.empty))
    passS)
def F_need_person : List D → R D := defF 2 B_need_person
def B_need_sight : Env → R Out :=
  (seqS (dropS (callF 3 F_need_held (consA (varD 0) (consA (varD 1) (consA (varD 2) nilA)))))
    (seqS (dropS (callF 2 F_need_person (consA (varD 0) (consA (varD 3) nilA))))
    (dropS (callF 2 F_need_folder (consA (callF 1 F_size_of (consA (varD 0) nilA)) (consA (varD 4) nilA))))))
def F_need_sight : List D → R D := defF 5 B_need_sight
def B_way_of : Env → R Out :=
  (seqS (setO 2 (dispL (consA (varD 1) nilA)))
    (seqS (whileS (andT (blT (bin gNe (ownIx 2 (un gNeg (cD (.int 1)))) (cD (.int 0)))) (notT (truT (bin gIx (bin gIx (varD 0) (cD (.int 1))) (ownIx 2 (un gNeg (cD (.int 1))))))))
    (appS 2 (bin gIx (bin gIx (varD 0) (cD (.int 0))) (bin gSub (ownIx 2 (un gNeg (cD (.int 1)))) (cD (.int 1))))))
    (retS (ownTup 2))))
def F_way_of : List D → R D := defF 3 B_way_of
def B_known_groups : Env → R Out :=
  (seqS (ifS (blT (bin gEq (bin gIx (varD 0) (cD (.int 2))) (cD (.str "login"))))
    (retS (bin gIx (bin gIx (varD 1) (cD (.int 4))) (varD 2)))
    passS)
    (retS (callF 3 F_groups_of (consA (bin gIx (varD 1) (cD (.int 3))) (consA (tupD (consA (cD (.str "p")) (consA (varD 2) nilA))) (consA (bin gIx (varD 0) (cD (.int 3))) nilA))))))
def F_known_groups : List D → R D := defF 3 B_known_groups
def B_deciding_entries : Env → R Out :=
  (seqS (setS 4 (bin gAdd (lstD (dispL (consA (tupD (consA (cD (.str "p")) (consA (varD 2) nilA))) nilA))) (lstD (compD (iterF (callF 3 F_known_groups (consA (varD 0) (consA (varD 1) (consA (varD 2) nilA))))) (tName 8) yesT (tupD (consA (cD (.str "g")) (consA (varD 8) nilA))) [8]))))
    (seqS (setS 5 (callF 2 F_way_of (consA (varD 1) (consA (varD 3) nilA))))
    (seqS (setS 6 (lstD (compD (iterF (bin gIx (varD 1) (cD (.int 2)))) (tName 9) (andT (blT (bin gInA (bin gIx (varD 9) (cD (.int 0))) (varD 5))) (blT (bin gInA (bin gIx (varD 9) (cD (.int 1))) (varD 4)))) (varD 9) [9])))
    (seqS (ifS (blT (bin gEq (bin gIx (varD 0) (cD (.int 0))) (cD (.str "bar"))))
    (retS (varD 6))
    passS)
    (seqS (setS 7 (slD gSl (lstD (compD (iterF (varD 5)) (tName 10) (blT (bin gInA (varD 10) (lstD (compD (iterF (varD 6)) (tName 9) yesT (bin gIx (varD 9) (cD (.int 0))) [9])))) (varD 10) [10])) noPart (part (cD (.int 1)))))
    (retL (compD (iterF (varD 6)) (tName 9) (blT (bin gInA (bin gIx (varD 9) (cD (.int 0))) (varD 7))) (varD 9) [9])))))))
def F_deciding_entries : List D → R D := defF 11 B_deciding_entries
def B_sees_in : Env → R Out :=
  (seqS (setS 4 (lstD (compD (iterF (callF 4 F_deciding_entries (consA (varD 0) (consA (varD 1) (consA (varD 2) (consA (varD 3) nilA)))))) (tTup 3 (tCons (tName 5) (tCons (tName 5) (tCons (tName 6) tNil)))) yesT (varD 6) [5, 5, 6])))
    (retS (andD (bin gInA (cD (.str "allow")) (varD 4)) (bin gNotInA (cD (.str "bar")) (varD 4)))))
def F_sees_in : List D → R D := defF 7 B_sees_in
def B_sees : Env → R Out :=
  (seqS (dropS (callF 5 F_need_sight (consA (varD 0) (consA (varD 1) (consA (varD 2) (consA (varD 3) (consA (varD 4) nilA)))))))
    (retS (callF 4 F_sees_in (consA (varD 1) (consA (varD 2) (consA (varD 3) (consA (varD 4) nilA)))))))
def F_sees : List D → R D := defF 5 B_sees
def B_sights_in : Env → R Out :=
  (seqS (setS 3 (lstD (compD2 (rngI (consA (bin gIx (varD 0) (cD (.int 0))) nilA)) (tName 4) yesT (rngI (consA (callF 1 F_size_of (consA (varD 0) nilA)) nilA)) (tName 5) yesT (tupD (consA (varD 4) (consA (varD 5) nilA))) [4, 5] [5])))
    (retL (compD (iterF (varD 3)) (tTup 2 (tCons (tName 4) (tCons (tName 5) tNil))) (truT (callF 4 F_sees_in (consA (varD 1) (consA (varD 2) (consA (varD 4) (consA (varD 5) nilA)))))) (tupD (consA (varD 4) (consA (varD 5) nilA))) [4, 5])))
def F_sights_in : List D → R D := defF 6 B_sights_in
def FL_sights_in : List D → R (List D) := defL 6 B_sights_in
def B_all_sights : Env → R Out :=
  (seqS (dropS (callF 3 F_need_held (consA (varD 0) (consA (varD 1) (consA (varD 2) nilA)))))
    (retL (callL 3 FL_sights_in (consA (varD 0) (consA (varD 1) (consA (varD 2) nilA))))))
def F_all_sights : List D → R D := defF 3 B_all_sights
def FL_all_sights : List D → R (List D) := defL 3 B_all_sights
def B_need_right_deed : Env → R Out :=
  (ifS (notT (truT (callF 2 F_is_right_deed (consA (varD 0) (consA (varD 1) nilA)))))
    (raiseS "BadDeed" (cD (.str "a right deed is a tuple of its word and folders, groups, persons and who of the house")))
    passS)
def F_need_right_deed : List D → R D := defF 2 B_need_right_deed
def B_after_right : Env → R Out :=
  (seqS (dropS (callF 3 F_need_held (consA (varD 0) (consA (varD 1) (consA (varD 2) nilA)))))
    (seqS (dropS (callF 2 F_need_right_deed (consA (varD 0) (consA (varD 3) nilA))))
    (retS (callF 3 F_do_right (consA (varD 1) (consA (varD 2) (consA (varD 3) nilA)))))))
def F_after_right : List D → R D := defF 4 B_after_right
def B_all_whos : Env → R Out :=
  (retS (bin gAdd (lstD (compD (rngI (consA (bin gIx (varD 0) (cD (.int 0))) nilA)) (tName 1) yesT (tupD (consA (cD (.str "p")) (consA (varD 1) nilA))) [1])) (lstD (compD (iterF (cD (.tuple (([(0), (1), (2)] : List Int).map PyData.int)))) (tName 2) yesT (tupD (consA (cD (.str "g")) (consA (varD 2) nilA))) [2]))))
def F_all_whos : List D → R D := defF 3 B_all_whos
def B_chains : Env → R Out :=
  (seqS (asgS (varD 3) (tTup 2 (tCons (tName 4) (tCons (tName 5) tNil))))
    (seqS (ifS (blT (bin gEq (varD 4) (cD (.str "p"))))
    (retS (ifD (blT (bin gEq (varD 5) (varD 2))) (lstD (dispL (consA (tupD nilA) nilA))) (lstD (dispL nilA))))
    passS)
    (seqS (ifS (blT (bin gEq (bin gIx (varD 0) (cD (.int 2))) (cD (.str "login"))))
    (retS (ifD (blT (bin gInA (varD 5) (bin gIx (bin gIx (varD 1) (cD (.int 4))) (varD 2)))) (lstD (dispL (consA (tupD (consA (varD 5) nilA)) nilA))) (lstD (dispL nilA))))
    passS)
    (seqS (setS 6 (bin gIx (varD 1) (cD (.int 3))))
    (seqS (setS 7 (lstD (compD (iterF (cD (.tuple (([(0), (1), (2)] : List Int).map PyData.int)))) (tName 11) (blT (bin gInA (tupD (consA (varD 11) (consA (tupD (consA (cD (.str "p")) (consA (varD 2) nilA))) nilA))) (varD 6))) (tupD (consA (varD 11) nilA)) [11])))
    (seqS (setS 8 (varD 7))
    (seqS (forS (iterF (ifD (truT (bin gIx (varD 0) (cD (.int 3)))) (slD gSl (cD (.tuple (([(0), (1), (2)] : List Int).map PyData.int))) (part (cD (.int 1))) noPart) (tupD nilA))) (tName 9)
    (seqS (setS 10 (lstD (compD2 (iterF (varD 8)) (tName 12) yesT (iterF (cD (.tuple (([(0), (1), (2)] : List Int).map PyData.int)))) (tName 11) yesT (tupD (consA (varD 12) (consA (varD 11) nilA))) [12, 11] [11])))
    (seqS (setS 8 (lstD (compD (iterF (varD 10)) (tTup 2 (tCons (tName 12) (tCons (tName 11) tNil))) (blT (bin gInA (tupD (consA (varD 11) (consA (tupD (consA (cD (.str "g")) (consA (bin gIx (varD 12) (un gNeg (cD (.int 1)))) nilA))) nilA))) (varD 6))) (bin gAdd (varD 12) (tupD (consA (varD 11) nilA))) [12, 11])))
    (setS 7 (bin gAdd (varD 7) (varD 8))))))
    (retL (compD (iterF (varD 7)) (tName 12) (blT (bin gEq (bin gIx (varD 12) (un gNeg (cD (.int 1)))) (varD 5))) (varD 12) [12])))))))))
def F_chains : List D → R D := defF 13 B_chains
def B_find_reason : Env → R Out :=
  (seqS (setS 4 (callF 4 F_deciding_entries (consA (varD 0) (consA (varD 1) (consA (varD 2) (consA (varD 3) nilA))))))
    (seqS (ifS (notT (truT (varD 4)))
    (retS (tupD (consA (cD (.str "nothing")) (consA (callF 2 F_way_of (consA (varD 1) (consA (varD 3) nilA))) (consA (callF 3 F_known_groups (consA (varD 0) (consA (varD 1) (consA (varD 2) nilA)))) nilA)))))
    passS)
    (seqS (setS 5 (lstD (compD (iterF (varD 4)) (tName 9) (blT (bin gEq (bin gIx (varD 9) (cD (.int 2))) (cD (.str "bar")))) (varD 9) [9])))
    (seqS (asgS (bin gIx (bin gAdd (varD 5) (varD 4)) (cD (.int 0))) (tTup 3 (tCons (tName 6) (tCons (tName 7) (tCons (tName 8) tNil)))))
    (retS (tupD (consA (ifD (truT (varD 5)) (cD (.str "barred")) (cD (.str "sees"))) (consA (varD 6) (consA (varD 7) (consA (bin gIx (callF 4 F_chains (consA (varD 0) (consA (varD 1) (consA (varD 2) (consA (varD 7) nilA))))) (cD (.int 0))) nilA))))))))))
def F_find_reason : List D → R D := defF 10 B_find_reason
def B_reason_for : Env → R Out :=
  (seqS (dropS (callF 5 F_need_sight (consA (varD 0) (consA (varD 1) (consA (varD 2) (consA (varD 3) (consA (varD 4) nilA)))))))
    (retS (callF 4 F_find_reason (consA (varD 1) (consA (varD 2) (consA (varD 3) (consA (varD 4) nilA)))))))
def F_reason_for : List D → R D := defF 5 B_reason_for
def B_is_reason : Env → R Out :=
  (seqS (ifS (notT (andT (truT (isiD "tuple" (varD 5))) (blT (bin gInA (callD gLen (consA (varD 5) nilA)) (tupD (consA (cD (.int 3)) (consA (cD (.int 4)) nilA)))))))
    (retS (cD (.bool false)))
    passS)
    (seqS (setS 6 (callF 4 F_deciding_entries (consA (varD 1) (consA (varD 2) (consA (varD 3) (consA (varD 4) nilA))))))
    (seqS (setS 7 (callF 1 F_size_of (consA (varD 0) nilA)))
    (seqS (ifS (blT (bin gEq (callD gLen (consA (varD 5) nilA)) (cD (.int 3))))
    (seqS (setS 8 (tupD (consA (callF 2 F_way_of (consA (varD 2) (consA (varD 4) nilA))) (consA (callF 3 F_known_groups (consA (varD 1) (consA (varD 2) (consA (varD 3) nilA)))) nilA))))
    (seqS (setS 9 (andD (callF 2 F_is_row (consA (bin gSub (varD 7) (cD (.int 1))) (consA (bin gIx (varD 5) (cD (.int 1))) nilA))) (callF 2 F_is_row (consA (bin gIx (cD (.tuple (([(0), (1), (2)] : List Int).map PyData.int))) (un gNeg (cD (.int 1)))) (consA (bin gIx (varD 5) (cD (.int 2))) nilA)))))
    (retS (andD (callF 2 F_is_word (consA (bin gIx (varD 5) (cD (.int 0))) (consA (tupD (consA (cD (.str "nothing")) nilA)) nilA))) (andD (notD (varD 6)) (andD (varD 9) (bin gEq (slD gSl (varD 5) (part (cD (.int 1))) noPart) (varD 8))))))))
    passS)
    (seqS (asgS (varD 5) (tTup 4 (tCons (tName 10) (tCons (tName 11) (tCons (tName 12) (tCons (tName 13) tNil))))))
    (seqS (ifS (notT (andT (truT (callF 2 F_is_folder (consA (varD 7) (consA (varD 11) nilA)))) (andT (truT (callF 2 F_is_who (consA (bin gIx (varD 0) (cD (.int 0))) (consA (varD 12) nilA)))) (truT (callF 2 F_is_row (consA (bin gIx (cD (.tuple (([(0), (1), (2)] : List Int).map PyData.int))) (un gNeg (cD (.int 1)))) (consA (varD 13) nilA)))))))
    (retS (cD (.bool false)))
    passS)
    (seqS (ifS (blT (bin gNotInA (varD 13) (callF 4 F_chains (consA (varD 1) (consA (varD 2) (consA (varD 3) (consA (varD 12) nilA)))))))
    (retS (cD (.bool false)))
    passS)
    (seqS (ifS (truT (callF 2 F_is_word (consA (varD 10) (consA (tupD (consA (cD (.str "barred")) nilA)) nilA))))
    (retS (bin gInA (tupD (consA (varD 11) (consA (varD 12) (consA (cD (.str "bar")) nilA)))) (varD 6)))
    passS)
    (retS (andD (callF 2 F_is_word (consA (varD 10) (consA (tupD (consA (cD (.str "sees")) nilA)) nilA))) (andD (bin gInA (tupD (consA (varD 11) (consA (varD 12) (consA (cD (.str "allow")) nilA)))) (varD 6)) (bin gNotInA (cD (.str "bar")) (lstD (compD (iterF (varD 6)) (tName 14) yesT (bin gIx (varD 14) (cD (.int 2))) [14]))))))))))))))
def F_is_reason : List D → R D := defF 15 B_is_reason
def B_reason_holds : Env → R Out :=
  (seqS (dropS (callF 5 F_need_sight (consA (varD 0) (consA (varD 1) (consA (varD 2) (consA (varD 3) (consA (varD 4) nilA)))))))
    (retS (callF 6 F_is_reason (consA (varD 0) (consA (varD 1) (consA (varD 2) (consA (varD 3) (consA (varD 4) (consA (varD 5) nilA)))))))))
def F_reason_holds : List D → R D := defF 6 B_reason_holds
def B_all_trees : Env → R Out :=
  (seqS (setS 1 (lstD (dispL (consA (tupD nilA) nilA))))
    (seqS (forS (rngI (consA (cD (.int 1)) (consA (varD 0) nilA))) (tName 2)
    (setS 1 (lstD (compD2 (iterF (varD 1)) (tName 3) yesT (rngI (consA (varD 0) nilA)) (tName 4) (blT (bin gNe (varD 4) (varD 2))) (bin gAdd (varD 3) (tupD (consA (varD 4) nilA))) [3, 4] [4]))))
    (retL (compD (iterF (varD 1)) (tName 3) (truT (callF 1 F_is_parents (consA (varD 3) nilA))) (varD 3) [3]))))
def F_all_trees : List D → R D := defF 5 B_all_trees
def FL_all_trees : List D → R (List D) := defL 5 B_all_trees
def B_all_members : Env → R Out :=
  (seqS (setS 1 (lstD (dispL (consA (tupD nilA) nilA))))
    (seqS (forS (iterF (lstD (compD2 (iterF (cD (.tuple (([(0), (1), (2)] : List Int).map PyData.int)))) (tName 4) yesT (iterF (cD (.tuple (([(0), (1), (2)] : List Int).map PyData.int)))) (tName 5) (blT (bin gNe (varD 4) (varD 5))) (tupD (consA (varD 4) (consA (tupD (consA (cD (.str "g")) (consA (varD 5) nilA))) nilA))) [4, 5] [5]))) (tName 2)
    (setS 1 (bin gAdd (varD 1) (lstD (compD (iterF (varD 1)) (tName 6) yesT (bin gAdd (varD 6) (tupD (consA (varD 2) nilA))) [6])))))
    (seqS (setS 3 (bin gAdd (lstD (dispL (consA (tupD nilA) nilA))) (lstD (compD (iterF (cD (.tuple (([(0), (1), (2)] : List Int).map PyData.int)))) (tName 4) yesT (tupD (consA (tupD (consA (varD 4) (consA (tupD (consA (cD (.str "p")) (consA (varD 0) nilA))) nilA))) nilA)) [4]))))
    (retL (compD2 (iterF (varD 1)) (tName 6) (truT (callF 1 F_is_acyclic (consA (varD 6) nilA))) (iterF (varD 3)) (tName 2) yesT (callD gTuple (consA (lstD (sortG (bin gAdd (varD 6) (varD 2)))) nilA)) [6, 2] [2])))))
def F_all_members : List D → R D := defF 7 B_all_members
def FL_all_members : List D → R (List D) := defL 7 B_all_members
def B_telling_states : Env → R Out :=
  (seqS (asgS (tupD (consA (bin gIx (varD 0) (cD (.int 0))) (consA (callF 1 F_size_of (consA (varD 0) nilA)) nilA))) (tTup 2 (tCons (tName 3) (tCons (tName 4) tNil))))
    (seqS (setS 5 (tupD (consA (bin gIx (varD 1) (cD (.int 0))) (consA (bin gIx (varD 2) (cD (.int 0))) nilA))))
    (seqS (setS 6 (ifD (blT (bin gEq (varD 5) (tupD (consA (cD (.str "move")) (consA (cD (.str "move")) nilA))))) (callF 1 F_all_trees (consA (varD 4) nilA)) (lstD (dispL (consA (bin gMulC (tupD (consA (cD (.int 0)) nilA)) (bin gSub (varD 4) (cD (.int 1)))) nilA)))))
    (seqS (setS 7 (lstD (dispL (consA (tupD nilA) nilA))))
    (seqS (ifS (orT (blT (bin gInA (bin gIx (varD 5) (cD (.int 0))) (cD (.tuple ((["join", "leave"] : List Str).map PyData.str))))) (blT (bin gInA (bin gIx (varD 5) (cD (.int 1))) (cD (.tuple ((["join", "leave"] : List Str).map PyData.str))))))
    (seqS (setS 8 (lstD (compD (iterF (tupD (consA (slD gSl (varD 1) noPart (part (cD (.int 2)))) (consA (slD gSl (varD 2) noPart (part (cD (.int 2)))) nilA)))) (tTup 2 (tCons (tName 11) (tCons (tName 12) tNil))) (blT (bin gEq (varD 11) (cD (.str "login")))) (varD 12) [11, 12])))
    (setS 7 (callF 1 F_all_members (consA (bin gIx (bin gAdd (varD 8) (lstD (dispL (consA (cD (.int 0)) nilA)))) (cD (.int 0))) nilA))))
    passS)
    (seqS (setS 9 (bin gMulC (tupD (consA (cD (.bool false)) nilA)) (varD 4)))
    (seqS (setS 10 (callD gTuple (consA (lstD (compD (rngI (consA (varD 4) nilA)) (tName 13) yesT (tupD (consA (varD 13) (consA (tupD (consA (cD (.str "p")) (consA (cD (.int 0)) nilA))) (consA (cD (.str "allow")) nilA)))) [13])) nilA)))
    (retL (compD2 (iterF (varD 6)) (tName 14) yesT (iterF (varD 7)) (tName 15) yesT (tupD (consA (varD 14) (consA (varD 9) (consA (varD 10) (consA (varD 15) (consA (bin gMulC (tupD (consA (tupD nilA) nilA)) (varD 3)) nilA)))))) [14, 15] [15])))))))))
def F_telling_states : List D → R D := defF 16 B_telling_states
def FL_telling_states : List D → R (List D) := defL 16 B_telling_states
def B_do_all : Env → R Out :=
  (seqS (forS (iterF (varD 2)) (tName 3)
    (setS 1 (callF 3 F_do_right (consA (varD 0) (consA (varD 1) (consA (varD 3) nilA))))))
    (retS (varD 1)))
def F_do_all : List D → R D := defF 4 B_do_all
def B_commute : Env → R Out :=
  (seqS (dropS (callF 1 F_need_house (consA (varD 0) nilA)))
    (seqS (dropS (callF 1 F_need_mode (consA (varD 1) nilA)))
    (seqS (dropS (callF 2 F_need_right_deed (consA (varD 0) (consA (varD 2) nilA))))
    (seqS (dropS (callF 2 F_need_right_deed (consA (varD 0) (consA (varD 3) nilA))))
    (seqS (forS (iterF (callF 3 F_telling_states (consA (varD 0) (consA (varD 2) (consA (varD 3) nilA))))) (tName 4)
    (ifS (blT (bin gNe (callF 3 F_do_all (consA (varD 1) (consA (varD 4) (consA (tupD (consA (varD 2) (consA (varD 3) nilA))) nilA)))) (callF 3 F_do_all (consA (varD 1) (consA (varD 4) (consA (tupD (consA (varD 3) (consA (varD 2) nilA))) nilA))))))
    (retS (varD 4))
    passS))
    (retS (cD .none)))))))
def F_commute : List D → R D := defF 5 B_commute
def B_all_right_deeds : Env → R Out :=
  (seqS (setS 1 (rngV (bin gIx (varD 0) (cD (.int 0)))))
    (seqS (setS 2 (rngV (callF 1 F_size_of (consA (varD 0) nilA))))
    (seqS (setS 3 (callF 1 F_all_whos (consA (varD 0) nilA)))
    (seqS (setO 4 (compDN (iterF (cD (.tuple ((["allow", "bar", "clear"] : List Str).map PyData.str)))) (tName 5) yesT 65536 [⟨(iterV (varD 2)), (tName 6), yesT, [6, 7], 256⟩, ⟨(iterF (varD 3)), (tName 7), yesT, [7], 1⟩] (tupD (consA (varD 5) (consA (varD 6) (consA (varD 7) nilA)))) [5, 6, 7]))
    (seqS (extS 4 (compDN (iterF (cD (.tuple ((["join", "leave"] : List Str).map PyData.str)))) (tName 5) yesT 65536 [⟨(iterF (cD (.tuple (([(0), (1), (2)] : List Int).map PyData.int)))), (tName 8), yesT, [8, 7], 256⟩, ⟨(iterF (varD 3)), (tName 7), yesT, [7], 1⟩] (tupD (consA (varD 5) (consA (varD 8) (consA (varD 7) nilA)))) [5, 8, 7]))
    (seqS (extS 4 (compD2 (iterV (varD 2)) (tName 6) yesT (iterV (varD 2)) (tName 9) yesT (tupD (consA (cD (.str "move")) (consA (varD 6) (consA (varD 9) nilA)))) [6, 9] [9]))
    (seqS (extS 4 (compD2 (iterF (cD (.tuple ((["open", "shut"] : List Str).map PyData.str)))) (tName 5) yesT (iterV (varD 2)) (tName 6) yesT (tupD (consA (varD 5) (consA (varD 6) nilA))) [5, 6] [6]))
    (seqS (extS 4 (compD (iterV (varD 1)) (tName 10) yesT (tupD (consA (cD (.str "login")) (consA (varD 10) nilA))) [10]))
    (frzS 4 (retL (sortW (varD 4))))))))))))
def F_all_right_deeds : List D → R D := defF 11 B_all_right_deeds
def FL_all_right_deeds : List D → R (List D) := defL 11 B_all_right_deeds
def B_turning_deeds : Env → R Out :=
  (seqS (dropS (callF 5 F_need_sight (consA (varD 0) (consA (varD 1) (consA (varD 2) (consA (varD 3) (consA (varD 4) nilA)))))))
    (seqS (setS 5 (callF 4 F_sees_in (consA (varD 1) (consA (varD 2) (consA (varD 3) (consA (varD 4) nilA))))))
    (seqS (setS 6 (callF 1 F_all_right_deeds (consA (varD 0) nilA)))
    (retL (compD (iterF (varD 6)) (tName 7) (blT (bin gNe (callF 4 F_sees_in (consA (varD 1) (consA (callF 3 F_do_right (consA (varD 1) (consA (varD 2) (consA (varD 7) nilA)))) (consA (varD 3) (consA (varD 4) nilA))))) (varD 5))) (varD 7) [7])))))
def F_turning_deeds : List D → R D := defF 8 B_turning_deeds
def FL_turning_deeds : List D → R (List D) := defL 8 B_turning_deeds
def B_without_entry : Env → R Out :=
  (retS (callF 3 F_with_part (consA (varD 0) (consA (cD (.int 2)) (consA (lstD (compD (iterF (bin gIx (varD 0) (cD (.int 2)))) (tName 2) (blT (bin gNe (varD 2) (varD 1))) (varD 2) [2])) nilA)))))
def F_without_entry : List D → R D := defF 3 B_without_entry
def B_idle_entries : Env → R Out :=
  (seqS (dropS (callF 3 F_need_held (consA (varD 0) (consA (varD 1) (consA (varD 2) nilA)))))
    (seqS (setS 3 (callF 3 F_sights_in (consA (varD 0) (consA (varD 1) (consA (varD 2) nilA)))))
    (retL (compD (iterF (bin gIx (varD 2) (cD (.int 2)))) (tName 4) (blT (bin gEq (callF 3 F_sights_in (consA (varD 0) (consA (varD 1) (consA (callF 2 F_without_entry (consA (varD 2) (consA (varD 4) nilA))) nilA)))) (varD 3))) (varD 4) [4]))))
def F_idle_entries : List D → R D := defF 5 B_idle_entries
def FL_idle_entries : List D → R (List D) := defL 5 B_idle_entries
def B_seen_modes : Env → R Out :=
  (seqS (dropS (callF 1 F_need_house (consA (varD 0) nilA)))
    (seqS (dropS (callF 2 F_need_state (consA (varD 0) (consA (varD 1) nilA))))
    (seqS (dropS (callF 2 F_need_person (consA (varD 0) (consA (varD 2) nilA))))
    (seqS (dropS (callF 2 F_need_folder (consA (callF 1 F_size_of (consA (varD 0) nilA)) (consA (varD 3) nilA))))
    (seqS (setS 4 (lstD (compDN (iterF (cD (.tuple ((["bar", "near"] : List Str).map PyData.str)))) (tName 5) yesT 262144 [⟨(iterF (cD (.tuple ((["drops", "keeps"] : List Str).map PyData.str)))), (tName 6), yesT, [6, 7, 8], 4096⟩, ⟨(iterF (cD (.tuple ((["login", "now"] : List Str).map PyData.str)))), (tName 7), yesT, [7, 8], 64⟩, ⟨(iterF (tupD (consA (cD (.bool false)) (consA (cD (.bool true)) nilA)))), (tName 8), yesT, [8], 1⟩] (tupD (consA (varD 5) (consA (varD 6) (consA (varD 7) (consA (varD 8) nilA))))) [5, 6, 7, 8])))
    (retL (compD (iterF (varD 4)) (tName 9) (truT (callF 4 F_sees_in (consA (varD 9) (consA (varD 1) (consA (varD 2) (consA (varD 3) nilA)))))) (varD 9) [9])))))))
def F_seen_modes : List D → R D := defF 10 B_seen_modes
def FL_seen_modes : List D → R (List D) := defL 10 B_seen_modes
def B_telling_days : Env → R Out :=
  (retS (bin gAdd (lstD (dispL (consA (cD (.int 0)) nilA))) (lstD (compD2 (rngI (consA (cD (.int 1)) (consA (bin gAdd (cD (.int 112)) (cD (.int 1))) nilA))) (tName 0) yesT (iterF (tupD (consA (varD 0) (consA (un gNeg (varD 0)) nilA)))) (tName 1) yesT (varD 1) [0, 1] [1]))))
def F_telling_days : List D → R D := defF 2 B_telling_days
def B_later_days : Env → R Out :=
  (retS (bin gAdd (lstD (rng2 (varD 0) (bin gAdd (varD 0) (cD (.int 12))))) (lstD (rng2 (callD gMax (consA (bin gAdd (varD 0) (cD (.int 12))) (consA (un gNeg (cD (.int 100))) nilA))) (bin gAdd (cD (.int 112)) (cD (.int 1)))))))
def F_later_days : List D → R D := defF 1 B_later_days
def B_count_told : Env → R Out :=
  (seqS (ifS (blT (chainD gLe gLe (un gNeg (cD (.int 100))) (varD 0) (cD (.int 100))))
    (retS (callD gInt (consA (chainD gLe gLe (varD 1) (varD 0) (varD 2)) nilA)))
    passS)
    (seqS (ifS (blT (bin gGt (varD 0) (cD (.int 0))))
    (setS 1 (callD gMax (consA (varD 1) (consA (bin gAdd (cD (.int 100)) (cD (.int 1))) nilA))))
    (setS 2 (callD gMin (consA (varD 2) (consA (bin gSub (un gNeg (cD (.int 100))) (cD (.int 1))) nilA)))))
    (retS (callD gMax (consA (cD (.int 0)) (consA (bin gSub (bin gDiv (bin gSub (varD 2) (varD 0)) (cD (.int 12))) (bin gDiv (bin gSub (bin gSub (varD 1) (cD (.int 1))) (varD 0)) (cD (.int 12)))) nilA))))))
def F_count_told : List D → R D := defF 3 B_count_told
def B_day_of : Env → R Out :=
  (seqS (dropS (callF 2 F_need_plan (consA (varD 0) (consA (varD 1) nilA))))
    (seqS (dropS (callF 2 F_need_step (consA (varD 1) (consA (varD 2) nilA))))
    (seqS (dropS (callF 1 F_need_day (consA (varD 3) nilA)))
    (retS (callF 3 F_move (consA (callD gDict (consA (bin gIx (varD 0) (cD (.int 2))) nilA)) (consA (bin gIx (bin gIx (varD 1) (varD 2)) (cD (.int 1))) (consA (varD 3) nilA))))))))
def F_day_of : List D → R D := defF 4 B_day_of
def B_history : Env → R Out :=
  (seqS (dropS (callF 2 F_need_plan (consA (varD 0) (consA (varD 1) nilA))))
    (seqS (dropS (callF 1 F_need_day (consA (varD 2) nilA)))
    (retL (callL 3 FL_history_for (consA (varD 0) (consA (varD 1) (consA (varD 2) nilA)))))))
def F_history : List D → R D := defF 3 B_history
def FL_history : List D → R (List D) := defL 3 B_history
def B_latest_done : Env → R Out :=
  (seqS (dropS (callF 2 F_need_plan (consA (varD 0) (consA (varD 1) nilA))))
    (seqS (dropS (callF 1 F_need_day (consA (varD 2) nilA)))
    (seqS (setS 3 (callD gDict (consA (bin gIx (varD 0) (cD (.int 2))) nilA)))
    badS)))
def F_latest_done : List D → R D := defF 6 B_latest_done
def B_need_stretch : Env → R Out :=
  (seqS (dropS (callF 1 F_need_day (consA (varD 0) nilA)))
    (seqS (dropS (callF 1 F_need_day (consA (varD 1) nilA)))
    (ifS (blT (bin gLt (varD 1) (varD 0)))
    (raiseS "BadStretch" (cD (.str "the second day of a stretch is not earlier than the first one")))
    passS)))
def F_need_stretch : List D → R D := defF 2 B_need_stretch
def B_stretches : Env → R Out :=
  (seqS (dropS (callF 2 F_need_plan (consA (varD 0) (consA (varD 1) nilA))))
    (seqS (dropS (callF 2 F_need_stretch (consA (varD 2) (consA (varD 3) nilA))))
    (seqS (ifS (blT (bin gGt (varD 3) (bin gAdd (varD 2) (cD (.int 400)))))
    (raiseS "BadStretch" (jsD [(cD (.str "the second day of a stretch is at most ")), (fmtD (cD (.int 400))), (cD (.str " days later"))] Str.empty))
    passS)
    (seqS (setO 4 (dispL nilA))
    (seqS (forS (rngI (consA (varD 2) (consA (bin gAdd (varD 3) (cD (.int 1))) nilA))) (tName 5)
    (seqS (setS 6 (callF 3 F_order_for (consA (varD 0) (consA (varD 1) (consA (varD 5) nilA)))))
    (frzS 4 (ifS (andT (truT (varD 4)) (blT (bin gEq (bin gIx (ownIx 4 (un gNeg (cD (.int 1)))) (cD (.int 2))) (varD 6))))
    (putS 4 (tupD (consA (bin gIx (ownIx 4 (un gNeg (cD (.int 1)))) (cD (.int 0))) (consA (varD 5) (consA (varD 6) nilA)))) (un gNeg (cD (.int 1))))
    (appS 4 (tupD (consA (varD 5) (consA (varD 5) (consA (varD 6) nilA)))))))))
    (retO 4))))))
def F_stretches : List D → R D := defF 7 B_stretches
def FL_stretches : List D → R (List D) := defL 7 B_stretches
def B_next_change : Env → R Out :=
  (seqS (dropS (callF 2 F_need_plan (consA (varD 0) (consA (varD 1) nilA))))
    (seqS (dropS (callF 1 F_need_day (consA (varD 2) nilA)))
    (seqS (setS 3 (callF 3 F_order_for (consA (varD 0) (consA (varD 1) (consA (varD 2) nilA)))))
    (seqS (forS (iterF (callF 1 F_later_days (consA (varD 2) nilA))) (tName 4)
    (ifS (blT (bin gNe (callF 3 F_order_for (consA (varD 0) (consA (varD 1) (consA (varD 4) nilA)))) (varD 3)))
    (retS (varD 4))
    passS))
    (retS (cD .none))))))
def F_next_change : List D → R D := defF 5 B_next_change
def B_nearest_orders : Env → R Out :=
  (seqS (newX 2)
    (seqS (forS (iterF (callF 0 F_telling_days nilA)) (tName 3)
    (seqS (setS 4 (callF 3 F_order_for (consA (varD 0) (consA (varD 1) (consA (varD 3) nilA)))))
    (ifS (blT (inDS true 2 (varD 4)))
    (putDS 2 (varD 3) (varD 4))
    passS)))
    (retS (varD 2))))
def F_nearest_orders : List D → R D := defF 5 B_nearest_orders
def FL_nearest_orders : List D → R (List D) := defL 5 B_nearest_orders
def B_orders_ever : Env → R Out :=
  (seqS (dropS (callF 2 F_need_plan (consA (varD 0) (consA (varD 1) nilA))))
    (seqS (setS 2 (callF 2 F_nearest_orders (consA (varD 0) (consA (varD 1) nilA))))
    (retL (sortG (lstD (compD (iterK (varD 2)) (tName 3) yesT (tupD (consA (varD 3) (consA (bin gGetK (varD 2) (varD 3)) nilA))) [3]))))))
def F_orders_ever : List D → R D := defF 4 B_orders_ever
def FL_orders_ever : List D → R (List D) := defL 4 B_orders_ever
def B_need_order : Env → R Out :=
  (ifS (notT (andT (truT (isiD "tuple" (varD 1))) (andT (truT (callD gAll (consA (lstD (compD (iterF (varD 1)) (tName 2) yesT (callF 3 F_is_whole (consA (varD 2) (consA (cD (.int 0)) (consA (bin gSub (callD gLen (consA (varD 0) nilA)) (cD (.int 1))) nilA)))) [2])) nilA))) (blT (bin gEq (lstD (sortG (varD 1))) (lstD (rng1 (callD gLen (consA (varD 0) nilA)))))))))
    (raiseS "BadOrder" (cD (.str "an order is a tuple of the numbers of all steps, each once")))
    passS)
def F_need_order : List D → R D := defF 3 B_need_order
def B_days_with : Env → R Out :=
  (seqS (dropS (callF 2 F_need_plan (consA (varD 0) (consA (varD 1) nilA))))
    (seqS (dropS (callF 2 F_need_order (consA (varD 1) (consA (varD 2) nilA))))
    (seqS (dropS (callF 2 F_need_stretch (consA (varD 3) (consA (varD 4) nilA))))
    (seqS (setS 5 (lstD (compD (iterF (callF 0 F_telling_days nilA)) (tName 6) yesT (tupD (consA (varD 6) (consA (callF 3 F_count_told (consA (varD 6) (consA (varD 3) (consA (varD 4) nilA)))) nilA))) [6])))
    (retS (callD gSum (consA (lstD (compD (iterF (varD 5)) (tTup 2 (tCons (tName 6) (tCons (tName 7) tNil))) (andT (blT (bin gGt (varD 7) (cD (.int 0)))) (blT (bin gEq (callF 3 F_order_for (consA (varD 0) (consA (varD 1) (consA (varD 6) nilA)))) (varD 2)))) (varD 7) [6, 7])) nilA)))))))
def F_days_with : List D → R D := defF 8 B_days_with
def B_next_with : Env → R Out :=
  (seqS (dropS (callF 2 F_need_plan (consA (varD 0) (consA (varD 1) nilA))))
    (seqS (dropS (callF 2 F_need_order (consA (varD 1) (consA (varD 2) nilA))))
    (seqS (dropS (callF 1 F_need_day (consA (varD 3) nilA)))
    (seqS (forS (iterF (callF 1 F_later_days (consA (varD 3) nilA))) (tName 4)
    (ifS (blT (bin gEq (callF 3 F_order_for (consA (varD 0) (consA (varD 1) (consA (varD 4) nilA)))) (varD 2)))
    (retS (varD 4))
    passS))
    (retS (cD .none))))))
def F_next_with : List D → R D := defF 5 B_next_with
def B_need_two_steps : Env → R Out :=
  (seqS (dropS (callF 2 F_need_step (consA (varD 0) (consA (varD 1) nilA))))
    (seqS (dropS (callF 2 F_need_step (consA (varD 0) (consA (varD 2) nilA))))
    (ifS (blT (bin gEq (varD 1) (varD 2)))
    (raiseS "BadStep" (cD (.str "the two steps are to be unlike")))
    passS)))
def F_need_two_steps : List D → R D := defF 3 B_need_two_steps
def B_ahead_word : Env → R Out :=
  (seqS (dropS (callF 2 F_need_plan (consA (varD 0) (consA (varD 1) nilA))))
    (seqS (dropS (callF 3 F_need_two_steps (consA (varD 1) (consA (varD 2) (consA (varD 3) nilA)))))
    (seqS (setS 4 (callD gDict (consA (bin gIx (varD 0) (cD (.int 2))) nilA)))
    (seqS (setO 5 (dispL nilA))
    (seqS (forS (iterF (callF 0 F_telling_days nilA)) (tName 6)
    (seqS (setS 7 (bin gLt (tupD (consA (callF 3 F_move (consA (varD 4) (consA (bin gIx (bin gIx (varD 1) (varD 2)) (cD (.int 1))) (consA (varD 6) nilA)))) (consA (varD 2) nilA))) (tupD (consA (callF 3 F_move (consA (varD 4) (consA (bin gIx (bin gIx (varD 1) (varD 3)) (cD (.int 1))) (consA (varD 6) nilA)))) (consA (varD 3) nilA)))))
    (ifS (blT (ownIn true 5 (varD 7)))
    (appS 5 (varD 7))
    passS)))
    (seqS (ifS (blT (bin gEq (ownLen 5) (cD (.int 2))))
    (retS (cD (.str "sometimes")))
    passS)
    (retS (ifD (truT (ownIx 5 (cD (.int 0)))) (cD (.str "always")) (cD (.str "never"))))))))))
def F_ahead_word : List D → R D := defF 8 B_ahead_word
def B_ahead_anyhow : Env → R Out :=
  (seqS (dropS (callF 2 F_need_plan (consA (varD 0) (consA (varD 1) nilA))))
    (seqS (dropS (callF 3 F_need_two_steps (consA (varD 1) (consA (varD 2) (consA (varD 3) nilA)))))
    (seqS (setS 4 (bin gAdd (bin gIx (bin gIx (varD 1) (varD 2)) (cD (.int 1))) (ifD (blT (bin gLt (varD 2) (varD 3))) (tupD nilA) (tupD (consA (cD (.str "+")) nilA)))))
    (retS (bin gIsNot (callF 2 F_spell (consA (callF 1 F_reduce_letters (consA (varD 4) nilA)) (consA (bin gIx (bin gIx (varD 1) (varD 3)) (cD (.int 1))) nilA))) (cD .none))))))
def F_ahead_anyhow : List D → R D := defF 5 B_ahead_anyhow
def B_state_at : Env → R Out :=
  (seqS (dropS (callF 4 F_need_moment (consA (varD 0) (consA (varD 1) (consA (varD 2) (consA (varD 3) nilA))))))
    (seqS (asgS (bin gIx (callF 3 F_worlds_along (consA (varD 0) (consA (varD 1) (consA (callF 3 F_order_for (consA (varD 0) (consA (varD 1) (consA (varD 2) nilA)))) nilA)))) (varD 3)) (tTup 2 (tCons (tName 4) (tCons (tName 5) tNil))))
    (retS (varD 4))))
def F_state_at : List D → R D := defF 6 B_state_at
def B_day_at : Env → R Out :=
  (seqS (dropS (callF 4 F_need_moment (consA (varD 0) (consA (varD 1) (consA (varD 2) (consA (varD 3) nilA))))))
    (retS (ifD (blT (bin gGt (varD 3) (cD (.int 0)))) (bin gIx (bin gIx (callF 3 F_history_for (consA (varD 0) (consA (varD 1) (consA (varD 2) nilA)))) (bin gSub (varD 3) (cD (.int 1)))) (cD (.int 0))) (cD .none))))
def F_day_at : List D → R D := defF 4 B_day_at
def B_sources_seen : Env → R Out :=
  (seqS (asgS (varD 2) (tTup 4 (tCons (tName 3) (tCons (tName 4) (tCons (tName 5) (tCons (tName 6) tNil))))))
    (seqS (asgS (varD 1) (tTup 2 (tCons (tName 7) (tCons (tName 8) tNil))))
    (retS (ifD (truT (callF 4 F_sees_in (consA (bin gIx (varD 0) (cD (.int 1))) (consA (varD 7) (consA (varD 4) (consA (varD 5) nilA)))))) (bin gIx (bin gIx (varD 8) (varD 6)) (varD 5)) (cD .none)))))
def F_sources_seen : List D → R D := defF 9 B_sources_seen
def B_outcome : Env → R Out :=
  (seqS (newX 4)
    (seqS (forS (iterF (varD 3)) (tName 5)
    (seqS (setS 6 (bin gIx (bin gIx (varD 1) (varD 5)) (cD (.int 0))))
    (seqS (ifS (blT (bin gEq (bin gIx (varD 6) (cD (.int 0))) (cD (.str "look"))))
    (putDS 4 (callF 3 F_sources_seen (consA (varD 0) (consA (varD 2) (consA (varD 6) nilA)))) (varD 5))
    passS)
    (setS 2 (callF 4 F_world_behind (consA (varD 0) (consA (varD 2) (consA (varD 6) (consA (varD 5) nilA)))))))))
    (frzDS 4 (retS (tupD (consA (varD 2) (consA (varD 4) nilA)))))))
def F_outcome : List D → R D := defF 7 B_outcome
def B_swap_steps : Env → R Out :=
  (seqS (dropS (callF 2 F_need_plan (consA (varD 0) (consA (varD 1) nilA))))
    (seqS (dropS (callF 1 F_need_day (consA (varD 2) nilA)))
    (seqS (setS 3 (callF 3 F_order_for (consA (varD 0) (consA (varD 1) (consA (varD 2) nilA)))))
    (seqS (setS 4 (callF 3 F_worlds_along (consA (varD 0) (consA (varD 1) (consA (varD 3) nilA)))))
    (seqS (setO 5 (dispL nilA))
    (seqS (forS (rngI (consA (bin gSub (callD gLen (consA (varD 3) nilA)) (cD (.int 1))) nilA)) (tName 6)
    (seqS (setS 7 (slD gSl (varD 3) (part (varD 6)) (part (bin gAdd (varD 6) (cD (.int 2))))))
    (ifS (blT (bin gEq (callF 4 F_outcome (consA (varD 0) (consA (varD 1) (consA (bin gIx (varD 4) (varD 6)) (consA (varD 7) nilA))))) (callF 4 F_outcome (consA (varD 0) (consA (varD 1) (consA (bin gIx (varD 4) (varD 6)) (consA (un gRevT (varD 7)) nilA)))))))
    (appS 5 (varD 7))
    passS)))
    (frzS 5 (retL (sortG (varD 5))))))))))
def F_swap_steps : List D → R D := defF 8 B_swap_steps
def FL_swap_steps : List D → R (List D) := defL 8 B_swap_steps
def B_alike_days : Env → R Out :=
  (seqS (dropS (callF 2 F_need_plan (consA (varD 0) (consA (varD 1) nilA))))
    (seqS (dropS (callF 1 F_need_day (consA (varD 2) nilA)))
    (seqS (dropS (callF 1 F_need_day (consA (varD 3) nilA)))
    (seqS (setS 4 (lstD (compD (iterF (tupD (consA (varD 2) (consA (varD 3) nilA)))) (tName 5) yesT (bin gIx (callF 3 F_worlds_along (consA (varD 0) (consA (varD 1) (consA (callF 3 F_order_for (consA (varD 0) (consA (varD 1) (consA (varD 5) nilA)))) nilA)))) (un gNeg (cD (.int 1)))) [5])))
    (retS (bin gEq (bin gIx (varD 4) (cD (.int 0))) (bin gIx (varD 4) (cD (.int 1)))))))))
def F_alike_days : List D → R D := defF 6 B_alike_days
def B_need_watch : Env → R Out :=
  (seqS (dropS (callF 2 F_need_plan (consA (varD 0) (consA (varD 1) nilA))))
    (seqS (dropS (callF 1 F_need_day (consA (varD 2) nilA)))
    (seqS (dropS (callF 2 F_need_person (consA (bin gIx (varD 0) (cD (.int 0))) (consA (varD 3) nilA))))
    (dropS (callF 1 F_need_path (consA (varD 4) nilA))))))
def F_need_watch : List D → R D := defF 5 B_need_watch
def B_views_along : Env → R Out :=
  (retL (compD2 (enumF (varD 1)) (tTup 2 (tCons (tName 4) (tCons (tTup 2 (tCons (tName 5) (tCons (tName 6) tNil))) tNil))) yesT (rngI (consA (callF 1 F_size_of (consA (bin gIx (varD 0) (cD (.int 0))) nilA)) nilA)) (tName 7) (truT (callF 4 F_sees_in (consA (bin gIx (varD 0) (cD (.int 1))) (consA (varD 5) (consA (varD 2) (consA (varD 7) nilA)))))) (tupD (consA (varD 4) (consA (varD 7) (consA (bin gIx (bin gIx (varD 6) (varD 3)) (varD 7)) nilA)))) [4, 5, 6, 7] [7]))
def F_views_along : List D → R D := defF 8 B_views_along
def FL_views_along : List D → R (List D) := defL 8 B_views_along
def B_sights_along : Env → R Out :=
  (seqS (setS 4 (callF 4 F_views_along (consA (varD 0) (consA (varD 1) (consA (varD 2) (consA (varD 3) nilA))))))
    (retL (sortG (lstD (compD2 (iterF (varD 4)) (tTup 3 (tCons (tName 5) (tCons (tName 6) (tCons (tName 7) tNil)))) yesT (iterF (varD 7)) (tName 8) yesT (tupD (consA (varD 8) (consA (varD 5) (consA (varD 6) nilA)))) [5, 6, 7, 8] [8])))))
def F_sights_along : List D → R D := defF 9 B_sights_along
def FL_sights_along : List D → R (List D) := defL 9 B_sights_along
def B_sights : Env → R Out :=
  (seqS (dropS (callF 5 F_need_watch (consA (varD 0) (consA (varD 1) (consA (varD 2) (consA (varD 3) (consA (varD 4) nilA)))))))
    (seqS (setS 5 (callF 3 F_worlds_along (consA (varD 0) (consA (varD 1) (consA (callF 3 F_order_for (consA (varD 0) (consA (varD 1) (consA (varD 2) nilA)))) nilA)))))
    (retL (callL 4 FL_sights_along (consA (varD 0) (consA (varD 5) (consA (varD 3) (consA (varD 4) nilA))))))))
def F_sights : List D → R D := defF 6 B_sights
def FL_sights : List D → R (List D) := defL 6 B_sights
def B_sure_sights : Env → R Out :=
  (seqS (dropS (callF 5 F_need_watch (consA (varD 0) (consA (varD 1) (consA (varD 2) (consA (varD 3) (consA (varD 4) nilA)))))))
    (seqS (setS 5 (callF 3 F_worlds_along (consA (varD 0) (consA (varD 1) (consA (callF 3 F_order_for (consA (varD 0) (consA (varD 1) (consA (varD 2) nilA)))) nilA)))))
    (seqS (setS 6 (callF 4 F_views_along (consA (varD 0) (consA (varD 5) (consA (varD 3) (consA (varD 4) nilA))))))
    (retL (sortG (lstD (compD (iterF (varD 6)) (tTup 3 (tCons (tName 7) (tCons (tName 8) (tCons (tName 9) tNil)))) (truT (varD 9)) (tupD (consA (bin gIx (varD 9) (cD (.int 0))) (consA (varD 7) (consA (varD 8) nilA)))) [7, 8, 9])))))))
def F_sure_sights : List D → R D := defF 10 B_sure_sights
def FL_sure_sights : List D → R (List D) := defL 10 B_sure_sights
def B_need_sourceS : Env → R Out :=
  (ifS (notT (truT (callF 4 F_is_source (consA (callF 1 F_size_of (consA (bin gIx (varD 0) (cD (.int 0))) nilA)) (consA (lstD (compD (iterF (varD 1)) (tTup 2 (tCons (tName 4) (tCons (tName 5) tNil))) yesT (varD 4) [4, 5])) (consA (varD 2) (consA (varD 3) nilA)))))))
    (raiseS "BadSource" (cD (.str "a source is the first paper of a folder, or one written at the path by a step of the plan")))
    passS)
def F_need_sourceS : List D → R D := defF 6 B_need_sourceS
def B_sees_source : Env → R Out :=
  (seqS (setS 6 (callF 4 F_views_along (consA (varD 0) (consA (callF 3 F_worlds_along (consA (varD 0) (consA (varD 1) (consA (varD 2) nilA)))) (consA (varD 3) (consA (varD 4) nilA))))))
    (retS (callD gAny (consA (lstD (compD (iterF (varD 6)) (tTup 3 (tCons (tName 7) (tCons (tName 7) (tCons (tName 8) tNil)))) yesT (bin gInA (varD 5) (varD 8)) [7, 7, 8])) nilA))))
def F_sees_source : List D → R D := defF 9 B_sees_source
def B_can_see : Env → R Out :=
  (seqS (dropS (callF 5 F_need_watch (consA (varD 0) (consA (varD 1) (consA (varD 2) (consA (varD 3) (consA (varD 4) nilA)))))))
    (seqS (dropS (callF 4 F_need_sourceS (consA (varD 0) (consA (varD 1) (consA (varD 4) (consA (varD 5) nilA))))))
    (retS (callF 6 F_sees_source (consA (varD 0) (consA (varD 1) (consA (callF 3 F_order_for (consA (varD 0) (consA (varD 1) (consA (varD 2) nilA)))) (consA (varD 3) (consA (varD 4) (consA (varD 5) nilA))))))))))
def F_can_see : List D → R D := defF 6 B_can_see
def B_need_look : Env → R Out :=
  (seqS (dropS (callF 2 F_need_step (consA (varD 0) (consA (varD 1) nilA))))
    (ifS (blT (bin gNe (bin gIx (bin gIx (bin gIx (varD 0) (varD 1)) (cD (.int 0))) (cD (.int 0))) (cD (.str "look"))))
    (raiseS "BadStep" (cD (.str "the step has to be a look")))
    passS))
def F_need_look : List D → R D := defF 2 B_need_look
def B_looks_along : Env → R Out :=
  (seqS (setS 3 (callF 3 F_worlds_along (consA (varD 0) (consA (varD 1) (consA (varD 2) nilA)))))
    (retS (dicD (compX (zipG (consA (varD 3) (consA (varD 2) nilA))) (tTup 2 (tCons (tName 4) (tCons (tName 5) tNil))) (blT (bin gEq (bin gIx (bin gIx (bin gIx (varD 1) (varD 5)) (cD (.int 0))) (cD (.int 0))) (cD (.str "look")))) (varD 5) (callF 3 F_sources_seen (consA (varD 0) (consA (varD 4) (consA (bin gIx (bin gIx (varD 1) (varD 5)) (cD (.int 0))) nilA)))) [4, 5]))))
def F_looks_along : List D → R D := defF 6 B_looks_along
def B_all_contents : Env → R Out :=
  (seqS (setS 1 (lstD (dispL (consA (tupD nilA) nilA))))
    (seqS (forS (rngI (consA (varD 0) nilA)) (tName 2)
    (setS 1 (bin gAdd (varD 1) (lstD (compD (iterF (varD 1)) (tName 3) yesT (bin gAdd (varD 3) (tupD (consA (varD 2) nilA))) [3])))))
    (retL (sortG (varD 1)))))
def F_all_contents : List D → R D := defF 4 B_all_contents
def FL_all_contents : List D → R (List D) := defL 4 B_all_contents
def B_alike_contents : Env → R Out :=
  (seqS (dropS (callF 5 F_need_watch (consA (varD 0) (consA (varD 1) (consA (varD 2) (consA (varD 3) (consA (varD 4) nilA)))))))
    (seqS (setS 6 (callF 1 F_size_of (consA (bin gIx (varD 0) (cD (.int 0))) nilA)))
    (seqS (dropS (callF 2 F_need_contents (consA (varD 6) (consA (varD 5) nilA))))
    (seqS (setS 7 (callF 3 F_worlds_along (consA (varD 0) (consA (varD 1) (consA (callF 3 F_order_for (consA (varD 0) (consA (varD 1) (consA (varD 2) nilA)))) nilA)))))
    (seqS (setS 8 (lstD (compD (iterF (callF 4 F_views_along (consA (varD 0) (consA (varD 7) (consA (varD 3) (consA (varD 4) nilA)))))) (tTup 3 (tCons (tName 10) (tCons (tName 10) (tCons (tName 11) tNil)))) yesT (varD 11) [10, 10, 11])))
    (seqS (setS 9 (callF 2 F_papers_of (consA (varD 8) (consA (varD 5) nilA))))
    (retL (compD (iterF (callF 1 F_all_contents (consA (varD 6) nilA))) (tName 12) (blT (bin gEq (callF 2 F_papers_of (consA (varD 8) (consA (varD 12) nilA))) (varD 9))) (varD 12) [12]))))))))
def F_alike_contents : List D → R D := defF 13 B_alike_contents
def FL_alike_contents : List D → R (List D) := defL 13 B_alike_contents
def B_need_looking : Env → R Out :=
  (seqS (dropS (callF 2 F_need_plan (consA (varD 0) (consA (varD 1) nilA))))
    (seqS (dropS (callF 1 F_need_day (consA (varD 2) nilA)))
    (dropS (callF 2 F_need_look (consA (varD 1) (consA (varD 3) nilA))))))
def F_need_looking : List D → R D := defF 4 B_need_looking
def B_look_sources : Env → R Out :=
  (seqS (dropS (callF 4 F_need_looking (consA (varD 0) (consA (varD 1) (consA (varD 2) (consA (varD 3) nilA))))))
    (retS (bin gIx (callF 3 F_looks_along (consA (varD 0) (consA (varD 1) (consA (callF 3 F_order_for (consA (varD 0) (consA (varD 1) (consA (varD 2) nilA)))) nilA)))) (varD 3))))
def F_look_sources : List D → R D := defF 4 B_look_sources
def B_look_shows : Env → R Out :=
  (seqS (dropS (callF 4 F_need_looking (consA (varD 0) (consA (varD 1) (consA (varD 2) (consA (varD 3) nilA))))))
    (seqS (dropS (callF 2 F_need_contents (consA (callF 1 F_size_of (consA (bin gIx (varD 0) (cD (.int 0))) nilA)) (consA (varD 4) nilA))))
    (seqS (setS 5 (bin gIx (callF 3 F_looks_along (consA (varD 0) (consA (varD 1) (consA (callF 3 F_order_for (consA (varD 0) (consA (varD 1) (consA (varD 2) nilA)))) nilA)))) (varD 3)))
    (retS (ifD (blT (bin gIs (varD 5) (cD .none))) (cD .none) (callF 2 F_first_there (consA (varD 5) (consA (varD 4) nilA))))))))
def F_look_shows : List D → R D := defF 6 B_look_shows
def B_standing_after : Env → R Out :=
  (seqS (asgS (callF 2 F_script_of (consA (varD 1) (consA (varD 2) nilA))) (tTup 2 (tCons (tName 5) (tCons (tName 6) tNil))))
    (seqS (setS 7 (callF 3 F_lists_through (consA (callF 1 F_size_of (consA (bin gIx (varD 0) (cD (.int 0))) nilA)) (consA (varD 5) (consA (varD 3) nilA)))))
    (retS (tupD (consA (varD 5) (consA (varD 6) (consA (lstD (compD (iterF (varD 7)) (tName 8) yesT (callF 2 F_papers_of (consA (varD 8) (consA (varD 4) nilA))) [8])) nilA)))))))
def F_standing_after : List D → R D := defF 9 B_standing_after
def B_at_place : Env → R Out :=
  (seqS (asgS (varD 0) (tTup 2 (tCons (tName 2) (tCons (tName 3) tNil))))
    (retS (ifD (blT (bin gEq (varD 2) (cD (.str "first")))) (varD 0) (tupD (consA (varD 2) (consA (ownIndex 1 (varD 3)) nilA))))))
def F_at_place : List D → R D := defF 4 B_at_place
def B_trail_of : Env → R Out :=
  (seqS (asgS (callF 5 F_standing_after (consA (varD 0) (consA (varD 1) (consA (varD 2) (consA (varD 3) (consA (varD 6) nilA)))))) (tTup 3 (tCons (tName 7) (tCons (tName 8) (tCons (tName 9) tNil)))))
    (seqS (setS 10 (callF 4 F_least_trail (consA (varD 7) (consA (varD 9) (consA (varD 4) (consA (callF 2 F_at_place (consA (varD 5) (consA (varD 8) nilA))) nilA))))))
    (retS (callD gTuple (consA (lstD (compD (iterF (varD 10)) (tName 11) yesT (bin gIx (varD 8) (varD 11)) [11])) nilA)))))
def F_trail_of : List D → R D := defF 12 B_trail_of
def B_sight_paper : Env → R Out :=
  (seqS (dropS (callF 5 F_need_watch (consA (varD 0) (consA (varD 1) (consA (varD 2) (consA (varD 3) (consA (varD 4) nilA)))))))
    (seqS (dropS (callF 4 F_need_sourceS (consA (varD 0) (consA (varD 1) (consA (varD 4) (consA (varD 5) nilA))))))
    (seqS (setS 6 (callF 3 F_order_for (consA (varD 0) (consA (varD 1) (consA (varD 2) nilA)))))
    (seqS (setS 7 (callF 3 F_worlds_along (consA (varD 0) (consA (varD 1) (consA (varD 6) nilA)))))
    (seqS (forS (iterF (callF 4 F_views_along (consA (varD 0) (consA (varD 7) (consA (varD 3) (consA (varD 4) nilA)))))) (tTup 3 (tCons (tName 8) (tCons (tName 9) (tCons (tName 10) tNil))))
    (ifS (blT (bin gInA (varD 5) (varD 10)))
    (seqS (setS 11 (callF 1 F_contents_of (consA (varD 5) nilA)))
    (seqS (setS 12 (callF 7 F_trail_of (consA (varD 0) (consA (varD 1) (consA (slD gSl (varD 6) noPart (part (varD 8))) (consA (varD 4) (consA (varD 9) (consA (varD 5) (consA (varD 11) nilA)))))))))
    (seqS (asgS (bin gIx (varD 7) (varD 8)) (tTup 2 (tCons (tName 13) (tCons (tName 14) tNil))))
    (retS (tupD (consA (varD 8) (consA (varD 9) (consA (varD 11) (consA (varD 12) (consA (callF 4 F_find_reason (consA (bin gIx (varD 0) (cD (.int 1))) (consA (varD 13) (consA (varD 3) (consA (varD 9) nilA))))) nilA))))))))))
    passS))
    (retS (cD .none)))))))
def F_sight_paper : List D → R D := defF 15 B_sight_paper
def B_is_trail_of : Env → R Out :=
  (seqS (asgS (callF 5 F_standing_after (consA (varD 0) (consA (varD 1) (consA (varD 2) (consA (varD 3) (consA (varD 6) nilA)))))) (tTup 3 (tCons (tName 8) (tCons (tName 9) (tCons (tName 10) tNil)))))
    (seqS (ifS (notT (andT (truT (isiD "tuple" (varD 7))) (truT (callD gAll (consA (lstD (compD (iterF (varD 7)) (tName 12) yesT (andD (callF 3 F_is_whole (consA (varD 12) (consA (cD (.int 0)) (consA (bin gSub (callD gLen (consA (varD 1) nilA)) (cD (.int 1))) nilA)))) (bin gInA (varD 12) (varD 9))) [12])) nilA)))))
    (retS (cD (.bool false)))
    passS)
    (seqS (ifS (andT (blT (bin gEq (bin gIx (varD 5) (cD (.int 0))) (cD (.str "written")))) (blT (bin gNotInA (bin gIx (varD 5) (cD (.int 1))) (varD 9))))
    (retS (cD (.bool false)))
    passS)
    (seqS (setS 11 (callD gTuple (consA (lstD (compD (iterF (varD 7)) (tName 12) yesT (ownIndex 9 (varD 12)) [12])) nilA)))
    (retS (callF 5 F_is_trail (consA (varD 8) (consA (varD 10) (consA (varD 4) (consA (callF 2 F_at_place (consA (varD 5) (consA (varD 9) nilA))) (consA (varD 11) nilA)))))))))))
def F_is_trail_of : List D → R D := defF 13 B_is_trail_of
def B_sight_holds : Env → R Out :=
  (seqS (dropS (callF 5 F_need_watch (consA (varD 0) (consA (varD 1) (consA (varD 2) (consA (varD 3) (consA (varD 4) nilA)))))))
    (seqS (dropS (callF 4 F_need_sourceS (consA (varD 0) (consA (varD 1) (consA (varD 4) (consA (varD 5) nilA))))))
    (seqS (ifS (notT (andT (truT (isiD "tuple" (varD 6))) (blT (bin gEq (callD gLen (consA (varD 6) nilA)) (cD (.int 5))))))
    (retS (cD (.bool false)))
    passS)
    (seqS (asgS (varD 6) (tTup 5 (tCons (tName 7) (tCons (tName 8) (tCons (tName 9) (tCons (tName 10) (tCons (tName 11) tNil)))))))
    (seqS (setS 12 (callF 1 F_size_of (consA (bin gIx (varD 0) (cD (.int 0))) nilA)))
    (seqS (ifS (notT (andT (truT (callF 3 F_is_whole (consA (varD 7) (consA (cD (.int 0)) (consA (callD gLen (consA (varD 1) nilA)) nilA))))) (andT (truT (callF 2 F_is_folder (consA (varD 12) (consA (varD 8) nilA)))) (truT (callF 2 F_is_contents (consA (varD 12) (consA (varD 9) nilA)))))))
    (retS (cD (.bool false)))
    passS)
    (seqS (setS 13 (slD gSl (callF 3 F_order_for (consA (varD 0) (consA (varD 1) (consA (varD 2) nilA)))) noPart (part (varD 7))))
    (seqS (asgS (bin gIx (callF 3 F_worlds_along (consA (varD 0) (consA (varD 1) (consA (varD 13) nilA)))) (un gNeg (cD (.int 1)))) (tTup 2 (tCons (tName 14) (tCons (tName 15) tNil))))
    (retS (andD (callF 8 F_is_trail_of (consA (varD 0) (consA (varD 1) (consA (varD 13) (consA (varD 4) (consA (varD 8) (consA (varD 5) (consA (varD 9) (consA (varD 10) nilA))))))))) (andD (callF 6 F_is_reason (consA (bin gIx (varD 0) (cD (.int 0))) (consA (bin gIx (varD 0) (cD (.int 1))) (consA (varD 14) (consA (varD 3) (consA (varD 8) (consA (varD 11) nilA))))))) (bin gEq (bin gIx (varD 11) (cD (.int 0))) (cD (.str "sees"))))))))))))))
def F_sight_holds : List D → R D := defF 16 B_sight_holds
def B_need_watched : Env → R Out :=
  (seqS (dropS (callF 2 F_need_person (consA (bin gIx (varD 0) (cD (.int 0))) (consA (varD 2) nilA))))
    (seqS (dropS (callF 1 F_need_path (consA (varD 3) nilA)))
    (dropS (callF 4 F_need_sourceS (consA (varD 0) (consA (varD 1) (consA (varD 3) (consA (varD 4) nilA))))))))
def F_need_watched : List D → R D := defF 5 B_need_watched
def B_ever_sees : Env → R Out :=
  (seqS (dropS (callF 2 F_need_plan (consA (varD 0) (consA (varD 1) nilA))))
    (seqS (dropS (callF 5 F_need_watched (consA (varD 0) (consA (varD 1) (consA (varD 2) (consA (varD 3) (consA (varD 4) nilA)))))))
    (seqS (newX 5)
    (seqS badS
    (seqS (ifS (blT (bin gEq (callD gLen (consA (varD 5) nilA)) (cD (.int 2))))
    (retS (tupD (consA (cD (.str "sometimes")) (consA (getDS 5 (cD (.bool true))) (consA (getDS 5 (cD (.bool false))) nilA)))))
    passS)
    badS)))))
def F_ever_sees : List D → R D := defF 9 B_ever_sees
def B_ever_look : Env → R Out :=
  (seqS (dropS (callF 2 F_need_plan (consA (varD 0) (consA (varD 1) nilA))))
    (seqS (dropS (callF 2 F_need_look (consA (varD 1) (consA (varD 2) nilA))))
    (seqS (newX 3)
    (seqS badS
    (seqS (setS 7 (ifD (blT (inDS false 3 (cD .none))) (lstD (dispL (consA (tupD (consA (cD .none) (consA (getDS 3 (cD .none)) nilA))) nilA))) (lstD (dispL nilA))))
    (retS (bin gAdd (varD 7) (lstD (sortG (lstD (compD (iterK (varD 3)) (tName 6) (blT (bin gIsNot (varD 6) (cD .none))) (tupD (consA (varD 6) (consA (getDS 3 (varD 6)) nilA))) [6])))))))))))
def F_ever_look : List D → R D := defF 8 B_ever_look
def B_cuts_of : Env → R Out :=
  (seqS (setS 2 (lstD (compD (rngI (consA (callD gLen (consA (varD 0) nilA)) nilA)) (tName 4) (blT (bin gNe (varD 4) (varD 1))) (varD 4) [4])))
    (seqS (setS 3 (lstD (compD2 (iterF (varD 2)) (tName 4) yesT (iterF (varD 2)) (tName 5) (blT (bin gLt (varD 4) (varD 5))) (tupD (consA (varD 4) (consA (varD 5) nilA))) [4, 5] [5])))
    (retL (dispL (consA (lstD (dispL (consA (tupD nilA) nilA))) (consA (lstD (compD (iterF (varD 2)) (tName 4) yesT (tupD (consA (varD 4) nilA)) [4])) (consA (varD 3) nilA)))))))
def F_cuts_of : List D → R D := defF 6 B_cuts_of
def FL_cuts_of : List D → R (List D) := defL 6 B_cuts_of
def B_without : Env → R Out :=
  (retS (callD gTuple (consA (lstD (compD (iterF (varD 0)) (tName 2) (blT (bin gNotInA (varD 2) (varD 1))) (varD 2) [2])) nilA)))
def F_without : List D → R D := defF 3 B_without
def B_least_cuts : Env → R Out :=
  (seqS (dropS (callF 2 F_need_plan (consA (varD 0) (consA (varD 1) nilA))))
    (seqS (dropS (callF 1 F_need_day (consA (varD 2) nilA)))
    (seqS (dropS (callF 5 F_need_watched (consA (varD 0) (consA (varD 1) (consA (varD 3) (consA (varD 4) (consA (varD 5) nilA)))))))
    (seqS (setS 6 (callF 3 F_order_for (consA (varD 0) (consA (varD 1) (consA (varD 2) nilA)))))
    (seqS (setS 7 (ifD (blT (bin gEq (bin gIx (varD 5) (cD (.int 0))) (cD (.str "written")))) (bin gIx (varD 5) (cD (.int 1))) (cD .none)))
    (seqS (forS (iterF (callF 2 F_cuts_of (consA (varD 1) (consA (varD 7) nilA)))) (tName 8)
    (seqS (setS 9 (lstD (compD (iterF (varD 8)) (tName 10) (notT (truT (callF 6 F_sees_source (consA (varD 0) (consA (varD 1) (consA (callF 2 F_without (consA (varD 6) (consA (varD 10) nilA))) (consA (varD 3) (consA (varD 4) (consA (varD 5) nilA))))))))) (varD 10) [10])))
    (ifS (truT (varD 9))
    (retS (varD 9))
    passS)))
    (retL (dispL nilA))))))))
def F_least_cuts : List D → R D := defF 11 B_least_cuts
def B_idle_in : Env → R Out :=
  (seqS (setS 3 (callF 3 F_looks_along (consA (varD 0) (consA (varD 1) (consA (varD 2) nilA)))))
    (seqS (setS 4 (lstD (compD (rngI (consA (callD gLen (consA (varD 1) nilA)) nilA)) (tName 5) (blT (bin (gInK true) (varD 5) (varD 3))) (varD 5) [5])))
    (retL (compD (iterF (varD 4)) (tName 5) (blT (bin gEq (callF 3 F_looks_along (consA (varD 0) (consA (varD 1) (consA (callF 2 F_without (consA (varD 2) (consA (tupD (consA (varD 5) nilA)) nilA))) nilA)))) (varD 3))) (varD 5) [5]))))
def F_idle_in : List D → R D := defF 6 B_idle_in
def FL_idle_in : List D → R (List D) := defL 6 B_idle_in
def B_idle_steps : Env → R Out :=
  (seqS (dropS (callF 2 F_need_plan (consA (varD 0) (consA (varD 1) nilA))))
    (seqS (dropS (callF 1 F_need_day (consA (varD 2) nilA)))
    (retL (callL 3 FL_idle_in (consA (varD 0) (consA (varD 1) (consA (callF 3 F_order_for (consA (varD 0) (consA (varD 1) (consA (varD 2) nilA)))) nilA)))))))
def F_idle_steps : List D → R D := defF 3 B_idle_steps
def FL_idle_steps : List D → R (List D) := defL 3 B_idle_steps
def B_ever_idle : Env → R Out :=
  (seqS (dropS (callF 2 F_need_plan (consA (varD 0) (consA (varD 1) nilA))))
    (seqS (setS 2 (lstD (compD (iterF (callF 2 F_nearest_orders (consA (varD 0) (consA (varD 1) nilA)))) (tName 3) yesT (callF 3 F_idle_in (consA (varD 0) (consA (varD 1) (consA (varD 3) nilA)))) [3])))
    (retL (compD (rngI (consA (callD gLen (consA (varD 1) nilA)) nilA)) (tName 4) (truT (callD gAll (consA (lstD (compD (iterF (varD 2)) (tName 5) yesT (bin gInA (varD 4) (varD 5)) [5])) nilA))) (varD 4) [4]))))
def F_ever_idle : List D → R D := defF 6 B_ever_idle
def FL_ever_idle : List D → R (List D) := defL 6 B_ever_idle
def B_is_kept_paper : Env → R Out :=
  (retS (andD (callF 1 F_is_pair (consA (varD 2) nilA)) (andD (callF 3 F_is_whole (consA (bin gIx (varD 2) (cD (.int 0))) (consA (cD (.int 0)) (consA (bin gSub (callD gLen (consA (varD 1) nilA)) (cD (.int 1))) nilA)))) (andD (bin gInA (bin gIx (varD 2) (cD (.int 0))) (callF 1 F_writes_of (consA (varD 1) nilA))) (callF 2 F_is_route_of (consA (bin gIx (varD 0) (cD (.int 2))) (consA (bin gIx (varD 2) (cD (.int 1))) nilA)))))))
def F_is_kept_paper : List D → R D := defF 3 B_is_kept_paper
def B_need_keep : Env → R Out :=
  (seqS (dropS (callF 2 F_need_plan (consA (varD 0) (consA (varD 1) nilA))))
    (ifS (notT (andT (truT (isiD "tuple" (varD 2))) (andT (truT (callD gAll (consA (lstD (compD (iterF (varD 2)) (tName 3) yesT (callF 3 F_is_kept_paper (consA (varD 0) (consA (varD 1) (consA (varD 3) nilA)))) [3])) nilA))) (truT (callF 1 F_is_rising (consA (lstD (compD (iterF (varD 2)) (tName 3) yesT (bin gIx (varD 3) (cD (.int 0))) [3])) nilA))))))
    (raiseS "BadKeep" (cD (.str "a keep is a tuple, ascending, of tuples of the number of a writing and a route")))
    passS))
def F_need_keep : List D → R D := defF 4 B_need_keep
def B_need_kept : Env → R Out :=
  (seqS (dropS (callF 3 F_need_keep (consA (varD 0) (consA (varD 1) (consA (varD 2) nilA)))))
    (seqS (ifS (notT (andT (truT (callF 3 F_is_whole (consA (varD 3) (consA (cD (.int 0)) (consA (bin gSub (callD gLen (consA (varD 1) nilA)) (cD (.int 1))) nilA))))) (blT (bin gInA (varD 3) (callD gDict (consA (varD 2) nilA))))))
    (raiseS "BadStep" (cD (.str "the step has to be one in the keep")))
    passS)
    (dropS (callF 1 F_need_day (consA (varD 4) nilA)))))
def F_need_kept : List D → R D := defF 5 B_need_kept
def B_due_for : Env → R Out :=
  (retS (callF 3 F_move (consA (callD gDict (consA (bin gIx (varD 0) (cD (.int 2))) nilA)) (consA (bin gAdd (bin gIx (bin gIx (varD 1) (varD 3)) (cD (.int 1))) (bin gIx (callD gDict (consA (varD 2) nilA)) (varD 3))) (consA (varD 4) nilA)))))
def F_due_for : List D → R D := defF 5 B_due_for
def B_due_day : Env → R Out :=
  (seqS (dropS (callF 5 F_need_kept (consA (varD 0) (consA (varD 1) (consA (varD 2) (consA (varD 3) (consA (varD 4) nilA)))))))
    (retS (callF 5 F_due_for (consA (varD 0) (consA (varD 1) (consA (varD 2) (consA (varD 3) (consA (varD 4) nilA))))))))
def F_due_day : List D → R D := defF 5 B_due_day
def B_latest_for : Env → R Out :=
  (seqS (dropS (callF 5 F_need_kept (consA (varD 0) (consA (varD 1) (consA (varD 2) (consA (varD 3) (consA (varD 4) nilA)))))))
    (retS (callF 3 F_move_back (consA (callD gDict (consA (bin gIx (varD 0) (cD (.int 2))) nilA)) (consA (bin gAdd (bin gIx (bin gIx (varD 1) (varD 3)) (cD (.int 1))) (bin gIx (callD gDict (consA (varD 2) nilA)) (varD 3))) (consA (varD 4) nilA))))))
def F_latest_for : List D → R D := defF 5 B_latest_for
def B_done_for : Env → R Out :=
  (retL (compD (iterF (callF 3 F_history_for (consA (varD 0) (consA (varD 1) (consA (varD 2) nilA))))) (tTup 2 (tCons (tName 3) (tCons (tName 4) tNil))) yesT (tupD (consA (varD 3) (consA (varD 4) (consA (bin gIx (bin gIx (varD 1) (varD 4)) (cD (.int 0))) nilA)))) [3, 4]))
def F_done_for : List D → R D := defF 5 B_done_for
def FL_done_for : List D → R (List D) := defL 5 B_done_for
def B_loss_in : Env → R Out :=
  (seqS (setS 4 (tupD (consA (cD (.str "written")) (consA (varD 2) nilA))))
    (seqS (setS 5 (bin gIx (lstD (compD (iterF (varD 1)) (tTup 3 (tCons (tName 12) (tCons (tName 10) (tCons (tName 11) tNil)))) (blT (bin gEq (varD 10) (varD 2))) (bin gIx (varD 11) (cD (.int 2))) [12, 10, 11])) (cD (.int 0))))
    (seqS (setS 6 (callF 1 F_first_lists (consA (callF 1 F_size_of (consA (bin gIx (varD 0) (cD (.int 0))) nilA)) nilA)))
    (seqS (setS 7 (cD (.bool false)))
    (seqS (forS (enumF (varD 1)) (tTup 2 (tCons (tName 8) (tCons (tTup 3 (tCons (tName 9) (tCons (tName 10) (tCons (tName 11) tNil)))) tNil)))
    (seqS (ifS (truT (callF 1 F_is_with_papers (consA (varD 11) nilA)))
    (setS 6 (callF 4 F_lists_behind (consA (varD 6) (consA (varD 11) (consA (varD 5) (consA (varD 10) nilA))))))
    passS)
    (seqS (setS 7 (orD (varD 7) (bin gEq (varD 10) (varD 2))))
    (ifS (andT (truT (varD 7)) (andT (blT (bin gLe (varD 9) (varD 3))) (notT (truT (callD gAny (consA (lstD (compD (iterF (varD 6)) (tName 13) yesT (bin gEq (slD gSl (varD 13) noPart (part (cD (.int 1)))) (tupD (consA (varD 4) nilA))) [13])) nilA))))))
    (retS (bin gAdd (varD 8) (cD (.int 1))))
    passS))))
    (retS (cD .none)))))))
def F_loss_in : List D → R D := defF 14 B_loss_in
def B_losses : Env → R Out :=
  (seqS (setS 4 (callF 3 F_done_for (consA (varD 0) (consA (varD 1) (consA (varD 3) nilA)))))
    (seqS (setO 5 (dispL nilA))
    (seqS (forS (iterF (varD 2)) (tTup 2 (tCons (tName 6) (tCons (tName 7) tNil)))
    (seqS (setS 8 (callF 4 F_loss_in (consA (varD 0) (consA (varD 4) (consA (varD 6) (consA (callF 5 F_due_for (consA (varD 0) (consA (varD 1) (consA (varD 2) (consA (varD 6) (consA (varD 3) nilA)))))) nilA))))))
    (ifS (blT (bin gIsNot (varD 8) (cD .none)))
    (appS 5 (tupD (consA (varD 6) (consA (bin gIx (bin gIx (varD 4) (bin gSub (varD 8) (cD (.int 1)))) (cD (.int 1))) nilA))))
    passS)))
    (retO 5))))
def F_losses : List D → R D := defF 9 B_losses
def FL_losses : List D → R (List D) := defL 9 B_losses
def B_lost_papers : Env → R Out :=
  (seqS (dropS (callF 3 F_need_keep (consA (varD 0) (consA (varD 1) (consA (varD 2) nilA)))))
    (seqS (dropS (callF 1 F_need_day (consA (varD 3) nilA)))
    (retL (callL 4 FL_losses (consA (varD 0) (consA (varD 1) (consA (varD 2) (consA (varD 3) nilA))))))))
def F_lost_papers : List D → R D := defF 4 B_lost_papers
def FL_lost_papers : List D → R (List D) := defL 4 B_lost_papers
def B_word_of : Env → R Out :=
  (seqS (newX 3)
    (seqS (forS (iterF (callF 0 F_telling_days nilA)) (tName 4)
    (seqS (setS 5 (bin gGt (callD gLen (consA (callF 4 F_losses (consA (varD 0) (consA (varD 1) (consA (varD 2) (consA (varD 4) nilA))))) nilA)) (cD (.int 0))))
    (ifS (blT (inDS true 3 (varD 5)))
    (putDS 3 (varD 4) (varD 5))
    passS)))
    (seqS (ifS (blT (inDS true 3 (cD (.bool true))))
    (retS (tupD (consA (cD (.str "always")) (consA (cD .none) nilA))))
    passS)
    (retS (tupD (consA (ifD (blT (inDS false 3 (cD (.bool false)))) (cD (.str "sometimes")) (cD (.str "never"))) (consA (getDS 3 (cD (.bool true))) nilA)))))))
def F_word_of : List D → R D := defF 6 B_word_of
def B_keep_word : Env → R Out :=
  (seqS (dropS (callF 3 F_need_keep (consA (varD 0) (consA (varD 1) (consA (varD 2) nilA)))))
    (retS (callF 3 F_word_of (consA (varD 0) (consA (varD 1) (consA (varD 2) nilA))))))
def F_keep_word : List D → R D := defF 3 B_keep_word
def B_ever_kept : Env → R Out :=
  (seqS (dropS (callF 3 F_need_keep (consA (varD 0) (consA (varD 1) (consA (varD 2) nilA)))))
    (retL (compD (iterF (varD 2)) (tName 3) yesT (tupD (consA (bin gIx (varD 3) (cD (.int 0))) (consA (bin gIx (callF 3 F_word_of (consA (varD 0) (consA (varD 1) (consA (tupD (consA (varD 3) nilA)) nilA)))) (cD (.int 0))) nilA))) [3])))
def F_ever_kept : List D → R D := defF 4 B_ever_kept
def FL_ever_kept : List D → R (List D) := defL 4 B_ever_kept
def B_spared_by : Env → R Out :=
  (seqS (dropS (callF 5 F_need_kept (consA (varD 0) (consA (varD 1) (consA (varD 2) (consA (varD 3) (consA (varD 4) nilA)))))))
    (seqS (setS 5 (callF 5 F_due_for (consA (varD 0) (consA (varD 1) (consA (varD 2) (consA (varD 3) (consA (varD 4) nilA)))))))
    (seqS (setS 6 (callF 3 F_done_for (consA (varD 0) (consA (varD 1) (consA (varD 4) nilA)))))
    (seqS (forS (iterF (callF 2 F_cuts_of (consA (varD 1) (consA (varD 3) nilA)))) (tName 7)
    (seqS (setS 8 (lstD (compD (iterF (varD 7)) (tName 9) (blT (bin gIs (callF 4 F_loss_in (consA (varD 0) (consA (callF 2 F_without (consA (varD 6) (consA (varD 9) nilA))) (consA (varD 3) (consA (varD 5) nilA))))) (cD .none))) (varD 9) [9])))
    (ifS (truT (varD 8))
    (retS (varD 8))
    passS)))
    (retL (dispL nilA))))))
def F_spared_by : List D → R D := defF 10 B_spared_by
def B_with_over : Env → R Out :=
  (seqS (asgS (varD 1) (tTup 3 (tCons (tName 2) (tCons (tName 3) (tCons (tName 4) tNil)))))
    (retS (bin gAdd (bin gAdd (slD gSl (varD 0) noPart (part (varD 2))) (lstD (dispL (consA (tupD (consA (bin gIx (bin gIx (varD 0) (bin gSub (varD 2) (cD (.int 1)))) (cD (.int 0))) (consA (cD .none) (consA (tupD (consA (cD (.str "over")) (consA (varD 3) (consA (varD 4) nilA)))) nilA)))) nilA)))) (slD gSl (varD 0) (part (varD 2)) noPart))))
def F_with_over : List D → R D := defF 5 B_with_over
def B_saved_by : Env → R Out :=
  (seqS (dropS (callF 5 F_need_kept (consA (varD 0) (consA (varD 1) (consA (varD 2) (consA (varD 3) (consA (varD 4) nilA)))))))
    (seqS (setS 5 (callF 5 F_due_for (consA (varD 0) (consA (varD 1) (consA (varD 2) (consA (varD 3) (consA (varD 4) nilA)))))))
    (seqS (setS 6 (callF 3 F_done_for (consA (varD 0) (consA (varD 1) (consA (varD 4) nilA)))))
    (seqS (ifS (blT (bin gIs (callF 4 F_loss_in (consA (varD 0) (consA (varD 6) (consA (varD 3) (consA (varD 5) nilA))))) (cD .none)))
    (retL (dispL nilA))
    passS)
    (seqS (setS 7 (rngV (callF 1 F_size_of (consA (bin gIx (varD 0) (cD (.int 0))) nilA))))
    (seqS (setS 8 (bin gAdd (indexV (lstD (compD (iterF (varD 6)) (tTup 3 (tCons (tName 10) (tCons (tName 11) (tCons (tName 10) tNil)))) yesT (varD 11) [10, 11, 10])) (varD 3)) (cD (.int 1))))
    (seqS (setS 9 (lstD (compDN (rngI (consA (varD 8) (consA (bin gAdd (callD gLen (consA (varD 6) nilA)) (cD (.int 1))) nilA))) (tName 12) yesT 65536 [⟨(iterV (varD 7)), (tName 13), yesT, [13, 14], 256⟩, ⟨(iterV (varD 7)), (tName 14), (blT (bin gNe (varD 13) (varD 14))), [14], 1⟩] (tupD (consA (varD 12) (consA (varD 13) (consA (varD 14) nilA)))) [12, 13, 14])))
    (retL (compD (iterF (varD 9)) (tName 15) (blT (bin gIs (callF 4 F_loss_in (consA (varD 0) (consA (callF 2 F_with_over (consA (varD 6) (consA (varD 15) nilA))) (consA (varD 3) (consA (varD 5) nilA))))) (cD .none))) (varD 15) [15])))))))))
def F_saved_by : List D → R D := defF 16 B_saved_by
def FL_saved_by : List D → R (List D) := defL 16 B_saved_by
def B_wall : Env → R Out :=
  (whileS (truT (cD (.bool true)))
    passS)
def F_wall : List D → R D := defF 1 B_wall
def B_deed_of : Env → R Out :=
  (retS (ifD (blT (bin gEq (bin gIx (varD 0) (cD (.int 0))) (cD (.str "do")))) (bin gIx (varD 0) (cD (.int 1))) (slD gSl (varD 0) noPart (part (cD (.int 4))))))
def F_deed_of : List D → R D := defF 1 B_deed_of
def B_live_from : Env → R Out :=
  (seqS badS
    (seqS badS
    (retS (varD 2))))
def F_live_from : List D → R D := defF 3 B_live_from
def B_show_calendar : Env → R Out :=
  (seqS (asgS (varD 0) (tTup 3 (tCons (tName 1) (tCons (tName 2) (tCons (tName 3) tNil)))))
    (seqS (setO 4 (dispL (consA (varD 1) nilA)))
    (seqS (forS (iterF (tupD (consA (tupD (consA (cD (.str "closed")) (consA (varD 2) nilA))) (consA (tupD (consA (cD (.str "opened")) (consA (varD 3) nilA))) nilA)))) (tTup 2 (tCons (tName 5) (tCons (tName 6) tNil)))
    (forS (iterF (varD 6)) (tTup 2 (tCons (tName 7) (tCons (tName 8) tNil)))
    badS))
    (frzS 4 (retS (strM gJoin (cD (.str " ")) (varD 4)))))))
def F_show_calendar : List D → R D := defF 9 B_show_calendar
def B_show_route : Env → R Out :=
  (retS (ifD (truT (varD 0)) (strM gJoin (cD (.str " ")) (varD 0)) (cD (.str "."))))
def F_show_route : List D → R D := defF 1 B_show_route
def B_show_code : Env → R Out :=
  badS
def F_show_code : List D → R D := defF 2 B_show_code
def B_words_of : Env → R Out :=
  (seqS (ifS (notT (truT (isiD "str" (varD 0))))
    badS
    passS)
    badS)
def F_words_of : List D → R D := defF 1 B_words_of
def B_pick : Env → R Out :=
  (seqS (ifS (orT (blT (bin gGe (varD 1) (callD gLen (consA (varD 0) nilA)))) (blT (bin gNotInA (bin gIx (varD 0) (varD 1)) (varD 2))))
    badS
    passS)
    (retS (bin gIx (varD 2) (bin gIx (varD 0) (varD 1)))))
def F_pick : List D → R D := defF 3 B_pick
def B_read_spans : Env → R Out :=
  (seqS (setO 3 (dispL nilA))
    (seqS (whileS (andT (blT (bin gLt (ownLen 3) (cD (.int 2)))) (blT (bin gEq (slD gSl (varD 0) (part (varD 1)) (part (bin gAdd (varD 1) (cD (.int 1))))) (lstD (dispL (consA (varD 2) nilA))))))
    (seqS badS
    (seqS (frzS 3 (setS 5 (lstD (compD (rngI (consA (varD 4) (consA (bin gAdd (cD (.int 30)) (cD (.int 1))) nilA))) (tName 6) (orT (notT (truT (varD 3))) (blT (bin gLt (ownIx 3 (un gNeg (cD (.int 1)))) (tupD (consA (varD 4) (consA (varD 6) nilA)))))) (varD 6) [6]))))
    (seqS badS
    (augS 1 gAddI (cD (.int 3)))))))
    (retS (tupD (consA (ownTup 3) (consA (varD 1) nilA))))))
def F_read_spans : List D → R D := defF 7 B_read_spans
def B_need_end : Env → R Out :=
  (ifS (blT (bin gLt (varD 1) (callD gLen (consA (varD 0) nilA))))
    badS
    passS)
def F_need_end : List D → R D := defF 2 B_need_end
def B_read_calendar : Env → R Out :=
  (seqS (setS 1 (callF 1 F_words_of (consA (varD 0) nilA)))
    (seqS (ifS (notT (truT (callF 1 F_is_pattern (consA (bin gIx (varD 1) (cD (.int 0))) nilA))))
    badS
    passS)
    (seqS (asgS (callF 3 F_read_spans (consA (varD 1) (consA (cD (.int 1)) (consA (cD (.str "closed")) nilA)))) (tTup 2 (tCons (tName 2) (tCons (tName 3) tNil))))
    (seqS (asgS (callF 3 F_read_spans (consA (varD 1) (consA (varD 3) (consA (cD (.str "opened")) nilA)))) (tTup 2 (tCons (tName 4) (tCons (tName 3) tNil))))
    (seqS (dropS (callF 2 F_need_end (consA (varD 1) (consA (varD 3) nilA))))
    (retS (tupD (consA (bin gIx (varD 1) (cD (.int 0))) (consA (varD 2) (consA (varD 4) nilA))))))))))
def F_read_calendar : List D → R D := defF 5 B_read_calendar
def B_read_letters : Env → R Out :=
  (seqS (ifS (blT (bin gEq (slD gSl (varD 0) (part (varD 1)) (part (bin gAdd (varD 1) (cD (.int 1))))) (lstD (dispL (consA (cD (.str ".")) nilA)))))
    (retS (tupD (consA (tupD nilA) (consA (bin gAdd (varD 1) (cD (.int 1))) nilA))))
    passS)
    (seqS (setO 3 (dispL (consA (callF 3 F_pick (consA (varD 0) (consA (varD 1) (consA (dicD (compX (iterF (varD 2)) (tName 4) yesT (varD 4) (varD 4) [4])) nilA)))) nilA)))
    (seqS (augS 1 gAddI (cD (.int 1)))
    (seqS (whileS (andT (blT (bin gLt (varD 1) (callD gLen (consA (varD 0) nilA)))) (andT (blT (bin gLt (ownLen 3) (cD (.int 8)))) (blT (bin gInA (bin gIx (varD 0) (varD 1)) (varD 2)))))
    (seqS (appS 3 (bin gIx (varD 0) (varD 1)))
    (augS 1 gAddI (cD (.int 1)))))
    (retS (tupD (consA (ownTup 3) (consA (varD 1) nilA))))))))
def F_read_letters : List D → R D := defF 5 B_read_letters
def B_read_route : Env → R Out :=
  (seqS (setS 1 (callF 1 F_words_of (consA (varD 0) nilA)))
    (seqS (asgS (callF 3 F_read_letters (consA (varD 1) (consA (cD (.int 0)) (consA (lstD (listF (cD (.str "abcdefghijklmnopqrstuvwxyz+")))) nilA)))) (tTup 2 (tCons (tName 2) (tCons (tName 3) tNil))))
    (seqS (dropS (callF 2 F_need_end (consA (varD 1) (consA (varD 3) nilA))))
    (retS (varD 2)))))
def F_read_route : List D → R D := defF 4 B_read_route
def B_read_code : Env → R Out :=
  (seqS (dropS (callF 1 F_need_scheme (consA (varD 0) nilA)))
    (seqS (ifS (notT (truT (isiD "str" (varD 1))))
    badS
    passS)
    (seqS (asgS (varD 0) (tTup 4 (tCons (tName 2) (tCons (tName 3) (tCons (tName 4) (tCons (tName 3) tNil))))))
    (seqS (setS 5 (lstD (listF (varD 1))))
    (seqS badS
    (seqS (setS 7 (callD gTuple (consA (lstD (compD (rngI (consA (callD gLen (consA (varD 4) nilA)) nilA)) (tName 9) yesT (callF 3 F_pick (consA (varD 5) (consA (varD 9) (consA (varD 6) nilA)))) [9])) nilA)))
    (seqS (dropS (callF 2 F_need_end (consA (varD 5) (consA (callD gLen (consA (varD 7) nilA)) nilA))))
    (retS (varD 7)))))))))
def F_read_code : List D → R D := defF 10 B_read_code
def B_show_part : Env → R Out :=
  badS
def F_show_part : List D → R D := defF 1 B_show_part
def B_show_deed : Env → R Out :=
  (retS (strM gJoin (cD (.str " ")) (bin gAdd (lstD (dispL (consA (bin gIx (varD 0) (cD (.int 0))) nilA))) (lstD (compD (iterF (slD gSl (varD 0) (part (cD (.int 1))) noPart)) (tName 1) yesT (callF 1 F_show_part (consA (varD 1) nilA)) [1])))))
def F_show_deed : List D → R D := defF 2 B_show_deed
def B_choices : Env → R Out :=
  (seqS (ifS (blT (bin gEq (varD 1) (cD (.str "who"))))
    (retS (dicD (compX (iterF (callF 1 F_all_whos (consA (varD 0) nilA))) (tName 5) yesT (callF 1 F_show_part (consA (varD 5) nilA)) (varD 5) [5])))
    passS)
    (seqS (setS 3 (dicD (dispX [((cD (.str "person")), (bin gIx (varD 0) (cD (.int 0)))), ((cD (.str "group")), (callD gLen (consA (cD (.tuple (([(0), (1), (2)] : List Int).map PyData.int))) nilA))), ((cD (.str "path")), (callD gLen (consA (cD (.tuple (([(0), (1), (2), (3)] : List Int).map PyData.int))) nilA)))])))
    (seqS badS
    badS)))
def F_choices : List D → R D := defF 7 B_choices
def B_read_parts : Env → R Out :=
  (seqS badS
    (seqS (setO 4 (dispL (consA (callF 3 F_pick (consA (varD 1) (consA (varD 2) (consA (dicD (compX (iterF (varD 3)) (tName 6) yesT (varD 6) (varD 6) [6])) nilA)))) nilA)))
    (seqS badS
    (retS (tupD (consA (ownTup 4) (consA (bin gAdd (varD 2) (cD (.int 1))) nilA)))))))
def F_read_parts : List D → R D := defF 7 B_read_parts
def B_read_deed : Env → R Out :=
  (seqS (dropS (callF 1 F_need_office (consA (varD 0) nilA)))
    (seqS (setS 2 (callF 1 F_words_of (consA (varD 1) nilA)))
    (seqS (asgS (callF 3 F_read_parts (consA (bin gIx (varD 0) (cD (.int 0))) (consA (varD 2) (consA (cD (.int 0)) nilA)))) (tTup 2 (tCons (tName 3) (tCons (tName 4) tNil))))
    (seqS (dropS (callF 2 F_need_end (consA (varD 2) (consA (varD 4) nilA))))
    (retS (varD 3))))))
def F_read_deed : List D → R D := defF 5 B_read_deed
def B_show_plan : Env → R Out :=
  (retS (ifD (truT (varD 0)) (strM gJoin (cD (.str " ; ")) (lstD (compD (iterF (varD 0)) (tTup 2 (tCons (tName 1) (tCons (tName 2) tNil))) yesT (jsD [(fmtD (callF 1 F_show_deed (consA (varD 1) nilA))), (cD (.str " : ")), (fmtD (callF 1 F_show_route (consA (varD 2) nilA)))] Str.empty) [1, 2]))) (cD (.str "none"))))
def F_show_plan : List D → R D := defF 3 B_show_plan
def B_read_step : Env → R Out :=
  (seqS (asgS (callF 3 F_read_parts (consA (bin gIx (varD 0) (cD (.int 0))) (consA (varD 1) (consA (varD 2) nilA)))) (tTup 2 (tCons (tName 3) (tCons (tName 2) tNil))))
    (seqS (dropS (callF 3 F_pick (consA (varD 1) (consA (varD 2) (consA (cD (.dict [(kD (.inr ":"), .str ":")])) nilA)))))
    (seqS (setS 4 (lstD (compD (iterF (bin gIx (varD 0) (cD (.int 2)))) (tTup 2 (tCons (tName 6) (tCons (tName 7) tNil))) yesT (varD 6) [6, 7])))
    (seqS (asgS (callF 3 F_read_letters (consA (varD 1) (consA (bin gAdd (varD 2) (cD (.int 1))) (consA (bin gAdd (varD 4) (lstD (dispL (consA (cD (.str "+")) nilA)))) nilA)))) (tTup 2 (tCons (tName 5) (tCons (tName 2) tNil))))
    (retS (tupD (consA (tupD (consA (varD 3) (consA (varD 5) nilA))) (consA (varD 2) nilA))))))))
def F_read_step : List D → R D := defF 8 B_read_step
def B_read_plan : Env → R Out :=
  (seqS (dropS (callF 1 F_need_office (consA (varD 0) nilA)))
    (seqS (setS 2 (callF 1 F_words_of (consA (varD 1) nilA)))
    (seqS (ifS (blT (bin gEq (bin gIx (varD 2) (cD (.int 0))) (cD (.str "none"))))
    (seqS (dropS (callF 2 F_need_end (consA (varD 2) (consA (cD (.int 1)) nilA))))
    (retS (tupD nilA)))
    passS)
    (seqS (asgS (callF 3 F_read_step (consA (varD 0) (consA (varD 2) (consA (cD (.int 0)) nilA)))) (tTup 2 (tCons (tName 3) (tCons (tName 4) tNil))))
    (seqS (setO 5 (dispL (consA (varD 3) nilA)))
    (seqS (whileS (blT (bin gLt (varD 4) (callD gLen (consA (varD 2) nilA))))
    (seqS (ifS (orT (blT (bin gEq (ownLen 5) (cD (.int 8)))) (blT (bin gNe (bin gIx (varD 2) (varD 4)) (cD (.str ";")))))
    badS
    passS)
    (seqS (asgS (callF 3 F_read_step (consA (varD 0) (consA (varD 2) (consA (bin gAdd (varD 4) (cD (.int 1))) nilA)))) (tTup 2 (tCons (tName 3) (tCons (tName 4) tNil))))
    (appS 5 (varD 3)))))
    (retS (ownTup 5))))))))
def F_read_plan : List D → R D := defF 6 B_read_plan
def B_integer_told : Env → R Out :=
  (seqS (setS 1 (ifD (blT (bin gEq (slD gSl (varD 0) noPart (part (cD (.int 1)))) (cD (.str "-")))) (slD gSl (varD 0) (part (cD (.int 1))) noPart) (varD 0)))
    (seqS (ifS (orT (notT (blT (chainD gLe gLe (cD (.int 1)) (callD gLen (consA (varD 1) nilA)) (cD (.int 30))))) (notT (truT (callD gAll (consA (lstD (compD (iterF (varD 1)) (tName 2) yesT (bin gInA (varD 2) (cD (.str "0123456789"))) [2])) nilA)))))
    (retS (cD .none))
    passS)
    (retS (ifD (andT (blT (bin gEq (bin gIx (varD 1) (cD (.int 0))) (cD (.str "0")))) (blT (bin gNe (varD 0) (cD (.str "0"))))) (cD .none) (callD gInt (consA (varD 0) nilA))))))
def F_integer_told : List D → R D := defF 3 B_integer_told
def B_part_told : Env → R Out :=
  (seqS badS
    (seqS (ifS (blT (bin gEq (varD 0) (cD (.str "day"))))
    (retS (callF 1 F_integer_told (consA (varD 1) nilA)))
    passS)
    (seqS (ifS (andT (blT (bin gEq (varD 0) (cD (.str "digit")))) (blT (bin gEq (callD gLen (consA (varD 1) nilA)) (cD (.int 1)))))
    (retS (callF 1 F_integer_told (consA (varD 1) nilA)))
    passS)
    (seqS badS
    (retS (cD .none))))))
def F_part_told : List D → R D := defF 3 B_part_told
def B_read_row : Env → R Out :=
  (seqS (ifS (notT (truT (isiD "str" (varD 0))))
    (raiseS "BadCommand" (cD (.str "a row is a text")))
    passS)
    (seqS badS
    (seqS badS
    (seqS badS
    (seqS (setS 4 (bin gSub (callD gLen (consA (varD 3) nilA)) (cD (.int 1))))
    (seqS (ifS (andT (blT (bin gEq (slD gSl (varD 3) (part (un gNeg (cD (.int 1)))) noPart) (tupD (consA (cD (.str "text")) nilA)))) (blT (bin gGt (callD gLen (consA (varD 2) nilA)) (varD 4))))
    (setS 2 (bin gAdd (slD gSl (varD 2) noPart (part (varD 4))) (lstD (dispL (consA (strM gJoin (cD (.str " ")) (slD gSl (varD 2) (part (varD 4)) noPart)) nilA)))))
    passS)
    (seqS (ifS (blT (bin gEq (slD gSl (varD 3) (part (un gNeg (cD (.int 1)))) noPart) (tupD (consA (cD (.str "digits")) nilA))))
    (setS 3 (bin gAdd (slD gSl (varD 3) noPart (part (varD 4))) (bin gMulA (tupD (consA (cD (.str "digit")) nilA)) (bin gSub (callD gLen (consA (varD 2) nilA)) (varD 4)))))
    passS)
    (seqS (setS 5 (lstD (compD (zipG (consA (varD 3) (consA (varD 2) nilA))) (tTup 2 (tCons (tName 6) (tCons (tName 7) tNil))) yesT (callF 2 F_part_told (consA (varD 6) (consA (varD 7) nilA))) [6, 7])))
    (seqS (ifS (orT (blT (bin gNe (callD gLen (consA (varD 3) nilA)) (callD gLen (consA (varD 2) nilA)))) (blT (bin gInA (cD .none) (varD 5))))
    (raiseS "BadCommand" (cD (.str "the row is not of the form of its first word")))
    passS)
    (retS (tupD (consA (varD 1) (consA (varD 5) nilA)))))))))))))
def F_read_row : List D → R D := defF 8 B_read_row
def B_begun_anew : Env → R Out :=
  badS
def F_begun_anew : List D → R D := defF 2 B_begun_anew
def B_set_calendar : Env → R Out :=
  (seqS (asgS (varD 1) (tTup 2 (tCons (tName 2) (tCons (tName 3) tNil))))
    (seqS (setS 4 (callF 1 F_read_calendar (consA (varD 3) nilA)))
    (seqS badS
    (seqS (setS 8 (lstD (compD (iterF (varD 7)) (tName 9) (blT (bin gNe (bin gIx (varD 9) (cD (.int 0))) (varD 2))) (varD 9) [9])))
    (seqS (ifS (blT (bin gEq (callD gLen (consA (varD 8) nilA)) (cD (.int 4))))
    (raiseS "TooMany" (jsD [(cD (.str "a book has at most ")), (fmtD (cD (.int 4))), (cD (.str " names"))] Str.empty))
    passS)
    (retS (callF 2 F_begun_anew (consA (varD 0) (consA (tupD (consA (varD 5) (consA (varD 6) (consA (callD gTuple (consA (lstD (sortG (bin gAdd (varD 8) (lstD (dispL (consA (tupD (consA (varD 2) (consA (varD 4) nilA))) nilA)))))) nilA)) nilA)))) nilA)))))))))
def F_set_calendar : List D → R D := defF 10 B_set_calendar
def B_set_house : Env → R Out :=
  (seqS badS
    (seqS (setS 4 (tupD (consA (varD 2) (consA (callD gTuple (consA (varD 3) nilA)) (consA (bin gMulA (tupD (consA (cD (.bool false)) nilA)) (bin gAdd (callD gLen (consA (varD 3) nilA)) (cD (.int 1)))) (consA (tupD nilA) (consA (tupD nilA) nilA)))))))
    (seqS (dropS (callF 1 F_need_house (consA (varD 4) nilA)))
    (seqS badS
    (retS (callF 2 F_begun_anew (consA (varD 0) (consA (tupD (consA (varD 4) (consA (varD 6) (consA (varD 7) nilA)))) nilA))))))))
def F_set_house : List D → R D := defF 8 B_set_house
def B_set_mode : Env → R Out :=
  (seqS (asgS (varD 1) (tTup 4 (tCons (tName 2) (tCons (tName 3) (tCons (tName 4) (tCons (tName 5) tNil))))))
    (seqS badS
    (retS (callF 2 F_begun_anew (consA (varD 0) (consA (tupD (consA (varD 6) (consA (tupD (consA (varD 2) (consA (varD 3) (consA (varD 4) (consA (bin gEq (varD 5) (cD (.str "deep"))) nilA))))) (consA (varD 8) nilA)))) nilA))))))
def F_set_mode : List D → R D := defF 9 B_set_mode
def B_start : Env → R Out :=
  badS
def F_start : List D → R D := defF 2 B_start
def B_start_again : Env → R Out :=
  (seqS badS
    badS)
def F_start_again : List D → R D := defF 3 B_start_again
def B_wait : Env → R Out :=
  (seqS (setS 2 (callF 1 F_read_route (consA (bin gIx (varD 1) (cD (.int 0))) nilA)))
    badS)
def F_wait : List D → R D := defF 3 B_wait
def B_do : Env → R Out :=
  (seqS badS
    (retS (tupD (consA (varD 0) (consA (cD (.str "ok")) nilA)))))
def F_do : List D → R D := defF 2 B_do
def B_undo : Env → R Out :=
  (seqS badS
    (retS (tupD (consA (varD 0) (consA (cD (.str "ok")) nilA)))))
def F_undo : List D → R D := defF 2 B_undo
def B_show_sources : Env → R Out :=
  (retS (orD (strM gJoin (cD (.str " ")) (lstD (compD (iterF (varD 0)) (tTup 2 (tCons (tName 1) (tCons (tName 2) tNil))) yesT (jsD [(fmtD (bin gIx (varD 1) (cD (.int 0)))), (fmtD (varD 2))] Str.empty) [1, 2]))) (cD (.str "empty"))))
def F_show_sources : List D → R D := defF 3 B_show_sources
def B_look : Env → R Out :=
  (seqS (asgS (varD 1) (tTup 3 (tCons (tName 2) (tCons (tName 3) (tCons (tName 4) tNil)))))
    (seqS badS
    (retS (tupD (consA (varD 0) (consA (ifD (blT (bin gIs (varD 5) (cD .none))) (cD (.str "barred")) (callF 1 F_show_sources (consA (varD 5) nilA))) nilA))))))
def F_look : List D → R D := defF 6 B_look
def B_list : Env → R Out :=
  (seqS (asgS (varD 1) (tTup 2 (tCons (tName 2) (tCons (tName 3) tNil))))
    (seqS badS
    badS))
def F_list : List D → R D := defF 4 B_list
def B_who : Env → R Out :=
  (seqS (setS 2 (bin gIx (varD 1) (cD (.int 0))))
    (seqS badS
    (seqS (dropS (callF 2 F_need_folder (consA (callF 1 F_size_of (consA (varD 3) nilA)) (consA (varD 2) nilA))))
    badS)))
def F_who : List D → R D := defF 5 B_who
def B_why : Env → R Out :=
  (seqS (asgS (varD 1) (tTup 2 (tCons (tName 2) (tCons (tName 3) tNil))))
    (seqS badS
    badS))
def F_why : List D → R D := defF 7 B_why
def B_can : Env → R Out :=
  (seqS (asgS (varD 1) (tTup 3 (tCons (tName 2) (tCons (tName 3) (tCons (tName 4) tNil)))))
    (seqS badS
    (seqS badS
    (seqS (dropS (callF 1 F_need_path (consA (varD 3) nilA)))
    (seqS badS
    (seqS badS
    badS))))))
def F_can : List D → R D := defF 7 B_can
def B_order : Env → R Out :=
  (seqS (dropS (callF 1 F_need_day (consA (bin gIx (varD 1) (cD (.int 0))) nilA)))
    (seqS badS
    badS))
def F_order : List D → R D := defF 4 B_order
def B_find : Env → R Out :=
  (seqS badS
    (retS (tupD (consA (varD 0) (consA (orD (strM gJoin (cD (.str " ; ")) (lstD (compD (iterF (varD 2)) (tTup 2 (tCons (tName 3) (tCons (tName 4) tNil))) yesT (jsD [(cD (.str "w")), (fmtD (varD 3)), (cD (.str " ")), (fmtD (varD 4))] Str.empty) [3, 4]))) (cD (.str "none"))) nilA)))))
def F_find : List D → R D := defF 5 B_find
def B_plan : Env → R Out :=
  badS
def F_plan : List D → R D := defF 2 B_plan
def B_day : Env → R Out :=
  badS
def F_day : List D → R D := defF 2 B_day
section
variable {X : Cx} {e : Expr}
def tTupRgF (te : L2.St → Hp → (Int → Int → Hp → Prop) → Prop) : TE := fun σ H Q => te σ H fun a b H1 => RgOk a b ∧ ∀ q o, H1 q = none → o.dict = none → Q (.ref q) (upd H1 q (.frz o (.tup (rgV a b))))
end
def tupRg (fa : Env → R D) : Env → R D := fun env => (fa env).bind fun x => match x with
  | .int j => guard' (rngOk 0 j && decide (j ≤ 16777216)) (.ret (.tuple (rngD 0 j)))
  | _ => .bad
section
variable {X : Cx} {e : Expr} {c : Base} {W : WX} {fa : Env → R D}
end
section
variable {env : Env} {fu : Nat} {E : Nat → Er → Prop} {QD : Nat → D → Prop} {fa : Env → R D}
end
def revLV (fa : Env → R D) : Env → R (List D) := fun env => (fa env).bind fun x => match x with
  | .list ds => .ret ds.reverse
  | _ => .bad
section
variable {X : Cx} {e : Expr} {c : Base} {W : WX} {fa : Env → R D}
theorem dl_revLV (hK : c.K = X.K) (h : PE X e (tRevL X.K (liftE c W fa))) : PE X e (liftL c W (revLV fa)) := pe_imp h fun σ H Q ⟨w, env, a, q⟩ => by
  refine ⟨w, env, a, R.wp_mono (wp_b q) (fun fu x hx v w1 e1 g1 r1 => ?_) fun _ _ h => h⟩
  subst e1
  cases x with
  | list ds =>
    obtain ⟨p, xs, rfl, s1, a1⟩ := r1.isLst
    exact ⟨p, xs, rfl, hK ▸ sqL_vis s1, own_new a g1 a1.rev hx⟩
  | _ => exact hx.elim
end
section
variable {env : Env} {fu : Nat} {E : Nat → Er → Prop} {QL : Nat → List D → Prop} {fa : Env → R D}
theorem g_revLV (h : (fa env).go fu (fun fu x => ∃ ds, x = .list ds ∧ QL fu ds.reverse) E) : (revLV fa env).go fu QL E := by
  simp only [R.go_eq] at *
  refine (R.wp_bind _ _ _ _ _).mpr (R.wp_mono h (fun fu x ⟨ds, e, q⟩ => ?_) fun _ _ h => h)
  subst e
  exact q
end
def parO (i j : Nat) (fa fb : Env → R (List D)) : Env → R Out := exS fa fun ds => exS fb fun es env => .ret (.nx ((env.set i (some (.own ds))).set j (some (.own es))))
section
variable {X : Cx} {c : Base} {W : WX} {w w' : Wd} {σ : L2.St} {env : Env} {st : Stmt} {fa fb : Env → R (List D)}
end
section
variable {env : Env} {fu : Nat} {E : Nat → Er → Prop} {QO : Nat → Out → Prop} {i j : Nat} {fa fb : Env → R (List D)}
end
def tab_PaperError : Str → Option Bool := fun n => if n = "BadRoute" then some true else if n = "TooMany" then some true else none
def itab_TooMany : Str → Option Bool := fun n => if n = "BadRoute" then some false else if n = "TooMany" then some true else none
def topS (i : Nat) : Stmt := PySem.Challenge.pw_officepapers_k08_routes_reduced_and_spel.main.body.getD i (.Pass ⟨0, 0, 0, 0⟩)
abbrev s_is_name : Stmt := topS 10
abbrev N_is_name : List Str := ["thing"]
theorem sc_is_name : FnScope N_is_name ["thing"] (defScope s_is_name) := ⟨rfl, rfl, rfl, by decide +kernel, rfl, by decide +kernel, by decide +kernel⟩
abbrev s_is_letter : Stmt := topS 12
abbrev N_is_letter : List Str := ["thing"]
theorem sc_is_letter : FnScope N_is_letter ["thing"] (defScope s_is_letter) := ⟨rfl, rfl, rfl, by decide +kernel, rfl, by decide +kernel, by decide +kernel⟩
abbrev s_is_route : Stmt := topS 6
abbrev N_is_route : List Str := ["thing", "letter"]
theorem sc_is_route : FnScope N_is_route ["thing"] (defScope s_is_route) := ⟨rfl, rfl, rfl, by decide +kernel, rfl, by decide +kernel, by decide +kernel⟩
abbrev s_need_route : Stmt := topS 11
abbrev N_need_route : List Str := ["thing"]
theorem sc_need_route : FnScope N_need_route ["thing"] (defScope s_need_route) := ⟨rfl, rfl, rfl, by decide +kernel, rfl, by decide +kernel, by decide +kernel⟩
abbrev s_reduce_letters : Stmt := topS 9
abbrev N_reduce_letters : List Str := ["letters", "kept", "letter"]
theorem sc_reduce_letters : FnScope N_reduce_letters ["letters"] (defScope s_reduce_letters) := ⟨rfl, rfl, rfl, by decide +kernel, rfl, by decide +kernel, by decide +kernel⟩
abbrev s_reduced : Stmt := topS 7
abbrev N_reduced : List Str := ["route"]
theorem sc_reduced : FnScope N_reduced ["route"] (defScope s_reduced) := ⟨rfl, rfl, rfl, by decide +kernel, rfl, by decide +kernel, by decide +kernel⟩
abbrev s_joined : Stmt := topS 8
abbrev N_joined : List Str := ["routes", "route", "letters", "letter"]
theorem sc_joined : FnScope N_joined ["routes"] (defScope s_joined) := ⟨rfl, rfl, rfl, by decide +kernel, rfl, by decide +kernel, by decide +kernel⟩
abbrev s_need_routes : Stmt := topS 17
abbrev N_need_routes : List Str := ["route", "other"]
theorem sc_need_routes : FnScope N_need_routes ["route", "other"] (defScope s_need_routes) := ⟨rfl, rfl, rfl, by decide +kernel, rfl, by decide +kernel, by decide +kernel⟩
abbrev s_spell : Stmt := topS 16
abbrev N_spell : List Str := ["letters", "other", "places", "at", "letter"]
theorem sc_spell : FnScope N_spell ["letters", "other"] (defScope s_spell) := ⟨rfl, rfl, rfl, by decide +kernel, rfl, by decide +kernel, by decide +kernel⟩
abbrev s_never_later : Stmt := topS 14
abbrev N_never_later : List Str := ["route", "other"]
theorem sc_never_later : FnScope N_never_later ["route", "other"] (defScope s_never_later) := ⟨rfl, rfl, rfl, by decide +kernel, rfl, by decide +kernel, by decide +kernel⟩
abbrev s_spelled_at : Stmt := topS 15
abbrev N_spelled_at : List Str := ["route", "other"]
theorem sc_spelled_at : FnScope N_spelled_at ["route", "other"] (defScope s_spelled_at) := ⟨rfl, rfl, rfl, by decide +kernel, rfl, by decide +kernel, by decide +kernel⟩
abbrev s_law_hand : Stmt := topS 19
abbrev N_law_hand : List Str := ["_law_script"]
theorem sc_law_hand : FnScope N_law_hand ["_law_script"] (defScope s_law_hand) := ⟨rfl, rfl, rfl, by decide +kernel, rfl, by decide +kernel, by decide +kernel⟩
abbrev s_law_draw : Stmt := topS 20
abbrev N_law_draw : List Str := ["_law_hand_here", "_law_size", "_law_value", "_law_cell", "_law_mixed"]
theorem sc_law_draw : FnScope N_law_draw ["_law_hand_here", "_law_size"] (defScope s_law_draw) := ⟨rfl, rfl, rfl, by decide +kernel, rfl, by decide +kernel, by decide +kernel⟩
abbrev s_law_letters : Stmt := topS 21
abbrev N_law_letters : List Str := ["_law_hand_here", "_law_most", "_law_turn"]
theorem sc_law_letters : FnScope N_law_letters ["_law_hand_here", "_law_most"] (defScope s_law_letters) := ⟨rfl, rfl, rfl, by decide +kernel, rfl, by decide +kernel, by decide +kernel⟩
abbrev s_law_reduced : Stmt := topS 22
abbrev N_law_reduced : List Str := ["_law_route", "_law_found", "_law_k"]
theorem sc_law_reduced : FnScope N_law_reduced ["_law_route"] (defScope s_law_reduced) := ⟨rfl, rfl, rfl, by decide +kernel, rfl, by decide +kernel, by decide +kernel⟩
abbrev s_law_choices : Stmt := topS 23
abbrev N_law_choices : List Str := ["_law_many", "_law_size", "_law_found", "_law_turn", "_law_longer", "_law_one", "_law_first", "_law_k"]
theorem sc_law_choices : FnScope N_law_choices ["_law_many", "_law_size"] (defScope s_law_choices) := ⟨rfl, rfl, rfl, by decide +kernel, rfl, by decide +kernel, by decide +kernel⟩
abbrev s_law_spelled : Stmt := topS 24
abbrev N_law_spelled : List Str := ["_law_letters_here", "_law_other_here", "_law_one", "_law_k"]
theorem sc_law_spelled : FnScope N_law_spelled ["_law_letters_here", "_law_other_here"] (defScope s_law_spelled) := ⟨rfl, rfl, rfl, by decide +kernel, rfl, by decide +kernel, by decide +kernel⟩
abbrev s_law_other : Stmt := topS 25
abbrev N_law_other : List Str := ["_law_hand_here", "_law_route", "_law_found", "_law_turn", "_law_at", "_law_way"]
theorem sc_law_other : FnScope N_law_other ["_law_hand_here", "_law_route"] (defScope s_law_other) := ⟨rfl, rfl, rfl, by decide +kernel, rfl, by decide +kernel, by decide +kernel⟩
abbrev s_law_joined : Stmt := topS 26
abbrev N_law_joined : List Str := ["_law_routes", "_law_found", "e"]
theorem sc_law_joined : FnScope N_law_joined ["_law_routes"] (defScope s_law_joined) := ⟨rfl, rfl, rfl, by decide +kernel, rfl, by decide +kernel, by decide +kernel⟩
abbrev s_law : Stmt := topS 27
abbrev N_law : List Str := ["_law_script", "_law_hand_here", "_law_turn", "_law_route", "_law_other_here", "_law_short", "_law_one", "_law_two", "_law_due", "_law_told", "_law_routes", "_law_whole", "_law_bad"]
theorem sc_law : FnScope N_law ["_law_script"] (defScope s_law) := ⟨rfl, rfl, rfl, by decide +kernel, rfl, by decide +kernel, by decide +kernel⟩
structure Tx (K : PySem.W.Frag) (mg : Str → Option Value) (ad : Nat → Addr) (fdd : Nat → FuncData) : Prop where
  m_MOST_LETTERS : ∃ u, mg "MOST_LETTERS" = some u ∧ RelV (.int (8)) u
  m_abs : mg "abs" = none
  m_all : mg "all" = none
  m_bool : mg "bool" = none
  m_enumerate : mg "enumerate" = none
  m_int : mg "int" = none
  m_isinstance : mg "isinstance" = none
  m_len : mg "len" = none
  m_list : mg "list" = none
  m_max : mg "max" = none
  m_min : mg "min" = none
  m_range : mg "range" = none
  m_str : mg "str" = none
  m_tuple : mg "tuple" = none
  F_is_name : Fun K "is_name" "is_name" s_is_name (ad 10) (fdd 10)
  g_is_name : mg "is_name" = some (.ref (ad 10))
  b_is_name : Binds K (fdd 10) ["thing"] []
  F_is_letter : Fun K "_is_letter" "_is_letter" s_is_letter (ad 12) (fdd 12)
  g_is_letter : mg "_is_letter" = some (.ref (ad 12))
  b_is_letter : Binds K (fdd 12) ["thing"] []
  F_is_route : Fun K "is_route" "is_route" s_is_route (ad 6) (fdd 6)
  g_is_route : mg "is_route" = some (.ref (ad 6))
  b_is_route : Binds K (fdd 6) ["thing"] []
  F_need_route : Fun K "need_route" "need_route" s_need_route (ad 11) (fdd 11)
  g_need_route : mg "need_route" = some (.ref (ad 11))
  b_need_route : Binds K (fdd 11) ["thing"] []
  F_reduce_letters : Fun K "reduce_letters" "reduce_letters" s_reduce_letters (ad 9) (fdd 9)
  g_reduce_letters : mg "reduce_letters" = some (.ref (ad 9))
  b_reduce_letters : Binds K (fdd 9) ["letters"] []
  F_reduced : Fun K "reduced" "reduced" s_reduced (ad 7) (fdd 7)
  g_reduced : mg "reduced" = some (.ref (ad 7))
  b_reduced : Binds K (fdd 7) ["route"] []
  F_joined : Fun K "joined" "joined" s_joined (ad 8) (fdd 8)
  g_joined : mg "joined" = some (.ref (ad 8))
  b_joined : StarB (fdd 8) "routes"
  F_need_routes : Fun K "_need_routes" "_need_routes" s_need_routes (ad 17) (fdd 17)
  g_need_routes : mg "_need_routes" = some (.ref (ad 17))
  b_need_routes : Binds K (fdd 17) ["route", "other"] []
  F_spell : Fun K "spell" "spell" s_spell (ad 16) (fdd 16)
  g_spell : mg "spell" = some (.ref (ad 16))
  b_spell : Binds K (fdd 16) ["letters", "other"] []
  F_never_later : Fun K "never_later" "never_later" s_never_later (ad 14) (fdd 14)
  g_never_later : mg "never_later" = some (.ref (ad 14))
  b_never_later : Binds K (fdd 14) ["route", "other"] []
  F_spelled_at : Fun K "spelled_at" "spelled_at" s_spelled_at (ad 15) (fdd 15)
  g_spelled_at : mg "spelled_at" = some (.ref (ad 15))
  b_spelled_at : Binds K (fdd 15) ["route", "other"] []
  F_law_hand : Fun K "_law_hand" "_law_hand" s_law_hand (ad 19) (fdd 19)
  g_law_hand : mg "_law_hand" = some (.ref (ad 19))
  b_law_hand : Binds K (fdd 19) ["_law_script"] []
  F_law_draw : Fun K "_law_draw" "_law_draw" s_law_draw (ad 20) (fdd 20)
  g_law_draw : mg "_law_draw" = some (.ref (ad 20))
  b_law_draw : Binds K (fdd 20) ["_law_hand_here", "_law_size"] []
  F_law_letters : Fun K "_law_letters" "_law_letters" s_law_letters (ad 21) (fdd 21)
  g_law_letters : mg "_law_letters" = some (.ref (ad 21))
  b_law_letters : Binds K (fdd 21) ["_law_hand_here", "_law_most"] []
  F_law_reduced : Fun K "_law_reduced" "_law_reduced" s_law_reduced (ad 22) (fdd 22)
  g_law_reduced : mg "_law_reduced" = some (.ref (ad 22))
  b_law_reduced : Binds K (fdd 22) ["_law_route"] []
  F_law_choices : Fun K "_law_choices" "_law_choices" s_law_choices (ad 23) (fdd 23)
  g_law_choices : mg "_law_choices" = some (.ref (ad 23))
  b_law_choices : Binds K (fdd 23) ["_law_many", "_law_size"] []
  F_law_spelled : Fun K "_law_spelled" "_law_spelled" s_law_spelled (ad 24) (fdd 24)
  g_law_spelled : mg "_law_spelled" = some (.ref (ad 24))
  b_law_spelled : Binds K (fdd 24) ["_law_letters_here", "_law_other_here"] []
  F_law_other : Fun K "_law_other" "_law_other" s_law_other (ad 25) (fdd 25)
  g_law_other : mg "_law_other" = some (.ref (ad 25))
  b_law_other : Binds K (fdd 25) ["_law_hand_here", "_law_route"] []
  F_law_joined : Fun K "_law_joined" "_law_joined" s_law_joined (ad 26) (fdd 26)
  g_law_joined : mg "_law_joined" = some (.ref (ad 26))
  b_law_joined : Binds K (fdd 26) ["_law_routes"] []
  F_law : Fun K "law" "law" s_law (ad 27) (fdd 27)
  g_law : mg "law" = some (.ref (ad 27))
  b_law : Binds K (fdd 27) ["_law_script"] []
  x_BadRoute : ExF K mg "BadRoute" (ad 2)
  x_PaperError : ExF K mg "PaperError" (ad 1)
  x_TooMany : ExF K mg "TooMany" (ad 3)
  n_TooMany : mg "TooMany" = some (.ref (ad 3))
  i_TooMany : ∀ n b cls, itab_TooMany n = some b → mg n = some cls → ∃ D, cls = .ref D ∧ ExcC K D ∧ PySem.W.kitOne K (.ref D) (.ref (ad 3)) = some b
  h_PaperError : ∀ n b cls, tab_PaperError n = some b → mg n = some cls → PySem.W.exmOne K cls (.ref (ad 1)) = some b
  kb_reduced_0_route : KBinds K (fdd 7) ["route"] ["route"] (gP [(false, 0)]) (gP [(false, 0)])
  kb_spelled_at_0_other_route : KBinds K (fdd 15) ["route", "other"] ["other", "route"] (gP [(false, 1), (false, 0)]) (gP [(false, 1), (false, 0)])
  kb_never_later_0_other_route : KBinds K (fdd 14) ["route", "other"] ["other", "route"] (gP [(false, 1), (false, 0)]) (gP [(false, 1), (false, 0)])
abbrev F_law_draw := F_draw6
abbrev F_law_hand := F_hand
def B_law_letters : Env → R Out :=
  (retS (callD gTuple (consA (lstD (compD (rngI (consA (callF 2 F_law_draw (consA (varD 0) (consA (bin gAdd (varD 1) (cD (.int 1))) nilA))) nilA)) (tName 2) yesT (bin gIx (cD (.str "ab+cd+")) (callF 2 F_law_draw (consA (varD 0) (consA (bin gIx (lstD (dispL (consA (cD (.int 4)) (consA (cD (.int 6)) nilA)))) (callF 2 F_law_draw (consA (varD 0) (consA (cD (.int 2)) nilA)))) nilA)))) [2])) nilA)))
def F_law_letters : List D → R D := defF 3 B_law_letters
def B_law_reduced : Env → R Out :=
  (seqS (setO 1 (dispL nilA))
    (seqS (forS (rngI (consA (callD gLen (consA (varD 0) nilA)) nilA)) (tName 2)
    (ifS (orT (blT (bin gEq (bin gIx (varD 0) (varD 2)) (cD (.str "+")))) (orT (blT (bin gEq (varD 2) (cD (.int 0)))) (blT (bin gNe (bin gIx (varD 0) (bin gSub (varD 2) (cD (.int 1)))) (bin gIx (varD 0) (varD 2))))))
    (appS 1 (bin gIx (varD 0) (varD 2)))
    passS))
    (retS (ownTup 1))))
def F_law_reduced : List D → R D := defF 3 B_law_reduced
def B_law_choices : Env → R Out :=
  (seqS (setS 2 (lstD (dispL (consA (tupD nilA) nilA))))
    (seqS (forS (rngI (consA (varD 1) nilA)) (tName 3)
    (seqS (setS 4 (lstD (dispL nilA)))
    (seqS (forS (iterF (varD 2)) (tName 5)
    (seqS (setS 6 (ifD (blT (bin gNe (varD 5) (tupD nilA))) (bin gAdd (bin gIx (varD 5) (un gNeg (cD (.int 1)))) (cD (.int 1))) (cD (.int 0))))
    (setS 4 (bin gAdd (varD 4) (lstD (compD (rngI (consA (varD 6) (consA (varD 0) nilA))) (tName 7) yesT (bin gAdd (varD 5) (tupD (consA (varD 7) nilA))) [7]))))))
    (setS 2 (varD 4)))))
    (retS (varD 2))))
def F_law_choices : List D → R D := defF 8 B_law_choices
def B_law_spelled : Env → R Out :=
  (seqS (forS (iterF (callF 2 F_law_choices (consA (callD gLen (consA (varD 1) nilA)) (consA (callD gLen (consA (varD 0) nilA)) nilA)))) (tName 2)
    (ifS (blT (bin gEq (lstD (compD (iterF (varD 2)) (tName 3) yesT (bin gIx (varD 1) (varD 3)) [3])) (lstD (listF (varD 0)))))
    (retS (varD 2))
    passS))
    (retS (cD .none)))
def F_law_spelled : List D → R D := defF 4 B_law_spelled
def B_law_other : Env → R Out :=
  (seqS (setS 2 (lstD (listF (varD 1))))
    (seqS (forS (rngI (consA (callF 2 F_law_draw (consA (varD 0) (consA (cD (.int 4)) nilA))) nilA)) (tName 3)
    (seqS (setS 4 (callF 2 F_law_draw (consA (varD 0) (consA (bin gAdd (callD gLen (consA (varD 2) nilA)) (cD (.int 1))) nilA))))
    (seqS (setS 5 (callF 2 F_law_draw (consA (varD 0) (consA (cD (.int 3)) nilA))))
    (seqS (ifS (blT (bin gEq (varD 5) (cD (.int 0))))
    (setS 2 (bin gAdd (slD gSl (varD 2) noPart (part (varD 4))) (slD gSl (varD 2) (part (bin gAdd (varD 4) (cD (.int 1)))) noPart)))
    passS)
    (seqS (ifS (blT (bin gEq (varD 5) (cD (.int 1))))
    (setS 2 (bin gAdd (bin gAdd (slD gSl (varD 2) noPart (part (varD 4))) (lstD (dispL (consA (bin gIx (cD (.str "ab+c")) (callF 2 F_law_draw (consA (varD 0) (consA (cD (.int 4)) nilA)))) nilA)))) (slD gSl (varD 2) (part (varD 4)) noPart)))
    passS)
    (ifS (blT (bin gEq (varD 5) (cD (.int 2))))
    (setS 2 (bin gAdd (bin gAdd (slD gSl (varD 2) noPart (part (varD 4))) (lstD (revLV (slD gSl (varD 2) (part (varD 4)) (part (bin gAdd (varD 4) (cD (.int 2)))))))) (slD gSl (varD 2) (part (bin gAdd (varD 4) (cD (.int 2)))) noPart)))
    passS))))))
    (retS (callD gTuple (consA (slD gSl (varD 2) noPart (part (cD (.int 8)))) nilA)))))
def F_law_other : List D → R D := defF 6 B_law_other
def B_law_joined : Env → R Out :=
  (seqS (setS 1 (cD .none))
    (seqS (tryL (ifS (blT (bin gEq (callD gLen (consA (varD 0) nilA)) (cD (.int 1))))
    (setS 1 (callS F_joined (consA (bin gIx (varD 0) (cD (.int 0))) nilA)))
    (ifS (blT (bin gEq (callD gLen (consA (varD 0) nilA)) (cD (.int 2))))
    (setS 1 (callS F_joined (consA (bin gIx (varD 0) (cD (.int 0))) (consA (bin gIx (varD 0) (cD (.int 1))) nilA))))
    (ifS (blT (bin gEq (callD gLen (consA (varD 0) nilA)) (cD (.int 3))))
    (setS 1 (callS F_joined (consA (bin gIx (varD 0) (cD (.int 0))) (consA (bin gIx (varD 0) (cD (.int 1))) (consA (bin gIx (varD 0) (cD (.int 2))) nilA)))))
    (setS 1 (callS F_joined (consA (bin gIx (varD 0) (cD (.int 0))) (consA (bin gIx (varD 0) (cD (.int 1))) (consA (bin gIx (varD 0) (cD (.int 2))) (consA (bin gIx (varD 0) (cD (.int 3))) nilA))))))))) tab_PaperError 2 (setS 1 (isiE itab_TooMany (varD 2))))
    (retS (varD 1))))
def F_law_joined : List D → R D := defF 3 B_law_joined
def B_law : Env → R Out :=
  (seqS (setS 1 (callF 1 F_law_hand (consA (varD 0) nilA)))
    (seqS (forS (rngI (consA (callD gMax (consA (cD (.int 1)) (consA (callD gMin (consA (cD (.int 8)) (consA (callD gLen (consA (varD 0) nilA)) nilA))) nilA))) nilA)) (tName 2)
    (seqS (setS 3 (callF 2 F_law_letters (consA (varD 1) (consA (cD (.int 8)) nilA))))
    (seqS (setS 4 (bin gIx (lstD (dispL (consA (callF 2 F_law_other (consA (varD 1) (consA (varD 3) nilA))) (consA (callF 2 F_law_letters (consA (varD 1) (consA (cD (.int 8)) nilA))) nilA)))) (callF 2 F_law_draw (consA (varD 1) (consA (cD (.int 2)) nilA)))))
    (seqS (setS 5 (callF 1 F_law_reduced (consA (varD 3) nilA)))
    (seqS (ifS (orT (blT (bin gNe (callF 1 F_reduced (consA (varD 3) nilA)) (varD 5))) (blT (bin gNe (callK 1 F_reduced [(false, 0)] nilA (consA (varD 4) nilA)) (callF 1 F_law_reduced (consA (varD 4) nilA)))))
    (retS (cD (.bool false)))
    passS)
    (seqS (forS (iterF (lstD (dispL (consA (tupD (consA (varD 3) (consA (varD 4) nilA))) (consA (tupD (consA (varD 4) (consA (varD 3) nilA))) nilA))))) (tTup 2 (tCons (tName 6) (tCons (tName 7) tNil)))
    (seqS (setS 8 (callF 2 F_law_spelled (consA (callF 1 F_law_reduced (consA (varD 6) nilA)) (consA (varD 7) nilA))))
    (seqS (ifS (orT (blT (bin gNe (callF 2 F_spelled_at (consA (varD 6) (consA (varD 7) nilA))) (varD 8))) (blT (bin gNe (callK 2 F_spelled_at [(false, 1), (false, 0)] nilA (consA (varD 7) (consA (varD 6) nilA))) (varD 8))))
    (retS (cD (.bool false)))
    passS)
    (seqS (setS 9 (callF 2 F_never_later (consA (varD 6) (consA (varD 7) nilA))))
    (ifS (orT (notT (truT (isiD "bool" (varD 9)))) (orT (blT (bin gNe (varD 9) (bin gIsNot (varD 8) (cD .none)))) (blT (bin gNe (callK 2 F_never_later [(false, 1), (false, 0)] nilA (consA (varD 7) (consA (varD 6) nilA))) (varD 9)))))
    (retS (cD (.bool false)))
    passS)))))
    (seqS (setS 10 (slD gSl (lstD (dispL (consA (varD 3) (consA (varD 4) (consA (callF 2 F_law_letters (consA (varD 1) (consA (cD (.int 3)) nilA))) (consA (callF 2 F_law_letters (consA (varD 1) (consA (cD (.int 2)) nilA))) nilA)))))) noPart (part (bin gAdd (cD (.int 1)) (callF 2 F_law_draw (consA (varD 1) (consA (cD (.int 4)) nilA)))))))
    (seqS (setS 11 (tupD nilA))
    (seqS (forS (iterF (varD 10)) (tName 6)
    (setS 11 (bin gAdd (varD 11) (varD 6))))
    (seqS (setS 8 (callF 1 F_law_reduced (consA (varD 11) nilA)))
    (seqS (ifS (blT (bin gNe (callF 1 F_law_joined (consA (varD 10) nilA)) (ifD (blT (bin gLe (callD gLen (consA (varD 8) nilA)) (cD (.int 8)))) (varD 8) (cD (.bool true)))))
    (retS (cD (.bool false)))
    passS)
    (seqS (setS 12 (bin gIx (lstD (dispL (consA (cD .none) (consA (lstD (dispL (consA (cD (.str "a")) nilA))) (consA (tupD (consA (cD (.str "A")) nilA)) (consA (bin gMulA (tupD (consA (cD (.str "+")) nilA)) (cD (.int 9))) nilA)))))) (callF 2 F_law_draw (consA (varD 1) (consA (cD (.int 4)) nilA)))))
    (ifS (orT (blT (bin gIsNotA (callF 1 F_law_joined (consA (lstD (dispL (consA (varD 3) (consA (varD 4) (consA (varD 12) nilA))))) nilA)) (cD (.bool false)))) (blT (bin gIsNotA (callF 1 F_law_joined (consA (lstD (dispL (consA (varD 3) (consA (varD 4) (consA (tupD nilA) (consA (varD 12) nilA)))))) nilA)) (cD (.bool false)))))
    (retS (cD (.bool false)))
    passS)))))))))))))
    (retS (andD (bin gEq (callS F_joined (consA (tupD (consA (cD (.str "a")) nilA)) (consA (tupD (consA (cD (.str "a")) nilA)) nilA))) (tupD (consA (cD (.str "a")) nilA))) (bin gEq (callF 2 F_spelled_at (consA (tupD nilA) (consA (tupD nilA) nilA))) (tupD nilA))))))
def F_law : List D → R D := defF 13 B_law
section
variable {P : Program} {w : World} {K : PySem.W.Frag} {mg : Str → Option Value} {base : Heap} {ad : Nat → Addr} {fdd : Nat → FuncData}
theorem ok_is_name (T : Tx K mg ad fdd) : FnG P w K mg base (L2.CX P w) 1 (ad 10) (fdd 10) ["thing"] (SpD w K mg DPh 1 F_is_name) :=
  fn_D T.F_is_name sc_is_name rfl rfl fun cdv A outer s H E S' dk hr hgu => by
    have tk : Takes (cxOf (L2.CX P w) P w K mg base N_is_name "is_name" (defScope s_is_name) (ad 10) cdv A outer s H E) (fun cls d _ H => E cls d H) := takes_of rfl rfl rfl rfl
    have hpo : PassesOwn (model P w) (cxOf (L2.CX P w) P w K mg base N_is_name "is_name" (defScope s_is_name) (ad 10) cdv A outer s H E).A (cxOf (L2.CX P w) P w K mg base N_is_name "is_name" (defScope s_is_name) (ad 10) cdv A outer s H E).env (cxOf (L2.CX P w) P w K mg base N_is_name "is_name" (defScope s_is_name) (ad 10) cdv A outer s H E).xe := passes_of (X := cxOf (L2.CX P w) P w K mg base N_is_name "is_name" (defScope s_is_name) (ad 10) cdv A outer s H E) rfl
    exact (dss_one (ds_ret (de_and rfl (de_isi (T := "str") rfl (pe_callB c_isi1 (by rfl) T.m_isinstance (by decide +kernel) (pa_cons (de_var (pv 0)) (pa_cons (pe_bltn (v := .ty "str") rfl T.m_str (by decide +kernel) rfl) pa_nil)))) (de_and rfl (de_cmp (op_eqAll hr.units) (d_eq _) (de_callB c_lenV (d_len _) (by rfl) T.m_len (by decide +kernel) (da_cons (de_var (pv 0)) da_nil)) (de_int pe_int) (nomark _)) (de_one (de_chain op_leAll op_leAll (d_le _) (d_le _) (de_str pe_str) (de_var (pv 0)) (de_str pe_str)))))))
theorem ok_is_letter (T : Tx K mg ad fdd) (G_is_name : FnG P w K mg base (L2.CX P w) 1 (ad 10) (fdd 10) ["thing"] (SpD w K mg DPh 1 F_is_name)) : FnG P w K mg base (L2.CX P w) 2 (ad 12) (fdd 12) ["thing"] (SpD w K mg DPh 1 F_is_letter) :=
  fn_D T.F_is_letter sc_is_letter rfl rfl fun cdv A outer s H E S' dk hr hgu => by
    have tk : Takes (cxOf (L2.CX P w) P w K mg base N_is_letter "_is_letter" (defScope s_is_letter) (ad 12) cdv A outer s H E) (fun cls d _ H => E cls d H) := takes_of rfl rfl rfl rfl
    have hpo : PassesOwn (model P w) (cxOf (L2.CX P w) P w K mg base N_is_letter "_is_letter" (defScope s_is_letter) (ad 12) cdv A outer s H E).A (cxOf (L2.CX P w) P w K mg base N_is_letter "_is_letter" (defScope s_is_letter) (ad 12) cdv A outer s H E).env (cxOf (L2.CX P w) P w K mg base N_is_letter "_is_letter" (defScope s_is_letter) (ad 12) cdv A outer s H E).xe := passes_of (X := cxOf (L2.CX P w) P w K mg base N_is_letter "_is_letter" (defScope s_is_letter) (ad 12) cdv A outer s H E) rfl
    exact (dss_one (ds_ret (de_or rfl (de_call G_is_name (hr.mono (by decide)) hgu (by rfl) T.g_is_name T.F_is_name.kp T.b_is_name tk (da_cons (de_var (pv 0)) da_nil)) (de_one (de_and rfl (de_isi (T := "str") rfl (pe_callB c_isi1 (by rfl) T.m_isinstance (by decide +kernel) (pa_cons (de_var (pv 0)) (pa_cons (pe_bltn (v := .ty "str") rfl T.m_str (by decide +kernel) rfl) pa_nil)))) (de_one (de_cmp (op_eqAll hr.units) (d_eq _) (de_var (pv 0)) (de_str pe_str) (nomark _))))))))
theorem ok_is_route (T : Tx K mg ad fdd) (G_is_letter : FnG P w K mg base (L2.CX P w) 2 (ad 12) (fdd 12) ["thing"] (SpD w K mg DPh 1 F_is_letter)) : FnG P w K mg base (L2.CX P w) 3 (ad 6) (fdd 6) ["thing"] (SpD w K mg DPh 1 F_is_route) :=
  fn_D T.F_is_route sc_is_route rfl rfl fun cdv A outer s H E S' dk hr hgu => by
    have tk : Takes (cxOf (L2.CX P w) P w K mg base N_is_route "is_route" (defScope s_is_route) (ad 6) cdv A outer s H E) (fun cls d _ H => E cls d H) := takes_of rfl rfl rfl rfl
    have hpo : PassesOwn (model P w) (cxOf (L2.CX P w) P w K mg base N_is_route "is_route" (defScope s_is_route) (ad 6) cdv A outer s H E).A (cxOf (L2.CX P w) P w K mg base N_is_route "is_route" (defScope s_is_route) (ad 6) cdv A outer s H E).env (cxOf (L2.CX P w) P w K mg base N_is_route "is_route" (defScope s_is_route) (ad 6) cdv A outer s H E).xe := passes_of (X := cxOf (L2.CX P w) P w K mg base N_is_route "is_route" (defScope s_is_route) (ad 6) cdv A outer s H E) rfl
    exact (dss_one (ds_ret (de_and rfl (de_isi (T := "tuple") rfl (pe_callB c_isi1 (by rfl) T.m_isinstance (by decide +kernel) (pa_cons (de_var (pv 0)) (pa_cons (pe_bltn (v := .ty "tuple") rfl T.m_tuple (by decide +kernel) rfl) pa_nil)))) (de_and rfl (de_cmp op_leAll (d_le _) (de_callB c_lenV (d_len _) (by rfl) T.m_len (by decide +kernel) (da_cons (de_var (pv 0)) da_nil)) (de_int (C8.pe_gc (v := .int (8)) rfl T.m_MOST_LETTERS)) (nomark _)) (de_one (de_callB (cr_all rfl) (d_all _) (by rfl) T.m_all (by decide +kernel) (da_cons (de_lst (dl_lc (vs := [1]) (pe_lc (own := [("letter", 1)]) rfl sc_is_route.nd (di_any rfl (de_var (pv 0))) (blkOk_by (own := [("letter", 1)]) (N := N_is_route) (sc := defScope s_is_route) (by decide +kernel)) (fun _ _ _ _ _ => (pg_name (i := 1) sc_is_route.nd rfl (by first | exact Or.inl rfl | exact Or.inr rfl))) (fun _ _ _ _ _ => dts_nil) (fun _ _ _ _ _ => (de_call G_is_letter (hr.mono (by decide)) hgu (by rfl) T.g_is_letter T.F_is_letter.kp T.b_is_letter takes0 (da_cons (de_var (pv 1)) da_nil)))) (gd_name (by decide)))) da_nil)))))))
theorem ok_need_route (T : Tx K mg ad fdd) (G_is_route : FnG P w K mg base (L2.CX P w) 3 (ad 6) (fdd 6) ["thing"] (SpD w K mg DPh 1 F_is_route)) : FnG P w K mg base (L2.CX P w) 4 (ad 11) (fdd 11) ["thing"] (SpD w K mg DPh 1 F_need_route) :=
  fn_D T.F_need_route sc_need_route rfl rfl fun cdv A outer s H E S' dk hr hgu => by
    have tk : Takes (cxOf (L2.CX P w) P w K mg base N_need_route "need_route" (defScope s_need_route) (ad 11) cdv A outer s H E) (fun cls d _ H => E cls d H) := takes_of rfl rfl rfl rfl
    have hpo : PassesOwn (model P w) (cxOf (L2.CX P w) P w K mg base N_need_route "need_route" (defScope s_need_route) (ad 11) cdv A outer s H E).A (cxOf (L2.CX P w) P w K mg base N_need_route "need_route" (defScope s_need_route) (ad 11) cdv A outer s H E).env (cxOf (L2.CX P w) P w K mg base N_need_route "need_route" (defScope s_need_route) (ad 11) cdv A outer s H E).xe := passes_of (X := cxOf (L2.CX P w) P w K mg base N_need_route "need_route" (defScope s_need_route) (ad 11) cdv A outer s H E) rfl
    exact (dss_one (ds_if (dt_not (dt_tru rfl (de_call G_is_route (hr.mono (by decide)) hgu (by rfl) T.g_is_route T.F_is_route.kp T.b_is_route tk (da_cons (de_var (pv 0)) da_nil))))
    (dss_one (ds_raiseX T.x_BadRoute rfl rfl tk (by rfl) (de_fstr (JsOk.cons (de_str pe_str) (JsOk.cons (de_fmt (de_int (C8.pe_gc (v := .int (8)) rfl T.m_MOST_LETTERS))) (JsOk.cons (de_str pe_str) JsOk.nil))))))
    dss_nil))
theorem ok_reduce_letters (T : Tx K mg ad fdd) : FnG P w K mg base (L2.CX P w) 1 (ad 9) (fdd 9) ["letters"] (SpD w K mg DPh 1 F_reduce_letters) :=
  fn_D T.F_reduce_letters sc_reduce_letters rfl rfl fun cdv A outer s H E S' dk hr hgu => by
    have tk : Takes (cxOf (L2.CX P w) P w K mg base N_reduce_letters "reduce_letters" (defScope s_reduce_letters) (ad 9) cdv A outer s H E) (fun cls d _ H => E cls d H) := takes_of rfl rfl rfl rfl
    have hpo : PassesOwn (model P w) (cxOf (L2.CX P w) P w K mg base N_reduce_letters "reduce_letters" (defScope s_reduce_letters) (ad 9) cdv A outer s H E).A (cxOf (L2.CX P w) P w K mg base N_reduce_letters "reduce_letters" (defScope s_reduce_letters) (ad 9) cdv A outer s H E).env (cxOf (L2.CX P w) P w K mg base N_reduce_letters "reduce_letters" (defScope s_reduce_letters) (ad 9) cdv A outer s H E).xe := passes_of (X := cxOf (L2.CX P w) P w K mg base N_reduce_letters "reduce_letters" (defScope s_reduce_letters) (ad 9) cdv A outer s H E) rfl
    exact (dss_cons (ds_setO (ps_set (i := 1) sc_reduce_letters.nd rfl (by first | exact Or.inl rfl | exact Or.inr rfl) (dl_lst da_nil)))
    (dss_cons (ds_for (vs := [2]) (ps_for hpo rfl (di_any rfl (de_var (pv 0))) (pg_name (i := 2) sc_reduce_letters.nd rfl (by first | exact Or.inl rfl | exact Or.inr rfl))
    (dss_one (ds_if (PW.pt (dw_or (dt_cmp (op_eqAll hr.units) (d_eq _) (de_var (pv 2)) (de_str pe_str) (nomark _)) (dw_or1 (dt_cmp (op_neAll hr.units) (d_ne _) (de_ownSl rfl (pe_slice sl_all (pv 1) (do_some (de_un un_neg (d_neg _) (de_int pe_int))) do_none)) (de_lst (dl_lst (da_cons (de_var (pv 2)) da_nil))) (nomark _)))))
    (dss_one (ds_app (ps_expr (pe_bm PySem.F.plainAttrs_list PySem.F.slot_list_append PySem.F.type_list_append mt_append (pv 1) (pa_cons (de_var (pv 2)) pa_nil)))))
    dss_nil))) (gd_name (by decide)))
    (dss_one (ds_ret (de_ownTup rfl (pe_callTy c_tupOf (by rfl) T.m_tuple (by decide +kernel) (pa_cons (pv 1) pa_nil)))))))
theorem ok_reduced (T : Tx K mg ad fdd) (G_need_route : FnG P w K mg base (L2.CX P w) 4 (ad 11) (fdd 11) ["thing"] (SpD w K mg DPh 1 F_need_route)) (G_reduce_letters : FnG P w K mg base (L2.CX P w) 1 (ad 9) (fdd 9) ["letters"] (SpD w K mg DPh 1 F_reduce_letters)) : FnG P w K mg base (L2.CX P w) 5 (ad 7) (fdd 7) ["route"] (SpD w K mg DPh 1 F_reduced) :=
  fn_D T.F_reduced sc_reduced rfl rfl fun cdv A outer s H E S' dk hr hgu => by
    have tk : Takes (cxOf (L2.CX P w) P w K mg base N_reduced "reduced" (defScope s_reduced) (ad 7) cdv A outer s H E) (fun cls d _ H => E cls d H) := takes_of rfl rfl rfl rfl
    have hpo : PassesOwn (model P w) (cxOf (L2.CX P w) P w K mg base N_reduced "reduced" (defScope s_reduced) (ad 7) cdv A outer s H E).A (cxOf (L2.CX P w) P w K mg base N_reduced "reduced" (defScope s_reduced) (ad 7) cdv A outer s H E).env (cxOf (L2.CX P w) P w K mg base N_reduced "reduced" (defScope s_reduced) (ad 7) cdv A outer s H E).xe := passes_of (X := cxOf (L2.CX P w) P w K mg base N_reduced "reduced" (defScope s_reduced) (ad 7) cdv A outer s H E) rfl
    exact (dss_cons (ds_expr (de_call G_need_route (hr.mono (by decide)) hgu (by rfl) T.g_need_route T.F_need_route.kp T.b_need_route tk (da_cons (de_var (pv 0)) da_nil)))
    (dss_one (ds_ret (de_call G_reduce_letters (hr.mono (by decide)) hgu (by rfl) T.g_reduce_letters T.F_reduce_letters.kp T.b_reduce_letters tk (da_cons (de_var (pv 0)) da_nil)))))
theorem ok_joined (T : Tx K mg ad fdd) (G_reduce_letters : FnG P w K mg base (L2.CX P w) 1 (ad 9) (fdd 9) ["letters"] (SpD w K mg DPh 1 F_reduce_letters)) (G_need_route : FnG P w K mg base (L2.CX P w) 4 (ad 11) (fdd 11) ["thing"] (SpD w K mg DPh 1 F_need_route)) : FnS P w K mg base (L2.CX P w) 5 (ad 8) (SpD w K mg DPh 1 F_joined) :=
  fn_S T.F_joined sc_joined rfl T.b_joined fun cdv A outer s H E S' dk hr hgu => by
    have tk : Takes (cxOf (L2.CX P w) P w K mg base N_joined "joined" (defScope s_joined) (ad 8) cdv A outer s H E) (fun cls d _ H => E cls d H) := takes_of rfl rfl rfl rfl
    have hpo : PassesOwn (model P w) (cxOf (L2.CX P w) P w K mg base N_joined "joined" (defScope s_joined) (ad 8) cdv A outer s H E).A (cxOf (L2.CX P w) P w K mg base N_joined "joined" (defScope s_joined) (ad 8) cdv A outer s H E).env (cxOf (L2.CX P w) P w K mg base N_joined "joined" (defScope s_joined) (ad 8) cdv A outer s H E).xe := passes_of (X := cxOf (L2.CX P w) P w K mg base N_joined "joined" (defScope s_joined) (ad 8) cdv A outer s H E) rfl
    exact (dss_cons (ds_for (vs := [1]) (ps_for hpo rfl (di_any rfl (de_var (pv 0))) (pg_name (i := 1) sc_joined.nd rfl (by first | exact Or.inl rfl | exact Or.inr rfl))
    (dss_one (ds_expr (de_call G_need_route (hr.mono (by decide)) hgu (by rfl) T.g_need_route T.F_need_route.kp T.b_need_route tk (da_cons (de_var (pv 1)) da_nil))))) (gd_name (by decide)))
    (dss_cons (ds_set (ps_set (i := 2) sc_joined.nd rfl (by first | exact Or.inl rfl | exact Or.inr rfl) (de_call G_reduce_letters (hr.mono (by decide)) hgu (by rfl) T.g_reduce_letters T.F_reduce_letters.kp T.b_reduce_letters tk (da_cons (de_lst (dl_lc2 (vs := [1, 3]) (vs1 := [3]) (pe_lc2 (own := [("route", 1), ("letter", 3)]) rfl sc_joined.nd (di_any rfl (de_var (pv 0))) (blkOk_by (own := [("route", 1), ("letter", 3)]) (N := N_joined) (sc := defScope s_joined) (by decide +kernel)) (by decide) (fun _ _ _ _ _ => (pg_name (i := 1) sc_joined.nd rfl (by first | exact Or.inl rfl | exact Or.inr rfl))) (fun _ _ _ _ _ => dts_nil) (fun _ _ _ _ _ => (di_any rfl (de_var (pv 1)))) (fun _ _ _ _ _ => (pg_name (i := 3) sc_joined.nd rfl (by first | exact Or.inl rfl | exact Or.inr rfl))) (fun _ _ _ _ _ => dts_nil) (fun _ _ _ _ _ => (de_var (pv 3)))) (gd_name (by decide)) (gd_name (by decide)))) da_nil))))
    (dss_cons (ds_if (dt_cmp op_gt (d_gt _) (de_callB c_lenV (d_len _) (by rfl) T.m_len (by decide +kernel) (da_cons (de_var (pv 2)) da_nil)) (de_int (C8.pe_gc (v := .int (8)) rfl T.m_MOST_LETTERS)) (nomark _))
    (dss_one (ds_raiseX T.x_TooMany rfl rfl tk (by rfl) (de_fstr (JsOk.cons (de_str pe_str) (JsOk.cons (de_fmt (de_int (C8.pe_gc (v := .int (8)) rfl T.m_MOST_LETTERS))) (JsOk.cons (de_str pe_str) JsOk.nil))))))
    dss_nil)
    (dss_one (ds_ret (de_var (pv 2)))))))
theorem ok_need_routes (T : Tx K mg ad fdd) (G_need_route : FnG P w K mg base (L2.CX P w) 4 (ad 11) (fdd 11) ["thing"] (SpD w K mg DPh 1 F_need_route)) : FnG P w K mg base (L2.CX P w) 5 (ad 17) (fdd 17) ["route", "other"] (SpD w K mg DPh 2 F_need_routes) :=
  fn_D T.F_need_routes sc_need_routes rfl rfl fun cdv A outer s H E S' dk hr hgu => by
    have tk : Takes (cxOf (L2.CX P w) P w K mg base N_need_routes "_need_routes" (defScope s_need_routes) (ad 17) cdv A outer s H E) (fun cls d _ H => E cls d H) := takes_of rfl rfl rfl rfl
    have hpo : PassesOwn (model P w) (cxOf (L2.CX P w) P w K mg base N_need_routes "_need_routes" (defScope s_need_routes) (ad 17) cdv A outer s H E).A (cxOf (L2.CX P w) P w K mg base N_need_routes "_need_routes" (defScope s_need_routes) (ad 17) cdv A outer s H E).env (cxOf (L2.CX P w) P w K mg base N_need_routes "_need_routes" (defScope s_need_routes) (ad 17) cdv A outer s H E).xe := passes_of (X := cxOf (L2.CX P w) P w K mg base N_need_routes "_need_routes" (defScope s_need_routes) (ad 17) cdv A outer s H E) rfl
    exact (dss_cons (ds_expr (de_call G_need_route (hr.mono (by decide)) hgu (by rfl) T.g_need_route T.F_need_route.kp T.b_need_route tk (da_cons (de_var (pv 0)) da_nil)))
    (dss_one (ds_expr (de_call G_need_route (hr.mono (by decide)) hgu (by rfl) T.g_need_route T.F_need_route.kp T.b_need_route tk (da_cons (de_var (pv 1)) da_nil)))))
theorem ok_spell (T : Tx K mg ad fdd) : FnG P w K mg base (L2.CX P w) 1 (ad 16) (fdd 16) ["letters", "other"] (SpD w K mg DPh 2 F_spell) :=
  fn_D T.F_spell sc_spell rfl rfl fun cdv A outer s H E S' dk hr hgu => by
    have tk : Takes (cxOf (L2.CX P w) P w K mg base N_spell "spell" (defScope s_spell) (ad 16) cdv A outer s H E) (fun cls d _ H => E cls d H) := takes_of rfl rfl rfl rfl
    have hpo : PassesOwn (model P w) (cxOf (L2.CX P w) P w K mg base N_spell "spell" (defScope s_spell) (ad 16) cdv A outer s H E).A (cxOf (L2.CX P w) P w K mg base N_spell "spell" (defScope s_spell) (ad 16) cdv A outer s H E).env (cxOf (L2.CX P w) P w K mg base N_spell "spell" (defScope s_spell) (ad 16) cdv A outer s H E).xe := passes_of (X := cxOf (L2.CX P w) P w K mg base N_spell "spell" (defScope s_spell) (ad 16) cdv A outer s H E) rfl
    exact (dss_cons (ds_setO (ps_set (i := 2) sc_spell.nd rfl (by first | exact Or.inl rfl | exact Or.inr rfl) (dl_lst da_nil)))
    (dss_cons (ds_for (vs := [3, 4]) (ps_for hpo rfl (di_enum rfl (pi_enumA (by rfl) T.m_enumerate (de_var (pv 1)))) (pg_tup rfl (pgs_cons (pg_name (i := 3) sc_spell.nd rfl (by first | exact Or.inl rfl | exact Or.inr rfl)) (pgs_cons (pg_name (i := 4) sc_spell.nd rfl (by first | exact Or.inl rfl | exact Or.inr rfl)) pgs_nil)))
    (dss_one (ds_if (PW.pt (dw_and (dt_cmp (op_ltAll hr.units) (d_lt _) (de_ownLen rfl (pe_callB c_lenV (by rfl) T.m_len (by decide +kernel) (pa_cons (pv 2) pa_nil))) (de_callB c_lenV (d_len _) (by rfl) T.m_len (by decide +kernel) (da_cons (de_var (pv 0)) da_nil)) (nomark _)) (dw_and1 (dt_cmp (op_eqAll hr.units) (d_eq _) (de_ix ix_seq (d_ix _) (de_var (pv 0)) (de_ownLen rfl (pe_callB c_lenV (by rfl) T.m_len (by decide +kernel) (pa_cons (pv 2) pa_nil))) (fun _ _ => rfl)) (de_var (pv 4)) (nomark _)))))
    (dss_one (ds_app (ps_expr (pe_bm PySem.F.plainAttrs_list PySem.F.slot_list_append PySem.F.type_list_append mt_append (pv 2) (pa_cons (de_var (pv 3)) pa_nil)))))
    dss_nil))) (gd_tup (n := 2) (gd_cons (gd_name (by decide)) (gd_cons (gd_name (by decide)) gd_nil)) rfl))
    (dss_one (ds_ret (de_if (dt_cmp (op_eqAll hr.units) (d_eq _) (de_ownLen rfl (pe_callB c_lenV (by rfl) T.m_len (by decide +kernel) (pa_cons (pv 2) pa_nil))) (de_callB c_lenV (d_len _) (by rfl) T.m_len (by decide +kernel) (da_cons (de_var (pv 0)) da_nil)) (nomark _)) (de_ownTup rfl (pe_callTy c_tupOf (by rfl) T.m_tuple (by decide +kernel) (pa_cons (pv 2) pa_nil))) (de_non pe_non))))))
theorem ok_never_later (T : Tx K mg ad fdd) (G_need_routes : FnG P w K mg base (L2.CX P w) 5 (ad 17) (fdd 17) ["route", "other"] (SpD w K mg DPh 2 F_need_routes)) (G_spell : FnG P w K mg base (L2.CX P w) 1 (ad 16) (fdd 16) ["letters", "other"] (SpD w K mg DPh 2 F_spell)) (G_reduce_letters : FnG P w K mg base (L2.CX P w) 1 (ad 9) (fdd 9) ["letters"] (SpD w K mg DPh 1 F_reduce_letters)) : FnG P w K mg base (L2.CX P w) 6 (ad 14) (fdd 14) ["route", "other"] (SpD w K mg DPh 2 F_never_later) :=
  fn_D T.F_never_later sc_never_later rfl rfl fun cdv A outer s H E S' dk hr hgu => by
    have tk : Takes (cxOf (L2.CX P w) P w K mg base N_never_later "never_later" (defScope s_never_later) (ad 14) cdv A outer s H E) (fun cls d _ H => E cls d H) := takes_of rfl rfl rfl rfl
    have hpo : PassesOwn (model P w) (cxOf (L2.CX P w) P w K mg base N_never_later "never_later" (defScope s_never_later) (ad 14) cdv A outer s H E).A (cxOf (L2.CX P w) P w K mg base N_never_later "never_later" (defScope s_never_later) (ad 14) cdv A outer s H E).env (cxOf (L2.CX P w) P w K mg base N_never_later "never_later" (defScope s_never_later) (ad 14) cdv A outer s H E).xe := passes_of (X := cxOf (L2.CX P w) P w K mg base N_never_later "never_later" (defScope s_never_later) (ad 14) cdv A outer s H E) rfl
    exact (dss_cons (ds_expr (de_call G_need_routes (hr.mono (by decide)) hgu (by rfl) T.g_need_routes T.F_need_routes.kp T.b_need_routes tk (da_cons (de_var (pv 0)) (da_cons (de_var (pv 1)) da_nil))))
    (dss_one (ds_ret (de_cmp op_isNotAll (d_isNot _) (de_call G_spell (hr.mono (by decide)) hgu (by rfl) T.g_spell T.F_spell.kp T.b_spell tk (da_cons (de_call G_reduce_letters (hr.mono (by decide)) hgu (by rfl) T.g_reduce_letters T.F_reduce_letters.kp T.b_reduce_letters tk (da_cons (de_var (pv 0)) da_nil)) (da_cons (de_var (pv 1)) da_nil))) (de_non pe_non) (nomark _)))))
theorem ok_spelled_at (T : Tx K mg ad fdd) (G_need_routes : FnG P w K mg base (L2.CX P w) 5 (ad 17) (fdd 17) ["route", "other"] (SpD w K mg DPh 2 F_need_routes)) (G_spell : FnG P w K mg base (L2.CX P w) 1 (ad 16) (fdd 16) ["letters", "other"] (SpD w K mg DPh 2 F_spell)) (G_reduce_letters : FnG P w K mg base (L2.CX P w) 1 (ad 9) (fdd 9) ["letters"] (SpD w K mg DPh 1 F_reduce_letters)) : FnG P w K mg base (L2.CX P w) 6 (ad 15) (fdd 15) ["route", "other"] (SpD w K mg DPh 2 F_spelled_at) :=
  fn_D T.F_spelled_at sc_spelled_at rfl rfl fun cdv A outer s H E S' dk hr hgu => by
    have tk : Takes (cxOf (L2.CX P w) P w K mg base N_spelled_at "spelled_at" (defScope s_spelled_at) (ad 15) cdv A outer s H E) (fun cls d _ H => E cls d H) := takes_of rfl rfl rfl rfl
    have hpo : PassesOwn (model P w) (cxOf (L2.CX P w) P w K mg base N_spelled_at "spelled_at" (defScope s_spelled_at) (ad 15) cdv A outer s H E).A (cxOf (L2.CX P w) P w K mg base N_spelled_at "spelled_at" (defScope s_spelled_at) (ad 15) cdv A outer s H E).env (cxOf (L2.CX P w) P w K mg base N_spelled_at "spelled_at" (defScope s_spelled_at) (ad 15) cdv A outer s H E).xe := passes_of (X := cxOf (L2.CX P w) P w K mg base N_spelled_at "spelled_at" (defScope s_spelled_at) (ad 15) cdv A outer s H E) rfl
    exact (dss_cons (ds_expr (de_call G_need_routes (hr.mono (by decide)) hgu (by rfl) T.g_need_routes T.F_need_routes.kp T.b_need_routes tk (da_cons (de_var (pv 0)) (da_cons (de_var (pv 1)) da_nil))))
    (dss_one (ds_ret (de_call G_spell (hr.mono (by decide)) hgu (by rfl) T.g_spell T.F_spell.kp T.b_spell tk (da_cons (de_call G_reduce_letters (hr.mono (by decide)) hgu (by rfl) T.g_reduce_letters T.F_reduce_letters.kp T.b_reduce_letters tk (da_cons (de_var (pv 0)) da_nil)) (da_cons (de_var (pv 1)) da_nil))))))
theorem ok_law_letters (T : Tx K mg ad fdd) (G_law_draw : FnG P w K mg base (L2.CX P w) 1 (ad 20) (fdd 20) ["_law_hand_here", "_law_size"] (SpD w K mg DPh 2 F_law_draw)) : FnG P w K mg base (L2.CX P w) 2 (ad 21) (fdd 21) ["_law_hand_here", "_law_most"] (SpD w K mg DPh 2 F_law_letters) :=
  fn_D T.F_law_letters sc_law_letters rfl rfl fun cdv A outer s H E S' dk hr hgu => by
    have tk : Takes (cxOf (L2.CX P w) P w K mg base N_law_letters "_law_letters" (defScope s_law_letters) (ad 21) cdv A outer s H E) (fun cls d _ H => E cls d H) := takes_of rfl rfl rfl rfl
    have hpo : PassesOwn (model P w) (cxOf (L2.CX P w) P w K mg base N_law_letters "_law_letters" (defScope s_law_letters) (ad 21) cdv A outer s H E).A (cxOf (L2.CX P w) P w K mg base N_law_letters "_law_letters" (defScope s_law_letters) (ad 21) cdv A outer s H E).env (cxOf (L2.CX P w) P w K mg base N_law_letters "_law_letters" (defScope s_law_letters) (ad 21) cdv A outer s H E).xe := passes_of (X := cxOf (L2.CX P w) P w K mg base N_law_letters "_law_letters" (defScope s_law_letters) (ad 21) cdv A outer s H E) rfl
    exact (dss_one (ds_ret (de_callTy c_tupOf (d_tuple _) (by rfl) T.m_tuple (by decide +kernel) (da_cons (de_lst (dl_lc (vs := [2]) (pe_lc (own := [("_law_turn", 2)]) rfl sc_law_letters.nd (di_rng1 (n := "") (pi_range1 (by rfl) T.m_range (da_cons (de_call G_law_draw (hr.mono (by decide)) hgu (by rfl) T.g_law_draw T.F_law_draw.kp T.b_law_draw tk (da_cons (de_var (pv 0)) (da_cons (de_op op_addAll (d_add _) (de_var (pv 1)) (de_int pe_int)) da_nil))) da_nil)) (len_cons len_nil)) (blkOk_by (own := [("_law_turn", 2)]) (N := N_law_letters) (sc := defScope s_law_letters) (by decide +kernel)) (fun _ _ _ _ _ => (pg_name (i := 2) sc_law_letters.nd rfl (by first | exact Or.inl rfl | exact Or.inr rfl))) (fun _ _ _ _ _ => dts_nil) (fun _ _ _ _ _ => (de_ix ix_seq (d_ix _) (de_str pe_str) (de_call G_law_draw (hr.mono (by decide)) hgu (by rfl) T.g_law_draw T.F_law_draw.kp T.b_law_draw takes0 (da_cons (de_var (pv 0)) (da_cons (de_ix ix_seq (d_ix _) (de_lst (dl_lst (da_cons (de_int pe_int) (da_cons (de_int pe_int) da_nil)))) (de_call G_law_draw (hr.mono (by decide)) hgu (by rfl) T.g_law_draw T.F_law_draw.kp T.b_law_draw takes0 (da_cons (de_var (pv 0)) (da_cons (de_int pe_int) da_nil))) (fun _ _ => rfl)) da_nil))) (fun _ _ => rfl)))) (gd_name (by decide)))) da_nil))))
theorem ok_law_reduced (T : Tx K mg ad fdd) : FnG P w K mg base (L2.CX P w) 1 (ad 22) (fdd 22) ["_law_route"] (SpD w K mg DPh 1 F_law_reduced) :=
  fn_D T.F_law_reduced sc_law_reduced rfl rfl fun cdv A outer s H E S' dk hr hgu => by
    have tk : Takes (cxOf (L2.CX P w) P w K mg base N_law_reduced "_law_reduced" (defScope s_law_reduced) (ad 22) cdv A outer s H E) (fun cls d _ H => E cls d H) := takes_of rfl rfl rfl rfl
    have hpo : PassesOwn (model P w) (cxOf (L2.CX P w) P w K mg base N_law_reduced "_law_reduced" (defScope s_law_reduced) (ad 22) cdv A outer s H E).A (cxOf (L2.CX P w) P w K mg base N_law_reduced "_law_reduced" (defScope s_law_reduced) (ad 22) cdv A outer s H E).env (cxOf (L2.CX P w) P w K mg base N_law_reduced "_law_reduced" (defScope s_law_reduced) (ad 22) cdv A outer s H E).xe := passes_of (X := cxOf (L2.CX P w) P w K mg base N_law_reduced "_law_reduced" (defScope s_law_reduced) (ad 22) cdv A outer s H E) rfl
    exact (dss_cons (ds_setO (ps_set (i := 1) sc_law_reduced.nd rfl (by first | exact Or.inl rfl | exact Or.inr rfl) (dl_lst da_nil)))
    (dss_cons (ds_for (vs := [2]) (ps_for hpo rfl (di_rng1 (n := "") (pi_range1 (by rfl) T.m_range (da_cons (de_callB c_lenV (d_len _) (by rfl) T.m_len (by decide +kernel) (da_cons (de_var (pv 0)) da_nil)) da_nil)) (len_cons len_nil)) (pg_name (i := 2) sc_law_reduced.nd rfl (by first | exact Or.inl rfl | exact Or.inr rfl))
    (dss_one (ds_if (PW.pt (dw_or (dt_cmp (op_eqAll hr.units) (d_eq _) (de_ix ix_seq (d_ix _) (de_var (pv 0)) (de_var (pv 2)) (fun _ _ => rfl)) (de_str pe_str) (nomark _)) (dw_or (dt_cmp (op_eqAll hr.units) (d_eq _) (de_var (pv 2)) (de_int pe_int) (nomark _)) (dw_or1 (dt_cmp (op_neAll hr.units) (d_ne _) (de_ix ix_seq (d_ix _) (de_var (pv 0)) (de_op op_sub (d_sub _) (de_var (pv 2)) (de_int pe_int)) (fun _ _ => rfl)) (de_ix ix_seq (d_ix _) (de_var (pv 0)) (de_var (pv 2)) (fun _ _ => rfl)) (nomark _))))))
    (dss_one (ds_app (ps_expr (pe_bm PySem.F.plainAttrs_list PySem.F.slot_list_append PySem.F.type_list_append mt_append (pv 1) (pa_cons (de_ix ix_seq (d_ix _) (de_var (pv 0)) (de_var (pv 2)) (fun _ _ => rfl)) pa_nil)))))
    dss_nil))) (gd_name (by decide)))
    (dss_one (ds_ret (de_ownTup rfl (pe_callTy c_tupOf (by rfl) T.m_tuple (by decide +kernel) (pa_cons (pv 1) pa_nil)))))))
theorem ok_law_choices (T : Tx K mg ad fdd) : FnG P w K mg base (L2.CX P w) 1 (ad 23) (fdd 23) ["_law_many", "_law_size"] (SpD w K mg DPh 2 F_law_choices) :=
  fn_D T.F_law_choices sc_law_choices rfl rfl fun cdv A outer s H E S' dk hr hgu => by
    have tk : Takes (cxOf (L2.CX P w) P w K mg base N_law_choices "_law_choices" (defScope s_law_choices) (ad 23) cdv A outer s H E) (fun cls d _ H => E cls d H) := takes_of rfl rfl rfl rfl
    have hpo : PassesOwn (model P w) (cxOf (L2.CX P w) P w K mg base N_law_choices "_law_choices" (defScope s_law_choices) (ad 23) cdv A outer s H E).A (cxOf (L2.CX P w) P w K mg base N_law_choices "_law_choices" (defScope s_law_choices) (ad 23) cdv A outer s H E).env (cxOf (L2.CX P w) P w K mg base N_law_choices "_law_choices" (defScope s_law_choices) (ad 23) cdv A outer s H E).xe := passes_of (X := cxOf (L2.CX P w) P w K mg base N_law_choices "_law_choices" (defScope s_law_choices) (ad 23) cdv A outer s H E) rfl
    exact (dss_cons (ds_set (ps_set (i := 2) sc_law_choices.nd rfl (by first | exact Or.inl rfl | exact Or.inr rfl) (de_lst (dl_lst (da_cons (de_tup da_nil) da_nil)))))
    (dss_cons (ds_for (vs := [3]) (ps_for hpo rfl (di_rng1 (n := "") (pi_range1 (by rfl) T.m_range (da_cons (de_var (pv 1)) da_nil)) (len_cons len_nil)) (pg_name (i := 3) sc_law_choices.nd rfl (by first | exact Or.inl rfl | exact Or.inr rfl))
    (dss_cons (ds_set (ps_set (i := 4) sc_law_choices.nd rfl (by first | exact Or.inl rfl | exact Or.inr rfl) (de_lst (dl_lst da_nil))))
    (dss_cons (ds_for (vs := [5]) (ps_for hpo rfl (di_any rfl (de_var (pv 2))) (pg_name (i := 5) sc_law_choices.nd rfl (by first | exact Or.inl rfl | exact Or.inr rfl))
    (dss_cons (ds_set (ps_set (i := 6) sc_law_choices.nd rfl (by first | exact Or.inl rfl | exact Or.inr rfl) (de_if (dt_cmp (op_neAll hr.units) (d_ne _) (de_var (pv 5)) (de_tup da_nil) (nomark _)) (de_op op_addAll (d_add _) (de_ix ix_seq (d_ix _) (de_var (pv 5)) (de_un un_neg (d_neg _) (de_int pe_int)) (fun _ _ => rfl)) (de_int pe_int)) (de_int pe_int))))
    (dss_one (ds_set (ps_set (i := 4) sc_law_choices.nd rfl (by first | exact Or.inl rfl | exact Or.inr rfl) (de_op op_addAll (d_add _) (de_var (pv 4)) (de_lst (dl_lc (vs := [7]) (pe_lc (own := [("_law_k", 7)]) rfl sc_law_choices.nd (di_rng2 (n := "") (pi_range2 (by rfl) T.m_range (da_cons (de_var (pv 6)) (da_cons (de_var (pv 0)) da_nil))) (len_cons (len_cons len_nil))) (blkOk_by (own := [("_law_k", 7)]) (N := N_law_choices) (sc := defScope s_law_choices) (by decide +kernel)) (fun _ _ _ _ _ => (pg_name (i := 7) sc_law_choices.nd rfl (by first | exact Or.inl rfl | exact Or.inr rfl))) (fun _ _ _ _ _ => dts_nil) (fun _ _ _ _ _ => (de_op op_addAll (d_add _) (de_var (pv 5)) (de_tup (da_cons (de_var (pv 7)) da_nil))))) (gd_name (by decide)))))))))) (gd_name (by decide)))
    (dss_one (ds_set (ps_set (i := 2) sc_law_choices.nd rfl (by first | exact Or.inl rfl | exact Or.inr rfl) (de_var (pv 4)))))))) (gd_name (by decide)))
    (dss_one (ds_ret (de_var (pv 2))))))
theorem ok_law_spelled (T : Tx K mg ad fdd) (G_law_choices : FnG P w K mg base (L2.CX P w) 1 (ad 23) (fdd 23) ["_law_many", "_law_size"] (SpD w K mg DPh 2 F_law_choices)) : FnG P w K mg base (L2.CX P w) 2 (ad 24) (fdd 24) ["_law_letters_here", "_law_other_here"] (SpD w K mg DPh 2 F_law_spelled) :=
  fn_D T.F_law_spelled sc_law_spelled rfl rfl fun cdv A outer s H E S' dk hr hgu => by
    have tk : Takes (cxOf (L2.CX P w) P w K mg base N_law_spelled "_law_spelled" (defScope s_law_spelled) (ad 24) cdv A outer s H E) (fun cls d _ H => E cls d H) := takes_of rfl rfl rfl rfl
    have hpo : PassesOwn (model P w) (cxOf (L2.CX P w) P w K mg base N_law_spelled "_law_spelled" (defScope s_law_spelled) (ad 24) cdv A outer s H E).A (cxOf (L2.CX P w) P w K mg base N_law_spelled "_law_spelled" (defScope s_law_spelled) (ad 24) cdv A outer s H E).env (cxOf (L2.CX P w) P w K mg base N_law_spelled "_law_spelled" (defScope s_law_spelled) (ad 24) cdv A outer s H E).xe := passes_of (X := cxOf (L2.CX P w) P w K mg base N_law_spelled "_law_spelled" (defScope s_law_spelled) (ad 24) cdv A outer s H E) rfl
    exact (dss_cons (ds_for (vs := [2]) (ps_for hpo rfl (di_any rfl (de_call G_law_choices (hr.mono (by decide)) hgu (by rfl) T.g_law_choices T.F_law_choices.kp T.b_law_choices tk (da_cons (de_callB c_lenV (d_len _) (by rfl) T.m_len (by decide +kernel) (da_cons (de_var (pv 1)) da_nil)) (da_cons (de_callB c_lenV (d_len _) (by rfl) T.m_len (by decide +kernel) (da_cons (de_var (pv 0)) da_nil)) da_nil)))) (pg_name (i := 2) sc_law_spelled.nd rfl (by first | exact Or.inl rfl | exact Or.inr rfl))
    (dss_one (ds_if (dt_cmp (op_eqAll hr.units) (d_eq _) (de_lst (dl_lc (vs := [3]) (pe_lc (own := [("_law_k", 3)]) rfl sc_law_spelled.nd (di_any rfl (de_var (pv 2))) (blkOk_by (own := [("_law_k", 3)]) (N := N_law_spelled) (sc := defScope s_law_spelled) (by decide +kernel)) (fun _ _ _ _ _ => (pg_name (i := 3) sc_law_spelled.nd rfl (by first | exact Or.inl rfl | exact Or.inr rfl))) (fun _ _ _ _ _ => dts_nil) (fun _ _ _ _ _ => (de_ix ix_seq (d_ix _) (de_var (pv 1)) (de_var (pv 3)) (fun _ _ => rfl)))) (gd_name (by decide)))) (de_lst (dl_list rfl (pe_callTy c_lstOf (by rfl) T.m_list (by decide +kernel) (pa_cons (de_var (pv 0)) pa_nil)))) (nomark _))
    (dss_one (ds_ret (de_var (pv 2))))
    dss_nil))) (gd_name (by decide)))
    (dss_one (ds_ret (de_non pe_non))))
theorem ok_law_other (T : Tx K mg ad fdd) (G_law_draw : FnG P w K mg base (L2.CX P w) 1 (ad 20) (fdd 20) ["_law_hand_here", "_law_size"] (SpD w K mg DPh 2 F_law_draw)) : FnG P w K mg base (L2.CX P w) 2 (ad 25) (fdd 25) ["_law_hand_here", "_law_route"] (SpD w K mg DPh 2 F_law_other) :=
  fn_D T.F_law_other sc_law_other rfl rfl fun cdv A outer s H E S' dk hr hgu => by
    have tk : Takes (cxOf (L2.CX P w) P w K mg base N_law_other "_law_other" (defScope s_law_other) (ad 25) cdv A outer s H E) (fun cls d _ H => E cls d H) := takes_of rfl rfl rfl rfl
    have hpo : PassesOwn (model P w) (cxOf (L2.CX P w) P w K mg base N_law_other "_law_other" (defScope s_law_other) (ad 25) cdv A outer s H E).A (cxOf (L2.CX P w) P w K mg base N_law_other "_law_other" (defScope s_law_other) (ad 25) cdv A outer s H E).env (cxOf (L2.CX P w) P w K mg base N_law_other "_law_other" (defScope s_law_other) (ad 25) cdv A outer s H E).xe := passes_of (X := cxOf (L2.CX P w) P w K mg base N_law_other "_law_other" (defScope s_law_other) (ad 25) cdv A outer s H E) rfl
    exact (dss_cons (ds_set (ps_set (i := 2) sc_law_other.nd rfl (by first | exact Or.inl rfl | exact Or.inr rfl) (de_lst (dl_list rfl (pe_callTy c_lstOf (by rfl) T.m_list (by decide +kernel) (pa_cons (de_var (pv 1)) pa_nil))))))
    (dss_cons (ds_for (vs := [3]) (ps_for hpo rfl (di_rng1 (n := "") (pi_range1 (by rfl) T.m_range (da_cons (de_call G_law_draw (hr.mono (by decide)) hgu (by rfl) T.g_law_draw T.F_law_draw.kp T.b_law_draw tk (da_cons (de_var (pv 0)) (da_cons (de_int pe_int) da_nil))) da_nil)) (len_cons len_nil)) (pg_name (i := 3) sc_law_other.nd rfl (by first | exact Or.inl rfl | exact Or.inr rfl))
    (dss_cons (ds_set (ps_set (i := 4) sc_law_other.nd rfl (by first | exact Or.inl rfl | exact Or.inr rfl) (de_call G_law_draw (hr.mono (by decide)) hgu (by rfl) T.g_law_draw T.F_law_draw.kp T.b_law_draw tk (da_cons (de_var (pv 0)) (da_cons (de_op op_addAll (d_add _) (de_callB c_lenV (d_len _) (by rfl) T.m_len (by decide +kernel) (da_cons (de_var (pv 2)) da_nil)) (de_int pe_int)) da_nil)))))
    (dss_cons (ds_set (ps_set (i := 5) sc_law_other.nd rfl (by first | exact Or.inl rfl | exact Or.inr rfl) (de_call G_law_draw (hr.mono (by decide)) hgu (by rfl) T.g_law_draw T.F_law_draw.kp T.b_law_draw tk (da_cons (de_var (pv 0)) (da_cons (de_int pe_int) da_nil)))))
    (dss_cons (ds_if (dt_cmp (op_eqAll hr.units) (d_eq _) (de_var (pv 5)) (de_int pe_int) (nomark _))
    (dss_one (ds_set (ps_set (i := 2) sc_law_other.nd rfl (by first | exact Or.inl rfl | exact Or.inr rfl) (de_op op_addAll (d_add _) (de_slice sl_all (d_sl _) (de_var (pv 2)) do_none (do_some (de_var (pv 4)))) (de_slice sl_all (d_sl _) (de_var (pv 2)) (do_some (de_op op_addAll (d_add _) (de_var (pv 4)) (de_int pe_int))) do_none)))))
    dss_nil)
    (dss_cons (ds_if (dt_cmp (op_eqAll hr.units) (d_eq _) (de_var (pv 5)) (de_int pe_int) (nomark _))
    (dss_one (ds_set (ps_set (i := 2) sc_law_other.nd rfl (by first | exact Or.inl rfl | exact Or.inr rfl) (de_op op_addAll (d_add _) (de_op op_addAll (d_add _) (de_slice sl_all (d_sl _) (de_var (pv 2)) do_none (do_some (de_var (pv 4)))) (de_lst (dl_lst (da_cons (de_ix ix_seq (d_ix _) (de_str pe_str) (de_call G_law_draw (hr.mono (by decide)) hgu (by rfl) T.g_law_draw T.F_law_draw.kp T.b_law_draw tk (da_cons (de_var (pv 0)) (da_cons (de_int pe_int) da_nil))) (fun _ _ => rfl)) da_nil)))) (de_slice sl_all (d_sl _) (de_var (pv 2)) (do_some (de_var (pv 4))) do_none)))))
    dss_nil)
    (dss_one (ds_if (dt_cmp (op_eqAll hr.units) (d_eq _) (de_var (pv 5)) (de_int pe_int) (nomark _))
    (dss_one (ds_set (ps_set (i := 2) sc_law_other.nd rfl (by first | exact Or.inl rfl | exact Or.inr rfl) (de_op op_addAll (d_add _) (de_op op_addAll (d_add _) (de_slice sl_all (d_sl _) (de_var (pv 2)) do_none (do_some (de_var (pv 4)))) (de_lst (dl_revLV rfl (pe_revLst (de_slice sl_all (d_sl _) (de_var (pv 2)) (do_some (de_var (pv 4))) (do_some (de_op op_addAll (d_add _) (de_var (pv 4)) (de_int pe_int)))))))) (de_slice sl_all (d_sl _) (de_var (pv 2)) (do_some (de_op op_addAll (d_add _) (de_var (pv 4)) (de_int pe_int))) do_none)))))
    dss_nil))))))) (gd_name (by decide)))
    (dss_one (ds_ret (de_callTy c_tupOf (d_tuple _) (by rfl) T.m_tuple (by decide +kernel) (da_cons (de_slice sl_all (d_sl _) (de_var (pv 2)) do_none (do_some (de_int pe_int))) da_nil))))))
theorem ok_law_joined (T : Tx K mg ad fdd) (G_joined : FnS P w K mg base (L2.CX P w) 5 (ad 8) (SpD w K mg DPh 1 F_joined)) : FnG P w K mg base (L2.CX P w) 6 (ad 26) (fdd 26) ["_law_routes"] (SpD w K mg DPh 1 F_law_joined) :=
  fn_D T.F_law_joined sc_law_joined rfl rfl fun cdv A outer s H E S' dk hr hgu => by
    have tk : Takes (cxOf (L2.CX P w) P w K mg base N_law_joined "_law_joined" (defScope s_law_joined) (ad 26) cdv A outer s H E) (fun cls d _ H => E cls d H) := takes_of rfl rfl rfl rfl
    have hpo : PassesOwn (model P w) (cxOf (L2.CX P w) P w K mg base N_law_joined "_law_joined" (defScope s_law_joined) (ad 26) cdv A outer s H E).A (cxOf (L2.CX P w) P w K mg base N_law_joined "_law_joined" (defScope s_law_joined) (ad 26) cdv A outer s H E).env (cxOf (L2.CX P w) P w K mg base N_law_joined "_law_joined" (defScope s_law_joined) (ad 26) cdv A outer s H E).xe := passes_of (X := cxOf (L2.CX P w) P w K mg base N_law_joined "_law_joined" (defScope s_law_joined) (ad 26) cdv A outer s H E) rfl
    exact (dss_cons (ds_set (ps_set (i := 1) sc_law_joined.nd rfl (by first | exact Or.inl rfl | exact Or.inr rfl) (de_non pe_non)))
    (dss_cons (ds_tryL (i := 2) (t := tab_PaperError) rfl rfl rfl sc_law_joined.nd rfl rfl ⟨by rfl, by decide, .inl T.x_PaperError.g⟩ T.h_PaperError tk (fun W pn xe tk hpo => (dss_one (ds_if (dt_cmp (op_eqAll hr.units) (d_eq _) (de_callB c_lenV (d_len _) (by rfl) T.m_len (by decide +kernel) (da_cons (de_var (pv 0)) da_nil)) (de_int pe_int) (nomark _))
    (dss_one (ds_set (ps_set (i := 1) sc_law_joined.nd rfl (by first | exact Or.inl rfl | exact Or.inr rfl) (de_callSt G_joined (hr.mono (by decide)) hgu (by rfl) T.g_joined T.F_joined.kp tk (da_cons (de_ix ix_seq (d_ix _) (de_var (pv 0)) (de_int pe_int) (fun _ _ => rfl)) da_nil)))))
    (dss_one (ds_if (dt_cmp (op_eqAll hr.units) (d_eq _) (de_callB c_lenV (d_len _) (by rfl) T.m_len (by decide +kernel) (da_cons (de_var (pv 0)) da_nil)) (de_int pe_int) (nomark _))
    (dss_one (ds_set (ps_set (i := 1) sc_law_joined.nd rfl (by first | exact Or.inl rfl | exact Or.inr rfl) (de_callSt G_joined (hr.mono (by decide)) hgu (by rfl) T.g_joined T.F_joined.kp tk (da_cons (de_ix ix_seq (d_ix _) (de_var (pv 0)) (de_int pe_int) (fun _ _ => rfl)) (da_cons (de_ix ix_seq (d_ix _) (de_var (pv 0)) (de_int pe_int) (fun _ _ => rfl)) da_nil))))))
    (dss_one (ds_if (dt_cmp (op_eqAll hr.units) (d_eq _) (de_callB c_lenV (d_len _) (by rfl) T.m_len (by decide +kernel) (da_cons (de_var (pv 0)) da_nil)) (de_int pe_int) (nomark _))
    (dss_one (ds_set (ps_set (i := 1) sc_law_joined.nd rfl (by first | exact Or.inl rfl | exact Or.inr rfl) (de_callSt G_joined (hr.mono (by decide)) hgu (by rfl) T.g_joined T.F_joined.kp tk (da_cons (de_ix ix_seq (d_ix _) (de_var (pv 0)) (de_int pe_int) (fun _ _ => rfl)) (da_cons (de_ix ix_seq (d_ix _) (de_var (pv 0)) (de_int pe_int) (fun _ _ => rfl)) (da_cons (de_ix ix_seq (d_ix _) (de_var (pv 0)) (de_int pe_int) (fun _ _ => rfl)) da_nil)))))))
    (dss_one (ds_set (ps_set (i := 1) sc_law_joined.nd rfl (by first | exact Or.inl rfl | exact Or.inr rfl) (de_callSt G_joined (hr.mono (by decide)) hgu (by rfl) T.g_joined T.F_joined.kp tk (da_cons (de_ix ix_seq (d_ix _) (de_var (pv 0)) (de_int pe_int) (fun _ _ => rfl)) (da_cons (de_ix ix_seq (d_ix _) (de_var (pv 0)) (de_int pe_int) (fun _ _ => rfl)) (da_cons (de_ix ix_seq (d_ix _) (de_var (pv 0)) (de_int pe_int) (fun _ _ => rfl)) (da_cons (de_ix ix_seq (d_ix _) (de_var (pv 0)) (de_int pe_int) (fun _ _ => rfl)) da_nil))))))))))))))) (fun a pn => (dss_one (ds_set (ps_set (i := 1) sc_law_joined.nd rfl (by first | exact Or.inl rfl | exact Or.inr rfl) (de_isiE (y := .ref (ad 3)) rfl T.i_TooMany (fun _ h => h) (pe_callB c_isX (by rfl) T.m_isinstance (by decide +kernel) (pa_cons (de_var (pv 2)) (pa_cons (C8.pe_gc (v := .ref (ad 3)) rfl ⟨_, T.n_TooMany, rfl⟩) pa_nil)))))))))
    (dss_one (ds_ret (de_var (pv 1))))))
theorem ok_law (T : Tx K mg ad fdd) (G_law_hand : FnG P w K mg base (L2.CX P w) 1 (ad 19) (fdd 19) ["_law_script"] (SpD w K mg DPh 1 F_law_hand)) (G_law_letters : FnG P w K mg base (L2.CX P w) 2 (ad 21) (fdd 21) ["_law_hand_here", "_law_most"] (SpD w K mg DPh 2 F_law_letters)) (G_law_reduced : FnG P w K mg base (L2.CX P w) 1 (ad 22) (fdd 22) ["_law_route"] (SpD w K mg DPh 1 F_law_reduced)) (G_law_draw : FnG P w K mg base (L2.CX P w) 1 (ad 20) (fdd 20) ["_law_hand_here", "_law_size"] (SpD w K mg DPh 2 F_law_draw)) (G_law_spelled : FnG P w K mg base (L2.CX P w) 2 (ad 24) (fdd 24) ["_law_letters_here", "_law_other_here"] (SpD w K mg DPh 2 F_law_spelled)) (G_never_later : FnG P w K mg base (L2.CX P w) 6 (ad 14) (fdd 14) ["route", "other"] (SpD w K mg DPh 2 F_never_later)) (G_law_joined : FnG P w K mg base (L2.CX P w) 6 (ad 26) (fdd 26) ["_law_routes"] (SpD w K mg DPh 1 F_law_joined)) (G_joined : FnS P w K mg base (L2.CX P w) 5 (ad 8) (SpD w K mg DPh 1 F_joined)) (G_spelled_at : FnG P w K mg base (L2.CX P w) 6 (ad 15) (fdd 15) ["route", "other"] (SpD w K mg DPh 2 F_spelled_at)) (G_law_other : FnG P w K mg base (L2.CX P w) 2 (ad 25) (fdd 25) ["_law_hand_here", "_law_route"] (SpD w K mg DPh 2 F_law_other)) (G_reduced : FnG P w K mg base (L2.CX P w) 5 (ad 7) (fdd 7) ["route"] (SpD w K mg DPh 1 F_reduced)) : FnG P w K mg base (L2.CX P w) 7 (ad 27) (fdd 27) ["_law_script"] (SpD w K mg DPh 1 F_law) :=
  fn_D T.F_law sc_law rfl rfl fun cdv A outer s H E S' dk hr hgu => by
    have tk : Takes (cxOf (L2.CX P w) P w K mg base N_law "law" (defScope s_law) (ad 27) cdv A outer s H E) (fun cls d _ H => E cls d H) := takes_of rfl rfl rfl rfl
    have hpo : PassesOwn (model P w) (cxOf (L2.CX P w) P w K mg base N_law "law" (defScope s_law) (ad 27) cdv A outer s H E).A (cxOf (L2.CX P w) P w K mg base N_law "law" (defScope s_law) (ad 27) cdv A outer s H E).env (cxOf (L2.CX P w) P w K mg base N_law "law" (defScope s_law) (ad 27) cdv A outer s H E).xe := passes_of (X := cxOf (L2.CX P w) P w K mg base N_law "law" (defScope s_law) (ad 27) cdv A outer s H E) rfl
    exact (dss_cons (ds_set (ps_set (i := 1) sc_law.nd rfl (by first | exact Or.inl rfl | exact Or.inr rfl) (de_call G_law_hand (hr.mono (by decide)) hgu (by rfl) T.g_law_hand T.F_law_hand.kp T.b_law_hand tk (da_cons (de_var (pv 0)) da_nil))))
    (dss_cons (ds_for (vs := [2]) (ps_for hpo rfl (di_rng1 (n := "") (pi_range1 (by rfl) T.m_range (da_cons (de_callB (call_max2 rfl) (d_max _) (by rfl) T.m_max (by decide +kernel) (da_cons (de_int pe_int) (da_cons (de_callB (call_min2 rfl) (d_min _) (by rfl) T.m_min (by decide +kernel) (da_cons (de_int pe_int) (da_cons (de_callB c_lenV (d_len _) (by rfl) T.m_len (by decide +kernel) (da_cons (de_var (pv 0)) da_nil)) da_nil))) da_nil))) da_nil)) (len_cons len_nil)) (pg_name (i := 2) sc_law.nd rfl (by first | exact Or.inl rfl | exact Or.inr rfl))
    (dss_cons (ds_set (ps_set (i := 3) sc_law.nd rfl (by first | exact Or.inl rfl | exact Or.inr rfl) (de_call G_law_letters (hr.mono (by decide)) hgu (by rfl) T.g_law_letters T.F_law_letters.kp T.b_law_letters tk (da_cons (de_var (pv 1)) (da_cons (de_int pe_int) da_nil)))))
    (dss_cons (ds_set (ps_set (i := 4) sc_law.nd rfl (by first | exact Or.inl rfl | exact Or.inr rfl) (de_ix ix_seq (d_ix _) (de_lst (dl_lst (da_cons (de_call G_law_other (hr.mono (by decide)) hgu (by rfl) T.g_law_other T.F_law_other.kp T.b_law_other tk (da_cons (de_var (pv 1)) (da_cons (de_var (pv 3)) da_nil))) (da_cons (de_call G_law_letters (hr.mono (by decide)) hgu (by rfl) T.g_law_letters T.F_law_letters.kp T.b_law_letters tk (da_cons (de_var (pv 1)) (da_cons (de_int pe_int) da_nil))) da_nil)))) (de_call G_law_draw (hr.mono (by decide)) hgu (by rfl) T.g_law_draw T.F_law_draw.kp T.b_law_draw tk (da_cons (de_var (pv 1)) (da_cons (de_int pe_int) da_nil))) (fun _ _ => rfl))))
    (dss_cons (ds_set (ps_set (i := 5) sc_law.nd rfl (by first | exact Or.inl rfl | exact Or.inr rfl) (de_call G_law_reduced (hr.mono (by decide)) hgu (by rfl) T.g_law_reduced T.F_law_reduced.kp T.b_law_reduced tk (da_cons (de_var (pv 3)) da_nil))))
    (dss_cons (ds_if (PW.pt (dw_or (dt_cmp (op_neAll hr.units) (d_ne _) (de_call G_reduced (hr.mono (by decide)) hgu (by rfl) T.g_reduced T.F_reduced.kp T.b_reduced tk (da_cons (de_var (pv 3)) da_nil)) (de_var (pv 5)) (nomark _)) (dw_or1 (dt_cmp (op_neAll hr.units) (d_ne _) (de_callK0 (perm := [(false, 0)]) G_reduced (hr.mono (by decide)) hgu (by rfl) T.g_reduced T.F_reduced.kp T.kb_reduced_0_route tk (dk_cons (de_var (pv 4)) dk_nil)) (de_call G_law_reduced (hr.mono (by decide)) hgu (by rfl) T.g_law_reduced T.F_law_reduced.kp T.b_law_reduced tk (da_cons (de_var (pv 4)) da_nil)) (nomark _)))))
    (dss_one (ds_ret (de_bl pe_bl)))
    dss_nil)
    (dss_cons (ds_for (vs := [6, 7]) (ps_for hpo rfl (di_any rfl (de_lst (dl_lst (da_cons (de_tup (da_cons (de_var (pv 3)) (da_cons (de_var (pv 4)) da_nil))) (da_cons (de_tup (da_cons (de_var (pv 4)) (da_cons (de_var (pv 3)) da_nil))) da_nil))))) (pg_tup rfl (pgs_cons (pg_name (i := 6) sc_law.nd rfl (by first | exact Or.inl rfl | exact Or.inr rfl)) (pgs_cons (pg_name (i := 7) sc_law.nd rfl (by first | exact Or.inl rfl | exact Or.inr rfl)) pgs_nil)))
    (dss_cons (ds_set (ps_set (i := 8) sc_law.nd rfl (by first | exact Or.inl rfl | exact Or.inr rfl) (de_call G_law_spelled (hr.mono (by decide)) hgu (by rfl) T.g_law_spelled T.F_law_spelled.kp T.b_law_spelled tk (da_cons (de_call G_law_reduced (hr.mono (by decide)) hgu (by rfl) T.g_law_reduced T.F_law_reduced.kp T.b_law_reduced tk (da_cons (de_var (pv 6)) da_nil)) (da_cons (de_var (pv 7)) da_nil)))))
    (dss_cons (ds_if (PW.pt (dw_or (dt_cmp (op_neAll hr.units) (d_ne _) (de_call G_spelled_at (hr.mono (by decide)) hgu (by rfl) T.g_spelled_at T.F_spelled_at.kp T.b_spelled_at tk (da_cons (de_var (pv 6)) (da_cons (de_var (pv 7)) da_nil))) (de_var (pv 8)) (nomark _)) (dw_or1 (dt_cmp (op_neAll hr.units) (d_ne _) (de_callK0 (perm := [(false, 1), (false, 0)]) G_spelled_at (hr.mono (by decide)) hgu (by rfl) T.g_spelled_at T.F_spelled_at.kp T.kb_spelled_at_0_other_route tk (dk_cons (de_var (pv 7)) (dk_cons (de_var (pv 6)) dk_nil))) (de_var (pv 8)) (nomark _)))))
    (dss_one (ds_ret (de_bl pe_bl)))
    dss_nil)
    (dss_cons (ds_set (ps_set (i := 9) sc_law.nd rfl (by first | exact Or.inl rfl | exact Or.inr rfl) (de_call G_never_later (hr.mono (by decide)) hgu (by rfl) T.g_never_later T.F_never_later.kp T.b_never_later tk (da_cons (de_var (pv 6)) (da_cons (de_var (pv 7)) da_nil)))))
    (dss_one (ds_if (PW.pt (dw_or (dt_not (dt_tru rfl (de_isi (T := "bool") rfl (pe_callB c_isi1 (by rfl) T.m_isinstance (by decide +kernel) (pa_cons (de_var (pv 9)) (pa_cons (pe_bltn (v := .ty "bool") rfl T.m_bool (by decide +kernel) rfl) pa_nil)))))) (dw_or (dt_cmp (op_neAll hr.units) (d_ne _) (de_var (pv 9)) (de_cmp op_isNotAll (d_isNot _) (de_var (pv 8)) (de_non pe_non) (nomark _)) (nomark _)) (dw_or1 (dt_cmp (op_neAll hr.units) (d_ne _) (de_callK0 (perm := [(false, 1), (false, 0)]) G_never_later (hr.mono (by decide)) hgu (by rfl) T.g_never_later T.F_never_later.kp T.kb_never_later_0_other_route tk (dk_cons (de_var (pv 7)) (dk_cons (de_var (pv 6)) dk_nil))) (de_var (pv 9)) (nomark _))))))
    (dss_one (ds_ret (de_bl pe_bl)))
    dss_nil)))))) (gd_tup (n := 2) (gd_cons (gd_name (by decide)) (gd_cons (gd_name (by decide)) gd_nil)) rfl))
    (dss_cons (ds_set (ps_set (i := 10) sc_law.nd rfl (by first | exact Or.inl rfl | exact Or.inr rfl) (de_slice sl_all (d_sl _) (de_lst (dl_lst (da_cons (de_var (pv 3)) (da_cons (de_var (pv 4)) (da_cons (de_call G_law_letters (hr.mono (by decide)) hgu (by rfl) T.g_law_letters T.F_law_letters.kp T.b_law_letters tk (da_cons (de_var (pv 1)) (da_cons (de_int pe_int) da_nil))) (da_cons (de_call G_law_letters (hr.mono (by decide)) hgu (by rfl) T.g_law_letters T.F_law_letters.kp T.b_law_letters tk (da_cons (de_var (pv 1)) (da_cons (de_int pe_int) da_nil))) da_nil)))))) do_none (do_some (de_op op_addAll (d_add _) (de_int pe_int) (de_call G_law_draw (hr.mono (by decide)) hgu (by rfl) T.g_law_draw T.F_law_draw.kp T.b_law_draw tk (da_cons (de_var (pv 1)) (da_cons (de_int pe_int) da_nil))))))))
    (dss_cons (ds_set (ps_set (i := 11) sc_law.nd rfl (by first | exact Or.inl rfl | exact Or.inr rfl) (de_tup da_nil)))
    (dss_cons (ds_for (vs := [6]) (ps_for hpo rfl (di_any rfl (de_var (pv 10))) (pg_name (i := 6) sc_law.nd rfl (by first | exact Or.inl rfl | exact Or.inr rfl))
    (dss_one (ds_set (ps_set (i := 11) sc_law.nd rfl (by first | exact Or.inl rfl | exact Or.inr rfl) (de_op op_addAll (d_add _) (de_var (pv 11)) (de_var (pv 6))))))) (gd_name (by decide)))
    (dss_cons (ds_set (ps_set (i := 8) sc_law.nd rfl (by first | exact Or.inl rfl | exact Or.inr rfl) (de_call G_law_reduced (hr.mono (by decide)) hgu (by rfl) T.g_law_reduced T.F_law_reduced.kp T.b_law_reduced tk (da_cons (de_var (pv 11)) da_nil))))
    (dss_cons (ds_if (dt_cmp (op_neAll hr.units) (d_ne _) (de_call G_law_joined (hr.mono (by decide)) hgu (by rfl) T.g_law_joined T.F_law_joined.kp T.b_law_joined tk (da_cons (de_var (pv 10)) da_nil)) (de_if (dt_cmp op_leAll (d_le _) (de_callB c_lenV (d_len _) (by rfl) T.m_len (by decide +kernel) (da_cons (de_var (pv 8)) da_nil)) (de_int pe_int) (nomark _)) (de_var (pv 8)) (de_bl pe_bl)) (nomark _))
    (dss_one (ds_ret (de_bl pe_bl)))
    dss_nil)
    (dss_cons (ds_set (ps_set (i := 12) sc_law.nd rfl (by first | exact Or.inl rfl | exact Or.inr rfl) (de_ix ix_seq (d_ix _) (de_lst (dl_lst (da_cons (de_non pe_non) (da_cons (de_lst (dl_lst (da_cons (de_str pe_str) da_nil))) (da_cons (de_tup (da_cons (de_str pe_str) da_nil)) (da_cons (de_op op_mulAll (d_mulA _) (de_tup (da_cons (de_str pe_str) da_nil)) (de_int pe_int)) da_nil)))))) (de_call G_law_draw (hr.mono (by decide)) hgu (by rfl) T.g_law_draw T.F_law_draw.kp T.b_law_draw tk (da_cons (de_var (pv 1)) (da_cons (de_int pe_int) da_nil))) (fun _ _ => rfl))))
    (dss_one (ds_if (PW.pt (dw_or (dt_cmp op_isNotA (d_isNotA _) (de_call G_law_joined (hr.mono (by decide)) hgu (by rfl) T.g_law_joined T.F_law_joined.kp T.b_law_joined tk (da_cons (de_lst (dl_lst (da_cons (de_var (pv 3)) (da_cons (de_var (pv 4)) (da_cons (de_var (pv 12)) da_nil))))) da_nil)) (de_bl pe_bl) (nomark _)) (dw_or1 (dt_cmp op_isNotA (d_isNotA _) (de_call G_law_joined (hr.mono (by decide)) hgu (by rfl) T.g_law_joined T.F_law_joined.kp T.b_law_joined tk (da_cons (de_lst (dl_lst (da_cons (de_var (pv 3)) (da_cons (de_var (pv 4)) (da_cons (de_tup da_nil) (da_cons (de_var (pv 12)) da_nil)))))) da_nil)) (de_bl pe_bl) (nomark _)))))
    (dss_one (ds_ret (de_bl pe_bl)))
    dss_nil)))))))))))))) (gd_name (by decide)))
    (dss_one (ds_ret (de_and rfl (de_cmp (op_eqAll hr.units) (d_eq _) (de_callSt G_joined (hr.mono (by decide)) hgu (by rfl) T.g_joined T.F_joined.kp tk (da_cons (de_tup (da_cons (de_str pe_str) da_nil)) (da_cons (de_tup (da_cons (de_str pe_str) da_nil)) da_nil))) (de_tup (da_cons (de_str pe_str) da_nil)) (nomark _)) (de_one (de_cmp (op_eqAll hr.units) (d_eq _) (de_call G_spelled_at (hr.mono (by decide)) hgu (by rfl) T.g_spelled_at T.F_spelled_at.kp T.b_spelled_at tk (da_cons (de_tup da_nil) (da_cons (de_tup da_nil) da_nil))) (de_tup da_nil) (nomark _))))))))
end
end DL
namespace J
open PySem PySem.Spec PyProof.Rows L2
local macro_rules | `(tactic| walk_at "go1") => `(tactic| first
  | with_reducible refine' w_seq ?_
  | with_reducible refine' w_next ?_
  | with_reducible refine' w_brk ?_
  | with_reducible refine' w_cont ?_
  | with_reducible refine' w_asg ?_
  | with_reducible refine' w_asgG ?_
  | with_reducible refine' w_gSub ?_
  | with_reducible refine' w_ret ?_
  | with_reducible refine' w_retN ?_
  | with_reducible refine' w_drop ?_
  | with_reducible refine' w_ifS ?_
  | ((with_reducible refine' w_isAug ?_); refine w_aug rfl ?_)
  | with_reducible refine' w_ipadd ?_
  | with_reducible refine' w_ipsub ?_
  | ((with_reducible refine' w_isVar ?_); refine w_var rfl ?_)
  | with_reducible refine' w_c ?_
  | with_reducible refine' w_nil ?_
  | with_reducible refine' w_cons ?_
  | with_reducible refine' w_op ?_
  | with_reducible refine' w_un ?_
  | with_reducible refine' w_cb ?_
  | with_reducible refine' w_call ?_
  | with_reducible refine' w_callK ?_
  | with_reducible refine' w_test ?_
  | with_reducible refine' w_tB ?_
  | with_reducible refine' w_and ?_
  | with_reducible refine' w_or ?_
  | with_reducible refine' w_not ?_
  | with_reducible refine' w_andV ?_
  | with_reducible refine' w_orV ?_
  | with_reducible refine' w_notV ?_
  | with_reducible refine' w_if ?_
  | with_reducible refine' w_chain ?_
  | with_reducible refine' w_exb ?_
  | with_reducible refine' w_add ?_
  | with_reducible refine' w_sub ?_
  | with_reducible refine' w_lt ?_
  | with_reducible refine' w_le ?_
  | with_reducible refine' w_gt ?_
  | with_reducible refine' w_ge ?_
  | ((with_reducible refine' w_mod ?h ?q); (case h => first | decide | omega))
  | ((with_reducible refine' w_fdiv ?h ?h2 ?q); (case h => first | decide | omega); (case h2 => first | decide | omega))
  | ((with_reducible refine' w_mulR ?h ?q); (case h => omega))
  | ((with_reducible refine' w_mulL ?h ?q); (case h => omega))
  | with_reducible refine' w_pow_6 ?_
  | with_reducible refine' w_pow_9 ?_
  | with_reducible refine' w_pow_12 ?_
  | with_reducible refine' w_pow_14 ?_
  | with_reducible refine' w_pow_15 ?_
  | with_reducible refine' w_pow_18 ?_
  | with_reducible refine' w_neg ?_
  | ((with_reducible refine' w_eq ?h ?q); (case h => exact rfl))
  | ((with_reducible refine' w_ne ?h ?q); (case h => exact rfl))
  | with_reducible refine' w_abs ?_
  | with_reducible refine' w_int ?_
  | with_reducible refine' w_max ?_
  | with_reducible refine' w_min ?_
  | with_reducible refine' w_count ?_
  | with_reducible refine' w_m1 ?_
  | with_reducible refine' w_bm ?_
  | with_reducible refine' w_listR3 ?_
  | with_reducible refine' w_exs ?_
  | with_reducible refine' w_inS ?_
  | with_reducible refine' w_notInS ?_
  | with_reducible refine' w_for ?_
  | with_reducible refine' w_while ?_
  | with_reducible refine' w_lc ?_
  | with_reducible refine' w_iTup ?_
  | with_reducible refine' w_iList ?_
  | with_reducible refine' w_iRng1 ?_
  | with_reducible refine' w_iRng2 ?_
  | with_reducible refine' w_gName ?_
  | with_reducible refine' w_tYes ?_
  | with_reducible refine' w_tupD ?_
  | with_reducible refine' w_tupF ?_
  | with_reducible refine' w_ltS ?_
  | with_reducible refine' w_leS ?_
  | with_reducible refine' w_dget ?_
  | with_reducible refine' w_dnotin ?_
  | with_reducible refine' w_sl ?_
  | with_reducible refine' w_part ?_
  | with_reducible refine' w_noPart ?_
  | with_reducible refine' w_some ?_
  | with_reducible refine' w_lstD ?_
  )
local macro_rules | `(tactic| walk_at "go") => `(tactic| repeat (walk_at "go1"))
theorem handAt {ns : List Int} {i : Int} (h0 : 0 ≤ i) (h1 : i < ns.length) : ∃ v : Int, atI (ns.map V.int) i = some (.int v) := by
  have h2 : i.toNat < ns.length := by omega
  refine ⟨ns[i.toNat], ?_⟩
  unfold atI ixN
  rw [if_pos h0, if_pos (by rw [List.length_map]; exact h1)]
  show (ns.map V.int)[i.toNat]? = _
  rw [List.getElem?_map, List.getElem?_eq_getElem h2]; rfl
section
variable {P : Program} {w : World} {K : PySem.W.Frag} {mg : Str → Option Value} {base : Heap} {ad : Nat → Addr} {fdd : Nat → FuncData}
theorem ok_law_hand (T : DL.Tx K mg ad fdd) : FnOk P w K mg base (L2.CX P w) 1 (ad 19) (fdd 19) ["_law_script"] (DL.SpD w K mg DL.DPh 1 DL.F_hand) := by
  refine T.F_law_hand.okX DL.sc_law_hand (fun vs H Q E h => h.1) (fun cdv A outer s H vs Q E hr h => ?_)
  obtain ⟨hl, S, dk, ds, fu, k0, r, q⟩ := h
  match ds, r, q with
  | [], _, q => exact q.elim
  | _ :: _ :: _, _, q => exact q.elim
  | [x], .cons r1 .nil, q =>
  obtain ⟨ns, a, rfl, rfl, hs, q⟩ := DL.scrGo_wp (c := ⟨w, K, mg, DL.DPh, S, dk, H⟩) (w := ⟨[], [], H, fu⟩) r1 q
  obtain ⟨hn, q⟩ := DL.wp_guard.mp q
  have hn := of_decide_eq_true hn
  refine ⟨_, (pss_one (ps_ret (pe_lst (pa_cons (pe_callTy (show CallR _ _ (rListOf K) from c_listOf) (by rfl) T.m_list (by decide +kernel) (pa_cons (pv 0) pa_nil)) (pa_cons pe_int (pa_cons pe_int (pa_cons pe_int (pa_cons pe_int pa_nil)))))))), ?_⟩
  dsimp only [L2.start, DL.N_law_hand, cxOf]
  walk_at "go"
  refine w_listL hs fun l H2 nl e2 hl2 hl3 => ?_
  walk_at "go"
  refine w_new (by exact Nat.le_of_ble_eq_true rfl) fun p H3 np e3 hp hne => ?_
  have eH2 : H2 = upd H l (.lst (ns.map V.int)) := by
    funext b
    by_cases z : b = l
    · subst z; rw [hl2, upd_same]
    · rw [upd_ne z]; exact hl3 b z
  have eH3 : H3 = upd H2 p (.lst [V.ref l, V.int 0, V.int 0, V.int 0, V.int 0]) := by
    funext b
    by_cases z : b = p
    · subst z; rw [hp, upd_same]
    · rw [upd_ne z]; exact hne b z
  have k2 : DL.WOk ⟨w, K, mg, DL.DPh, S, dk, H⟩ ⟨[], [], H2, fu⟩ := by
    rw [eH2]; exact (DL.Grow.new (o := .lst (ns.map V.int)) k0 nl).ok
  have lv : DL.hide S H2 l = some (.lst (ns.map V.int)) := DL.hide_some.mpr ⟨fun z => k0.SH l z nl, hl2⟩
  have k3 := DL.WOk.newdeck (c := ⟨w, K, mg, DL.DPh, S, dk, H⟩) k2 np (vs := [V.ref l, V.int 0, V.int 0, V.int 0, V.int 0]) ⟨l, ns, 0, 0, 0, 0, rfl, lv, by decide, by decide, by decide, by decide⟩
  rw [eH3]
  exact q (.ref p) ⟨[], [p], upd H2 p _, fu⟩ rfl (Nat.le_refl _) k3 (.deck List.mem_cons_self)
theorem ok_law_draw (T : DL.Tx K mg ad fdd) : FnOk P w K mg base (L2.CX P w) 1 (ad 20) (fdd 20) ["_law_hand_here", "_law_size"] (DL.SpD w K mg DL.DPh 2 DL.F_draw6) := by
  refine T.F_law_draw.okX DL.sc_law_draw (fun vs H Q E h => h.1) (fun cdv A outer s H vs Q E hr h => ?_)
  obtain ⟨hl, S, dk, ds, fu, k0, r, q⟩ := h
  unfold DL.F_draw6 at q
  split at q
  rotate_left
  · exact q.elim
  rename_i x n
  cases r with
  | cons r1 r2 =>
  cases r2 with
  | cons r2 r3 =>
  cases r3
  obtain ⟨q0, qq⟩ := DL.wp_guard.mp q
  clear q
  obtain ⟨q1, q2⟩ := (Bool.and_eq_true _ _).mp q0
  obtain ⟨hn0, hn1⟩ := of_decide_eq_true q2
  obtain ⟨f', hf, qq⟩ := qq
  subst hf
  have e1 := DL.isDeckD_of q1
  subst e1
  obtain rfl := r2.isInt
  obtain ⟨a, rfl, ha⟩ := r1.isDeck
  obtain ⟨_, h1, sc, ns, i, b, m, c, rfl, h2', hi, hb, hm0, hm1⟩ := k0.deck a ha
  have hsc : sc ≠ a := fun z => (DL.hide_some.mp h2').1 (by rw [z]; exact k0.dS _ ha)
  have h2 : H sc = some (.lst (ns.map V.int)) := (DL.hide_some.mp h2').2
  have h1 : H a = some (.lst [.ref sc, .int i, .int b, .int m, .int c]) := h1
  have fin : ∀ (k : Int) (H' : Hp), 0 ≤ k → k < n → (∃ (i b m c : Int), H' a = some (.lst [.ref sc, .int i, .int b, .int m, .int c]) ∧ 0 ≤ i ∧ 0 ≤ b ∧ 0 ≤ m ∧ m < 2147483563) → DL.Pt a H H' → Q (.int k) H' := fun k H' hk0 hk1 ⟨i', b', m', c', e, g1, g2, g3, g4⟩ pt =>
    qq k hk0 hk1 (.int k) ⟨[], [], H', f'⟩ rfl (Nat.le_succ _) (DL.WOk.deckmut (c := ⟨w, K, mg, DL.DPh, S, dk, H⟩) k0 (Nat.le_succ _) ha pt e ⟨sc, ns, i', b', m', c', rfl, h2', g1, g2, g3, g4⟩) (.int k)
  refine ⟨_, (pss_cons (ps_if (pt_cmpR op_gt (pe_ix (show IxR _ (rIxL K) from ix_list) (pv 0) pe_int (fun _ _ => rfl)) pe_int (nomark _))
    (pss_cons (ps_set (i := 2) DL.sc_law_draw.nd rfl (by first | exact Or.inl rfl | exact Or.inr rfl) (pe_op op_mod (pe_callTy c_int (by rfl) T.m_int (by decide +kernel) (pa_cons (pe_ix (show IxR _ (rIxL K) from ix_list) (pv 0) pe_int (fun _ _ => rfl)) pa_nil)) (pv 1)))
    (pss_cons (ps_asg (pe_op op_fdivW (pe_ix (show IxR _ (rIxL K) from ix_list) (pv 0) pe_int (fun _ _ => rfl)) (pv 1)) (pg_sub (pv 0) pe_int set_list))
    (pss_one (ps_ret (pv 2)))))
    pss_nil)
    (pss_cons (ps_set (i := 3) DL.sc_law_draw.nd rfl (by first | exact Or.inl rfl | exact Or.inr rfl) pe_int)
    (pss_cons (ps_if (pt_cmpR op_lt (pe_ix (show IxR _ (rIxL K) from ix_list) (pv 0) pe_int (fun _ _ => rfl)) (pe_callB (show CallR _ _ (rLen K) from c_len) (by rfl) T.m_len (by decide +kernel) (pa_cons (pe_ix (show IxR _ (rIxL K) from ix_list) (pv 0) pe_int (fun _ _ => rfl)) pa_nil)) (nomark _))
    (pss_cons (ps_set (i := 3) DL.sc_law_draw.nd rfl (by first | exact Or.inl rfl | exact Or.inr rfl) (pe_ix ix_list (pe_ix ix_list (pv 0) pe_int (fun _ _ => rfl)) (pe_ix ix_list (pv 0) pe_int (fun _ _ => rfl)) (fun _ _ => rfl)))
    (pss_one (ps_asg (pe_op op_add (pe_ix (show IxR _ (rIxL K) from ix_list) (pv 0) pe_int (fun _ _ => rfl)) pe_int) (pg_sub (pv 0) pe_int set_list))))
    pss_nil)
    (pss_cons (ps_if (pt_cmpR op_ge (pe_callB c_abs (by rfl) T.m_abs (by decide +kernel) (pa_cons (pv 3) pa_nil)) (pe_op op_pow pe_int pe_int) (nomark _))
    (pss_cons (ps_asg (pe_op op_fdivW (pe_callB c_abs (by rfl) T.m_abs (by decide +kernel) (pa_cons (pv 3) pa_nil)) (pv 1)) (pg_sub (pv 0) pe_int set_list))
    (pss_one (ps_ret (pe_op op_mod (pe_callTy c_int (by rfl) T.m_int (by decide +kernel) (pa_cons (pe_callB c_abs (by rfl) T.m_abs (by decide +kernel) (pa_cons (pv 3) pa_nil)) pa_nil)) (pv 1)))))
    pss_nil)
    (pss_cons (ps_asg (pe_op op_add (pe_ix (show IxR _ (rIxL K) from ix_list) (pv 0) pe_int (fun _ _ => rfl)) pe_int) (pg_sub (pv 0) pe_int set_list))
    (pss_cons (ps_set (i := 4) DL.sc_law_draw.nd rfl (by first | exact Or.inl rfl | exact Or.inr rfl) (pe_op op_mod (pe_callTy c_int (by rfl) T.m_int (by decide +kernel) (pa_cons (pe_op op_add (pe_op op_add (pe_op op_add (pe_op op_mul (pe_ix (show IxR _ (rIxL K) from ix_list) (pv 0) pe_int (fun _ _ => rfl)) pe_int) (pe_op op_mul (pv 3) pe_int)) (pe_op op_mul (pe_ix (show IxR _ (rIxL K) from ix_list) (pv 0) pe_int (fun _ _ => rfl)) pe_int)) pe_int) pa_nil)) pe_int))
    (pss_cons (ps_set (i := 4) DL.sc_law_draw.nd rfl (by first | exact Or.inl rfl | exact Or.inr rfl) (pe_op op_mod (pe_callTy c_int (by rfl) T.m_int (by decide +kernel) (pa_cons (pe_op op_add (pe_op op_mul (pe_op op_mod (pe_op op_mul (pv 4) (pv 4)) pe_int) (pv 4)) (pv 3)) pa_nil)) pe_int))
    (pss_cons (ps_asg (pv 4) (pg_sub (pv 0) pe_int set_list))
    (pss_cons (ps_if (pt_cmpR op_gt (pv 1) (pe_op op_pow pe_int pe_int) (nomark _))
    (pss_one ps_never)
    pss_nil)
    (pss_one (ps_ret (pe_op op_mod (pe_op op_fdivW (pv 4) pe_int) (pv 1))))))))))))), ?_⟩
  dsimp only [L2.start, DL.N_law_draw, cxOf]
  walk_at "go"
  refine w_ixL (sq_of h1) rfl ?_
  walk_at "go"
  refine w_dec (fun c0 => ?_) (fun c0 => ?_)
  · walk_at "go"
    refine w_ixL (sq_of h1) rfl ?_
    walk_at "go"
    refine w_ixL (sq_of h1) rfl ?_
    walk_at "go"
    refine w_setL h1 rfl ?_
    walk_at "go"
    exact fin _ _ (Int.emod_nonneg _ (by omega)) (Int.emod_lt_of_pos _ (by omega)) ⟨i, b / n, m, c, upd_same, hi, Int.ediv_nonneg hb (by omega), hm0, hm1⟩ DL.Pt.put
  · walk_at "go"
    refine w_ixL (sq_of h1) rfl ?_
    walk_at "go"
    refine w_ixL (sq_of h1) rfl ?_
    walk_at "go"
    refine w_lenL (sq_of h2) ?_
    walk_at "go"
    refine w_dec (fun c1 => ?_) (fun c1 => ?_)
    · walk_at "go"
      refine w_ixL (sq_of h1) rfl ?_
      walk_at "go"
      refine w_ixL (sq_of h1) rfl ?_
      walk_at "go"
      obtain ⟨v, hv⟩ := handAt (ns := ns) hi (by simpa using c1)
      refine w_ixL (sq_of h2) hv ?_
      walk_at "go"
      refine w_ixL (sq_of h1) rfl ?_
      walk_at "go"
      refine w_setL h1 rfl ?_
      have e1 : DL.Pt a H (upd H a (.lst [.ref sc, .int (i + 1), .int b, .int m, .int c])) := DL.Pt.put
      have a1 : upd H a (.lst [.ref sc, .int (i + 1), .int b, .int m, .int c]) a = _ := upd_same
      have hi' : 0 ≤ i + 1 := by omega
      walk_at "go"
      refine w_dec (fun c2 => ?_) (fun c2 => ?_)
      · walk_at "go"
        refine w_setL a1 rfl ?_
        walk_at "go"
        exact fin _ _ (Int.emod_nonneg _ (by omega)) (Int.emod_lt_of_pos _ (by omega)) ⟨_, _, m, c, upd_same, hi', Int.ediv_nonneg (by omega) (by omega), hm0, hm1⟩ (e1.trans DL.Pt.put)
      · walk_at "go"
        refine w_ixL (sq_of a1) rfl ?_
        walk_at "go"
        refine w_setL a1 rfl ?_
        walk_at "go"
        refine w_ixL (sq_of upd_same) rfl ?_
        walk_at "go"
        refine w_ixL (sq_of upd_same) rfl ?_
        walk_at "go"
        generalize hM1 : (m * 40014 + v * 69069 + (c + 1) * 22193 + 7919) % 2147483563 = M1
        have hM1a : 0 ≤ M1 := by omega
        have hM1b : M1 < 2147483563 := by omega
        walk_at "go"
        generalize hM2 : (M1 * M1 % 2147483399 * M1 + v) % 2147483399 = M2
        have hM2a : 0 ≤ M2 := by omega
        have hM2b : M2 < 2147483399 := by omega
        refine w_setL upd_same rfl ?_
        walk_at "go"
        refine w_dec (fun c3 => absurd c3 (by omega)) (fun _ => ?_)
        walk_at "go"
        exact fin _ _ (Int.emod_nonneg _ (by omega)) (Int.emod_lt_of_pos _ (by omega)) ⟨_, b, M2, c + 1, upd_same, hi', hb, hM2a, by omega⟩ ((e1.trans DL.Pt.put).trans DL.Pt.put)
    · have e1 : DL.Pt a H H := DL.Pt.refl
      have a1 := h1
      have hi' := hi
      walk_at "go"
      refine w_dec (fun c2 => ?_) (fun c2 => ?_)
      · walk_at "go"
        refine w_setL a1 rfl ?_
        walk_at "go"
        exact fin _ _ (Int.emod_nonneg _ (by omega)) (Int.emod_lt_of_pos _ (by omega)) ⟨_, _, m, c, upd_same, hi', Int.ediv_nonneg (by omega) (by omega), hm0, hm1⟩ (e1.trans DL.Pt.put)
      · walk_at "go"
        refine w_ixL (sq_of a1) rfl ?_
        walk_at "go"
        refine w_setL a1 rfl ?_
        walk_at "go"
        refine w_ixL (sq_of upd_same) rfl ?_
        walk_at "go"
        refine w_ixL (sq_of upd_same) rfl ?_
        walk_at "go"
        generalize hM1 : (m * 40014 + 0 * 69069 + (c + 1) * 22193 + 7919) % 2147483563 = M1
        have hM1a : 0 ≤ M1 := by omega
        have hM1b : M1 < 2147483563 := by omega
        walk_at "go"
        generalize hM2 : (M1 * M1 % 2147483399 * M1 + 0) % 2147483399 = M2
        have hM2a : 0 ≤ M2 := by omega
        have hM2b : M2 < 2147483399 := by omega
        refine w_setL upd_same rfl ?_
        walk_at "go"
        refine w_dec (fun c3 => absurd c3 (by omega)) (fun _ => ?_)
        walk_at "go"
        exact fin _ _ (Int.emod_nonneg _ (by omega)) (Int.emod_lt_of_pos _ (by omega)) ⟨_, b, M2, c + 1, upd_same, hi', hb, hM2a, by omega⟩ ((e1.trans DL.Pt.put).trans DL.Pt.put)
end
end J
namespace DL
open PySem PySem.Spec PyProof.Rows L2
local macro_rules | `(tactic| row_readAll v) => `(tactic| first
  | (set_option simprocs false in simp only [↓q_seq, ↓q_set, ↓q_setO, ↓q_ret, ↓q_retL, ↓q_drop, ↓q_retN, ↓q_pass, ↓q_brk, ↓q_ctt, ↓q_if, ↓q_tName, ↓q_raise, ↓q_c, ↓q_bin, ↓q_un, ↓q_and, ↓q_or, ↓q_not, ↓q_ife, ↓q_tru, ↓q_blT, ↓q_andT, ↓q_orT, ↓q_notT, ↓q_yes, ↓q_nil, ↓q_cons, ↓q_tup, ↓q_disp, ↓q_lst, ↓q_callD, ↓q_call, ↓q_callL, ↓q_callK, ↓q_isi, ↓q_list, ↓q_iter, ↓q_noPart, ↓q_sl, ↓q_for, ↓q_asg, ↓q_tCons, ↓q_tNil, ↓q_rr, ↓q_fmt, ↓q_js0, ↓q_truB, ↓q_truI, ↓q_truN, ↓q_truTu, ↓q_truL, ↓q_addI, ↓q_addII, ↓q_subII, ↓q_sub, ↓q_neg, ↓q_lt, ↓q_le, ↓q_gt, ↓q_eqI, ↓q_neI, ↓q_eqB, ↓q_neB, ↓q_eqS, ↓q_neS, ↓q_ltS, ↓q_leS, ↓q_isN, ↓q_isNot, ↓q_isB, ↓q_absI, ↓q_ge, ↓q_lenT, ↓q_lenL, ↓q_ixL, ↓q_ixT, ↓q_ix0, ↓q_ix1, ↓q_ix2, ↓q_ix3, ↓q_maxI, ↓q_minI, ↓q_intI, ↓q_intB, ↓q_tupL, ↓q_tupT, ↓q_elT, ↓q_elL, ↓q_itT, ↓q_itL, ↓q_slT, ↓q_slL, ↓q_ownIt, ↓q_ownTup, ↓q_ownLen, ↓q_lkL, ↓q_lkT, ↓q_lkTv, ↓q_lkN, ↓q_app, ↓q_appR, ↓q_aug, ↓q_augR, ↓q_wp0, ↓q_wpS, ↓q_gx0, ↓q_gxS, ↓q_st0, ↓q_stN, ↓q_stZ, ↓q_fz0, ↓q_fz1, ↓q_fz2, ↓q_fzS, ↓q_frz, ↓q_nx, ↓q_rt, ↓q_rl, ↓q_bk, ↓q_ct, ↓q_ex, ↓q_dfL, ↓q_dfN, ↓q_dfR, ↓q_dfX, ↓q_dlL, ↓q_dlX, ↓q_lpN, ↓q_lpC, ↓q_lpB, ↓q_lpR, ↓q_lpL, ↓q_lpX, ↓q_var0, ↓q_varS, ↓q_retO0, ↓q_exB, ↓q_iteT, ↓q_iteF, ↓q_iteNF, ↓q_iteNT, ↓q_set0, ↓q_setS', ↓q_isiI, ↓q_isiT, ↓q_le0, ↓q_ln0, ↓q_le1, ↓q_ln1, ↓q_le2, ↓q_ln2, ↓q_le3, ↓q_ln3, ↓q_le4, ↓q_ln4, ↓q_le5, ↓q_ln5, ↓q_le6, ↓q_ln6, ↓q_le7, ↓q_ln7, ↓q_le8, ↓q_ln8, -eq_self, -iff_self])
  | with_reducible refine' g_seq ?_
  | with_reducible refine' g_nx ?_
  | with_reducible refine' g_set ?_
  | with_reducible refine' g_c ?_
  | ((with_reducible refine' g_var (d := ?d) ?h ?k); (case h => exact rfl))
  | with_reducible refine' g_cons ?_
  | with_reducible refine' g_nil ?_
  | ((with_reducible refine' g_call ?_))
  | ((with_reducible refine' g_callK ?_))
  | ((with_reducible refine' g_callL ?_))
  | with_reducible refine' g_callD ?_
  | with_reducible refine' g_bin ?_
  | with_reducible refine' g_un ?_
  | with_reducible refine' g_ret ?_
  | with_reducible refine' g_retN ?_
  | with_reducible refine' g_retL ?_
  | with_reducible refine' g_rl ?_
  | with_reducible refine' g_dfL ?_
  | with_reducible refine' g_dlL ?_
  | with_reducible refine' g_dlX ?_
  | with_reducible refine' g_lpL ?_
  | with_reducible refine' g_trL ?_
  | with_reducible refine' g_suL ?_
  | ((with_reducible refine' g_retO (es := ?es) ?h ?k); (case h => exact rfl))
  | ((with_reducible refine' g_retOv (d := ?d) ?h ?k); (case h => exact rfl))
  | with_reducible refine' g_dfR ?_
  | with_reducible refine' g_dfN ?_
  | with_reducible refine' g_dfX ?_
  | with_reducible refine' g_rt ?_
  | with_reducible refine' g_bk ?_
  | with_reducible refine' g_ct ?_
  | with_reducible refine' g_ex ?_
  | with_reducible refine' g_lpN ?_
  | with_reducible refine' g_lpC ?_
  | with_reducible refine' g_lpB ?_
  | with_reducible refine' g_lpR ?_
  | with_reducible refine' g_lpX ?_
  | with_reducible refine' g_trN ?_
  | with_reducible refine' g_trR ?_
  | with_reducible refine' g_trX ?_
  | with_reducible refine' g_suN ?_
  | with_reducible refine' g_suR ?_
  | with_reducible refine' g_try ?_
  | with_reducible refine' g_hd0 ?_
  | ((with_reducible refine' g_hdY ?h ?k); (case h => rfl))
  | ((with_reducible refine' g_hdN ?h ?k); (case h => rfl))
  | with_reducible refine' g_raise ?_
  | with_reducible refine' g_if ?_
  | with_reducible refine' g_tru ?_
  | with_reducible refine' g_blT ?_
  | with_reducible refine' g_andT ?_
  | with_reducible refine' g_orT ?_
  | with_reducible refine' g_notT ?_
  | with_reducible refine' g_yes ?_
  | with_reducible refine' g_and ?_
  | with_reducible refine' g_or ?_
  | with_reducible refine' g_not ?_
  | with_reducible refine' g_ife ?_
  | with_reducible refine' g_chain ?_
  | with_reducible refine' g_isi ?_
  | with_reducible refine' g_truB ?_
  | with_reducible refine' g_truI ?_
  | with_reducible refine' g_truN ?_
  | with_reducible refine' g_truT ?_
  | with_reducible refine' g_truL ?_
  | with_reducible refine' g_tup ?_
  | with_reducible refine' g_disp ?_
  | with_reducible refine' g_lst ?_
  | with_reducible refine' g_list ?_
  | with_reducible refine' g_iter ?_
  | with_reducible refine' g_itT ?_
  | with_reducible refine' g_itL ?_
  | with_reducible refine' g_elT ?_
  | with_reducible refine' g_elL ?_
  | with_reducible refine' g_rng ?_
  | with_reducible refine' g_setO ?_
  | with_reducible refine' g_drop ?_
  | with_reducible refine' g_pass ?_
  | with_reducible refine' g_brk ?_
  | with_reducible refine' g_ct' ?_
  | with_reducible refine' g_asg ?_
  | with_reducible refine' g_tName ?_
  | ((with_reducible refine' g_tTup ?h ?k); (case h => rfl))
  | with_reducible refine' g_tCons ?_
  | with_reducible refine' g_tNil ?_
  | ((with_reducible refine' g_frz (e := ?e) ?h ?k); (case h => exact rfl))
  | ((with_reducible refine' g_app (es := ?es) ?h ?k); (case h => exact rfl))
  | with_reducible refine' g_put ?_
  | with_reducible refine' g_par ?_
  | ((with_reducible refine' g_aug (x := ?x) ?h ?k); (case h => exact rfl))
  | with_reducible refine' g_for ?_
  | with_reducible refine' g_sl ?_
  | with_reducible refine' g_noPart ?_
  | with_reducible refine' g_part ?_
  | with_reducible refine' g_rep ?_
  | ((with_reducible refine' g_ownLen (es := ?es) ?h ?k); (case h => exact rfl))
  | ((with_reducible refine' g_ownTup (es := ?es) ?h ?k); (case h => exact rfl))
  | ((with_reducible refine' g_ownTupV (d := ?d) ?h ?k); (case h => exact rfl))
  | ((with_reducible refine' g_ownInF (es := ?es) ?h ?k); (case h => exact rfl))
  | ((with_reducible refine' g_ownInT (es := ?es) ?h ?k); (case h => exact rfl))
  | ((with_reducible refine' g_ownEqF (es := ?es) ?h ?k); (case h => exact rfl))
  | ((with_reducible refine' g_ownEqT (es := ?es) ?h ?k); (case h => exact rfl))
  | ((with_reducible refine' g_ownIsi (es := ?es) ?h ?k); (case h => exact rfl))
  | ((with_reducible refine' g_ownIt (es := ?es) ?h ?k); (case h => exact rfl))
  | ((with_reducible refine' g_ownIx (es := ?es) ?h ?k); (case h => exact rfl))
  | with_reducible refine' g_addI ?_
  | with_reducible refine' g_addII ?_
  | with_reducible refine' g_subII ?_
  | with_reducible refine' g_sub ?_
  | ((with_reducible refine' g_mod ?h ?k); (case h => first | decide | omega))
  | ((with_reducible refine' g_div ?h ?k); (case h => first | decide | omega))
  | ((with_reducible refine' g_mul ?h ?k); (case h => first | decide | omega))
  | ((with_reducible refine' g_pow ?h ?k); (case h => decide))
  | with_reducible refine' g_neg ?_
  | with_reducible refine' g_lt ?_
  | with_reducible refine' g_le ?_
  | with_reducible refine' g_gt ?_
  | with_reducible refine' g_ge ?_
  | with_reducible refine' g_ltS ?_
  | with_reducible refine' g_leS ?_
  | with_reducible refine' g_eqI ?_
  | with_reducible refine' g_neI ?_
  | with_reducible refine' g_eqB ?_
  | with_reducible refine' g_neB ?_
  | with_reducible refine' g_eqS ?_
  | with_reducible refine' g_neS ?_
  | with_reducible refine' g_isN ?_
  | with_reducible refine' g_isNot ?_
  | with_reducible refine' g_isB ?_
  | with_reducible refine' g_lenT ?_
  | with_reducible refine' g_lenL ?_
  | with_reducible refine' g_lenScr ?_
  | with_reducible refine' g_ixL ?_
  | with_reducible refine' g_ixT ?_
  | with_reducible refine' g_ix0 ?_
  | with_reducible refine' g_ix1 ?_
  | with_reducible refine' g_ix2 ?_
  | with_reducible refine' g_ix3 ?_
  | with_reducible refine' g_maxI ?_
  | with_reducible refine' g_minI ?_
  | with_reducible refine' g_absI ?_
  | with_reducible refine' g_intI ?_
  | with_reducible refine' g_intB ?_
  | with_reducible refine' g_tupL ?_
  | with_reducible refine' g_tupT ?_
  | with_reducible refine' g_slT ?_
  | with_reducible refine' g_slL ?_
  | ((with_reducible refine' g_isiI ?h ?k); (case h => first | rfl | assumption))
  | ((with_reducible refine' g_isiB ?h ?k); (case h => first | rfl | assumption))
  | ((with_reducible refine' g_isiS ?h ?k); (case h => first | rfl | assumption))
  | ((with_reducible refine' g_isiT ?h ?k); (case h => first | rfl | assumption))
  | ((with_reducible refine' g_isiL ?h ?k); (case h => first | rfl | assumption))
  | with_reducible refine' g_fmt ?_
  | with_reducible refine' g_js0 ?_
  | with_reducible refine' g_js ?_
  | with_reducible refine' g_rr ?_
  | with_reducible refine' iteT ?_
  | with_reducible refine' iteF ?_
  | with_reducible refine' iteNF ?_
  | with_reducible refine' iteNT ?_
  | with_reducible refine' ⟨_, rfl, ?_⟩
  | ((with_reducible refine' And.intro (a := _ ≤ 16777216) ?h ?k); (case h => first | decide | (simp only [List.length_cons, List.length_nil]; omega) | (simp; omega)))
  | ((with_reducible refine' And.intro (a := List.length _ = _) ?h ?k); (case h => rfl))
  )
local macro_rules | `(tactic| walk_at "v") => `(tactic| repeat row_readAll v)
local macro_rules | `(tactic| walk_at "w") => `(tactic| repeat (first
  | with_reducible refine' g_seq ?_
  | with_reducible refine' g_nx ?_))
local macro_rules | `(tactic| walk_at "s") => `(tactic| (set_option simprocs false in simp only [↓q_seq, ↓q_set, ↓q_setO, ↓q_ret, ↓q_retL, ↓q_drop, ↓q_retN, ↓q_pass, ↓q_brk, ↓q_ctt, ↓q_if, ↓q_tName, ↓q_raise, ↓q_c, ↓q_bin, ↓q_un, ↓q_and, ↓q_or, ↓q_not, ↓q_ife, ↓q_tru, ↓q_blT, ↓q_andT, ↓q_orT, ↓q_notT, ↓q_yes, ↓q_nil, ↓q_cons, ↓q_tup, ↓q_disp, ↓q_lst, ↓q_callD, ↓q_call, ↓q_callL, ↓q_callK, ↓q_isi, ↓q_list, ↓q_iter, ↓q_noPart, ↓q_sl, ↓q_for, ↓q_asg, ↓q_tCons, ↓q_tNil, ↓q_rr, ↓q_fmt, ↓q_js0, ↓q_truB, ↓q_truI, ↓q_truN, ↓q_truTu, ↓q_truL, ↓q_addI, ↓q_addII, ↓q_subII, ↓q_sub, ↓q_neg, ↓q_lt, ↓q_le, ↓q_gt, ↓q_eqI, ↓q_neI, ↓q_eqB, ↓q_neB, ↓q_eqS, ↓q_neS, ↓q_ltS, ↓q_leS, ↓q_isN, ↓q_isNot, ↓q_isB, ↓q_absI, ↓q_ge, ↓q_lenT, ↓q_lenL, ↓q_ixL, ↓q_ixT, ↓q_ix0, ↓q_ix1, ↓q_ix2, ↓q_ix3, ↓q_maxI, ↓q_minI, ↓q_intI, ↓q_intB, ↓q_tupL, ↓q_tupT, ↓q_elT, ↓q_elL, ↓q_itT, ↓q_itL, ↓q_slT, ↓q_slL, ↓q_ownIt, ↓q_ownTup, ↓q_ownLen, ↓q_lkL, ↓q_lkT, ↓q_lkTv, ↓q_lkN, ↓q_app, ↓q_appR, ↓q_aug, ↓q_augR, ↓q_wp0, ↓q_wpS, ↓q_gx0, ↓q_gxS, ↓q_st0, ↓q_stN, ↓q_stZ, ↓q_fz0, ↓q_fz1, ↓q_fz2, ↓q_fzS, ↓q_frz, ↓q_nx, ↓q_rt, ↓q_rl, ↓q_bk, ↓q_ct, ↓q_ex, ↓q_dfL, ↓q_dfN, ↓q_dfR, ↓q_dfX, ↓q_dlL, ↓q_dlX, ↓q_lpN, ↓q_lpC, ↓q_lpB, ↓q_lpR, ↓q_lpL, ↓q_lpX, ↓q_var0, ↓q_varS, ↓q_retO0, ↓q_exB, ↓q_iteT, ↓q_iteF, ↓q_iteNF, ↓q_iteNT, ↓q_set0, ↓q_setS', ↓q_isiI, ↓q_isiT, ↓q_le0, ↓q_ln0, ↓q_le1, ↓q_ln1, ↓q_le2, ↓q_ln2, ↓q_le3, ↓q_ln3, ↓q_le4, ↓q_ln4, ↓q_le5, ↓q_ln5, ↓q_le6, ↓q_ln6, ↓q_le7, ↓q_ln7, ↓q_le8, ↓q_ln8, -eq_self, -iff_self]))
section
variable {env : Env} {fu : Nat} {E : Nat → Er → Prop} {QD Q : Nat → D → Prop} {QB : Nat → Bool → Prop} {QL : Nat → List D → Prop} {i j lo hi : Int} {d x y z : D} {ds es : List D} {b c : Bool} {s t : Str}
/-- an int within bounds -/
def isWh (d : D) (lo hi : Int) : Bool := match d with
  | .int i => decide (lo ≤ i) && decide (i ≤ hi)
  | _ => false
theorem a_is_whole (p : plainD d = true) (h : QD fu (.bool (isWh d lo hi))) : (F_is_whole [d, .int lo, .int hi]).go fu QD E := by
  refine g_def rfl ?_
  unfold B_is_whole
  cases d with
  | int i =>
    walk_at "v"
    have h : QD fu (.bool (decide (lo ≤ i) && decide (i ≤ hi))) := h
    refine v_cb (fun e => ?_) (fun e => ?_)
    · walk_at "v"
      rw [e] at h; exact h
    · walk_at "v"
      rw [e] at h; exact h
  | dict kv =>
    walk_at "v"
    exact h
  | _ =>
    walk_at "v"
    exact h
def isWord (d : D) (qs : List Str) : Bool := match d with
  | .str s => inV (.str s) (qs.map V.str)
  | _ => false
def isFold (n : Int) (d : D) : Bool := isWh d 0 (n - 1)
def neInt (f t : D) : Bool := match f, t with
  | .int a, .int b => !decide (a = b)
  | _, _ => false
/-- a paper deed for n folders -/
def isDeed (n : Int) (d : D) : Bool := match d with
  | .tuple [w, f, t] => isFold n f && (if isWord w ["over", "under"] then isFold n t && neInt f t else isWord w ["write", "throw"] && isWh t 0 3)
  | _ => false
def okDeed (d : D) : Bool := plainD d && (match d with
  | .tuple ds => ds.all plainD
  | _ => true)
theorem isWh_int {d : D} {lo hi : Int} (h : isWh d lo hi = true) : ∃ i, d = .int i ∧ lo ≤ i ∧ i ≤ hi := by
  unfold isWh at h
  split at h
  · simp only [Bool.and_eq_true, decide_eq_true_eq] at h
    exact ⟨_, rfl, h.1, h.2⟩
  · cases h
end
section
variable {env : Env} {fu : Nat} {E : Nat → Er → Prop} {QD Q : Nat → D → Prop} {QB : Nat → Bool → Prop} {QL : Nat → List D → Prop} {i j lo hi : Int} {d x y z : D} {ds es : List D} {b c : Bool} {s t : Str}
theorem map_bool (f : D → Bool) (ds : List D) : ds.map (fun d => PyData.bool (f d)) = (ds.map f).map PyData.bool := by rw [List.map_map]; rfl
def isScript (n : Int) (d : D) : Bool := match d with
  | .tuple ds => decide ((ds.length : Int) ≤ 30) && (ds.map (isDeed n)).all id
  | _ => false
def okScript (d : D) : Bool := plainD d && (match d with
  | .tuple ds => ds.all okDeed && decide (ds.length ≤ 1000)
  | _ => true)
end
inductive Sc | f (i : Nat) | w (p : Nat) deriving DecidableEq
def Sc.d : Sc → D
  | .f i => .tuple [.str "first", .int (i : Nat)]
  | .w p => .tuple [.str "written", .int (p : Nat)]
def Sc.tok : Sc → D
  | .f _ => .str "first"
  | .w _ => .str "written"
def Sc.nr : Sc → Nat
  | .f i => i
  | .w p => p
theorem Sc.d_eq (s : Sc) : s.d = .tuple [s.tok, .int (s.nr : Nat)] := by cases s <;> rfl
theorem canLayAll_of {ds : List D} (h : ∀ d ∈ ds, PyData.canLay0 d = true) : PyData.canLayAll0 ds = true := by
  induction ds with
  | nil => rfl
  | cons d ds ih => show (PyData.canLay0 d && PyData.canLayAll0 ds) = true; rw [h d List.mem_cons_self, ih fun x hx => h x (List.mem_cons_of_mem _ hx)]; rfl
theorem depthAll_of {ds : List D} {k : Nat} (h : ∀ d ∈ ds, PyData.depth d ≤ k) : PyData.depthAll ds ≤ k := by
  induction ds with
  | nil => exact Nat.zero_le _
  | cons d ds ih =>
    have h1 := h d List.mem_cons_self
    have h2 := ih fun x hx => h x (List.mem_cons_of_mem _ hx)
    simp only [PyData.depthAll]; omega
theorem shapedT_of {ds : List D} (h : ∀ d ∈ ds, PyData.canLay0 d = true ∧ PyData.depth d ≤ 60) : SeqAt.shaped (.tuple ds) = true := by
  unfold SeqAt.shaped
  have h1 : PyData.canLay0 (.tuple ds) = true := by simp only [PyData.canLay0]; exact canLayAll_of fun d hd => (h d hd).1
  have h2 : PyData.depth (.tuple ds) ≤ 61 := by
    have := depthAll_of fun d hd => (h d hd).2
    simp only [PyData.depth]; omega
  rw [h1, decide_eq_true (by omega)]; rfl
def rowD (r : List Sc) : D := .tuple (r.map Sc.d)
def rowsD (rs : List (List Sc)) : D := .tuple (rs.map rowD)
def isW : Sc → Bool
  | .w _ => true
  | _ => false
def endsW (a : List Sc) : Bool := match a.getLast? with
  | some s => isW s
  | none => false
def laid (a b : List Sc) : List Sc := if endsW a = true then a else a ++ b.filter fun s => !decide (s ∈ a)
section
variable {env : Env} {fu : Nat} {E : Nat → Er → Prop} {QD Q : Nat → D → Prop} {QB : Nat → Bool → Prop} {QL : Nat → List D → Prop} {i j lo hi : Int} {d x y z : D} {ds es : List D} {b c : Bool} {s t : Str} {n : Nat}
theorem ixN_nat {m k : Nat} (h : k < m) : ixN m (k : Int) = some k := by
  unfold ixN
  rw [if_pos (by omega), if_pos (by omega), Int.toNat_natCast]
theorem ixL_nat {ds : List D} {k : Nat} (h : k < ds.length) : ixL ds (k : Int) = .ret ds[k] := by
  unfold ixL atI
  rw [ixN_nat h]
  show (match ds[k]? with | some d => R.ret d | none => R.bad) = _
  rw [List.getElem?_eq_getElem h]
theorem ixL_last {ds : List D} {x : D} (h : ds.getLast? = some x) : ixL ds (-1) = .ret x := by
  have hl : 0 < ds.length := by
    cases ds with
    | nil => cases h
    | cons => simp
  unfold ixL atI ixN
  rw [if_neg (by decide), if_pos (by omega), show (-1 + (ds.length : Int)).toNat = ds.length - 1 by omega]
  rw [List.getLast?_eq_getElem?] at h
  show (match ds[ds.length - 1]? with | some d => R.ret d | none => R.bad) = _
  rw [h]
/-- the bounds that keep all sizes small -/
structure RowOk (k : Nat) (r : List Sc) : Prop where
  nd : r.Nodup
  b : ∀ s ∈ r, s.nr < k
theorem nodup_len {α : Type} [DecidableEq α] : ∀ {l u : List α}, l.Nodup → (∀ a ∈ l, a ∈ u) → l.length ≤ u.length
  | [], _, _, _ => Nat.zero_le _
  | a :: l, u, hn, hs => by
    have h1 := hs a List.mem_cons_self
    have hn' := List.nodup_cons.mp hn
    have := nodup_len (l := l) (u := u.erase a) hn'.2 fun x hx => (List.mem_erase_of_ne (fun e => hn'.1 (by rw [e] at hx; exact hx))).mpr (hs x (List.mem_cons_of_mem _ hx))
    have h3 := List.length_erase_of_mem h1
    have h4 := List.length_pos_of_mem h1
    simp only [List.length_cons]
    omega
theorem RowOk.len {k : Nat} {r : List Sc} (h : RowOk k r) : r.length ≤ 2 * k := by
  have := nodup_len (u := (List.range k).map Sc.f ++ (List.range k).map Sc.w) h.nd fun s hs => by
    have := h.b s hs
    cases s with
    | f i => exact List.mem_append_left _ (List.mem_map.mpr ⟨i, List.mem_range.mpr this, rfl⟩)
    | w i => exact List.mem_append_right _ (List.mem_map.mpr ⟨i, List.mem_range.mpr this, rfl⟩)
  simp only [List.length_append, List.length_map, List.length_range] at this
  omega
theorem RowOk.laid {k : Nat} {a b : List Sc} (h1 : RowOk k a) (h2 : RowOk k b) : RowOk k (laid a b) := by
  unfold DL.laid
  split
  · exact h1
  · refine ⟨List.nodup_append.mpr ⟨h1.nd, h2.nd.filter _, ?_⟩, fun s hs => ?_⟩
    · rintro x hx y hy rfl
      have := (List.mem_filter.mp hy).2
      rw [decide_eq_true hx] at this
      cases this
    · rcases List.mem_append.mp hs with hs | hs
      · exact h1.b s hs
      · exact h2.b s (List.mem_filter.mp hs).1
theorem compF {α : Type} (enc : α → D) (p : α → Bool) (g : α → D) {body : D → R (Option D)} : ∀ {l : List α} {fu : Nat} {QL : Nat → List D → Prop}, (∀ s ∈ l, ∀ fu (QX : Nat → Option D → Prop), QX fu (if p s = true then some (g s) else none) → (body (enc s)).wp fu QX E) → QL fu ((l.filter p).map g) → (compL body (l.map enc)).wp fu QL E
  | [], fu, QL, _, h => h
  | s :: l, fu, QL, hb, h => by
    refine bndI (hb s List.mem_cons_self fu _ ?_)
    refine bndI (compF enc p g (fun x hx => hb x (List.mem_cons_of_mem _ hx)) ?_)
    by_cases hp : p s = true
    · rw [if_pos hp]
      rw [List.filter_cons_of_pos hp] at h
      exact h
    · rw [if_neg hp]
      rw [List.filter_cons_of_neg hp] at h
      exact h
theorem g_compF {α : Type} (enc : α → D) (p : α → Bool) (g : α → D) {body : D → R (Option D)} {l : List α} {fu : Nat} {QL : Nat → List D → Prop} (hb : ∀ s ∈ l, ∀ fu (QX : Nat → Option D → Prop), QX fu (if p s = true then some (g s) else none) → (body (enc s)).go fu QX E) (h : QL fu ((l.filter p).map g)) : (compL body (l.map enc)).go fu QL E := by
  simp only [R.go_eq] at *
  exact compF enc p g hb h
def Deed (n : Nat) (d : D) : Prop := ∃ (w : Str) (f t : Nat), d = .tuple [.str w, .int (f : Nat), .int (t : Nat)] ∧ f < n ∧ ((w = "over" ∨ w = "under") ∧ t < n ∧ f ≠ t ∨ (w = "write" ∨ w = "throw") ∧ t ≤ 3)
/-- the rows behind a deed -/
def beh (path : Nat) (rs : List (List Sc)) (w : Str) (f t p : Nat) : List (List Sc) :=
  if w = "over" then rs.set t (laid (rs.getD f []) (rs.getD t []))
  else if w = "under" then rs.set t (laid (rs.getD t []) (rs.getD f []))
  else if t ≠ path then rs
  else rs.set f (if w = "write" then [.w p] else [])
structure RowsOk (n k : Nat) (rs : List (List Sc)) : Prop where
  len : rs.length = n
  row : ∀ r ∈ rs, RowOk k r
theorem RowsOk.get {n k : Nat} {rs : List (List Sc)} (h : RowsOk n k rs) {i : Nat} (hi : i < n) : RowOk k (rs.getD i []) := by
  have : i < rs.length := by rw [h.len]; exact hi
  rw [List.getD_eq_getElem?_getD, List.getElem?_eq_getElem this]
  exact h.row _ (List.getElem_mem this)
theorem RowsOk.set {n k : Nat} {rs : List (List Sc)} (h : RowsOk n k rs) {i : Nat} {r : List Sc} (hr : RowOk k r) : RowsOk n k (rs.set i r) :=
  ⟨by rw [List.length_set]; exact h.len, fun x hx => (List.mem_or_eq_of_mem_set hx).elim (h.row x) fun e => e ▸ hr⟩
theorem RowsOk.beh {n k path f t p : Nat} {w : Str} {rs : List (List Sc)} (h : RowsOk n k rs) (hf : f < n) (ht : w = "over" ∨ w = "under" → t < n) (hp : p < k) : RowsOk n k (beh path rs w f t p) := by
  unfold DL.beh
  split
  · rename_i e
    exact h.set ((h.get hf).laid (h.get (ht (.inl e))))
  · split
    · rename_i e
      exact h.set ((h.get (ht (.inr e))).laid (h.get hf))
    · split
      · exact h
      · refine h.set ?_
        split
        · exact ⟨by simp, fun s hs => by rw [List.mem_singleton.mp hs]; exact hp⟩
        · exact ⟨List.nodup_nil, fun s hs => by cases hs⟩
def firsts (n : Nat) : List (List Sc) := (List.range n).map fun i => [.f i]
theorem rngD_nat (m : Nat) : rngD 0 (m : Int) = (List.range m).map fun i => PyData.int (i : Nat) := by
  unfold rngD
  rw [show ((m : Int) - 0).toNat = m by omega]
  refine List.map_congr_left fun i _ => ?_
  show PyData.int (0 + (i : Int)) = _
  rw [Int.zero_add]
theorem filter_true {α : Type} (l : List α) : l.filter (fun _ => true) = l := List.filter_eq_self.mpr fun _ _ => rfl
/-- a comprehension over a range -/
theorem g_compR {E : Nat → Er → Prop} (g : Nat → D) {body : D → R (Option D)} {m : Nat} {fu : Nat} {QL : Nat → List D → Prop} (hb : ∀ i, i < m → ∀ fu (QX : Nat → Option D → Prop), QX fu (some (g i)) → (body (.int (i : Nat))).go fu QX E) (h : QL fu ((List.range m).map g)) : (compL body (rngD 0 (m : Int))).go fu QL E := by
  rw [rngD_nat]
  refine g_compF (fun i : Nat => PyData.int (i : Nat)) (fun _ => true) g (fun s hs fu QX hq => hb s (List.mem_range.mp hs) fu QX (by rw [if_pos rfl] at hq; exact hq)) ?_
  rw [filter_true]; exact h
theorem g_compM {E : Nat → Er → Prop} {α : Type} (enc : α → D) (g : α → D) {body : D → R (Option D)} {l : List α} {fu : Nat} {QL : Nat → List D → Prop} (hb : ∀ s ∈ l, ∀ fu (QX : Nat → Option D → Prop), QX fu (some (g s)) → (body (enc s)).go fu QX E) (h : QL fu (l.map g)) : (compL body (l.map enc)).go fu QL E := by
  refine g_compF enc (fun _ => true) g (fun s hs fu QX hq => hb s hs fu QX (by rw [if_pos rfl] at hq; exact hq)) ?_
  rw [filter_true]; exact h
def deedD (d : Str × Nat × Nat) : D := .tuple [.str d.1, .int (d.2.1 : Nat), .int (d.2.2 : Nat)]
def DeedOk (n : Nat) (d : Str × Nat × Nat) : Prop := d.2.1 < n ∧ ((d.1 = "over" ∨ d.1 = "under") ∧ d.2.2 < n ∧ d.2.1 ≠ d.2.2 ∨ (d.1 = "write" ∨ d.1 = "throw") ∧ d.2.2 ≤ 3)
/-- the rows behind the first k deeds -/
def thru (n path : Nat) (ds : List (Str × Nat × Nat)) : Nat → List (List Sc)
  | 0 => firsts n
  | k + 1 => match ds[k]? with
    | some d => beh path (thru n path ds k) d.1 d.2.1 d.2.2 k
    | none => thru n path ds k
def alongD (n path : Nat) (ds : List (Str × Nat × Nat)) (k : Nat) : List D := (List.range (k + 1)).map fun j => rowsD (thru n path ds j)
theorem v_enum {fa : Env → R D} (h : (fa env).wp fu (fun fu x => ∃ ds, (x = .list ds ∨ x = .tuple ds) ∧ QL fu (enumD ds)) E) : (enumF fa env).wp fu QL E :=
  bndI (R.wp_mono h (fun fu x ⟨ds, e, h⟩ => by rcases e with e | e <;> subst e <;> exact h) fun _ _ h => h)
theorem g_enum {fa : Env → R D} (h : (fa env).go fu (fun fu x => ∃ ds, (x = .list ds ∨ x = .tuple ds) ∧ QL fu (enumD ds)) E) : (enumF fa env).go fu QL E := by
  simp only [R.go_eq] at *
  exact v_enum h
theorem enum_map {α : Type} (enc : α → D) (l : List α) {k : Nat} {d : D} (h : (enumD (l.map enc))[k]? = some d) : ∃ a, l[k]? = some a ∧ d = .tuple [.int (k : Nat), enc a] := by
  unfold enumD at h
  rw [List.getElem?_mapIdx, List.getElem?_map] at h
  cases e : l[k]? with
  | none => rw [e] at h; cases h
  | some a => rw [e] at h; cases h; exact ⟨a, rfl, rfl⟩
def contD (c : List Nat) : D := .tuple (c.map fun i => .int (i : Nat))
def there (c : List Nat) (s : Sc) : Bool := isW s || decide (s.nr ∈ c)
def papD : Option Sc → D
  | some s => s.d
  | none => .none
def papsD (ps : List (Option Sc)) : D := .tuple (ps.map papD)
def papersOf (c : List Nat) (rs : List (List Sc)) : List (Option Sc) := rs.map fun r => r.find? (there c)
/-- size, script and path that are right -/
structure Work (n path : Nat) (ds : List (Str × Nat × Nat)) : Prop where
  n1 : 1 ≤ n
  n6 : n ≤ 6
  p3 : path ≤ 3
  l30 : ds.length ≤ 30
  deeds : ∀ d ∈ ds, DeedOk n d
/-- the rows behind the whole script -/
def rowsAt (n path : Nat) (ds : List (Str × Nat × Nat)) : List (List Sc) := thru n path ds ds.length
/-- ascending folders -/
def ContOk (n : Nat) (c : List Nat) : Prop := c.length ≤ 1000 ∧ (∀ x ∈ c, x < n) ∧ c.Pairwise (· < ·)
end
section
variable {env : Env} {fu : Nat} {E : Nat → Er → Prop} {QD Q : Nat → D → Prop} {QB : Nat → Bool → Prop} {QL : Nat → List D → Prop} {i j lo hi : Int} {d x y z : D} {ds es : List D} {b c : Bool} {s t : Str} {fa fb : Env → R D} {k : Nat}
theorem g_andB {a b : Bool} (h1 : ∀ {Q : Nat → D → Prop}, Q fu (.bool a) → (fa env).go fu Q E) (h2 : a = true → ∀ {Q : Nat → D → Prop}, Q fu (.bool b) → (fb env).go fu Q E) (h : QD fu (.bool (a && b))) : (andD fa fb env).go fu QD E := by
  refine g_and (h1 ?_)
  walk_at "v"
  cases a with
  | true =>
    rw [if_pos rfl]
    exact h2 rfl h
  | false =>
    rw [if_neg (by decide)]
    exact h
theorem g_orB {a b : Bool} (h1 : ∀ {Q : Nat → D → Prop}, Q fu (.bool a) → (fa env).go fu Q E) (h2 : a = false → ∀ {Q : Nat → D → Prop}, Q fu (.bool b) → (fb env).go fu Q E) (h : QD fu (.bool (a || b))) : (orD fa fb env).go fu QD E := by
  refine g_or (h1 ?_)
  walk_at "v"
  cases a with
  | true =>
    rw [if_pos rfl]
    exact h
  | false =>
    rw [if_neg (by decide)]
    exact h2 rfl h
def okN : Nat → D → Bool
  | 0, d => plainD d && (match d with
    | .str s => decide (s.length ≤ 1000) && PyData.strOk s
    | _ => true)
  | k + 1, d => plainD d && (match d with
    | .str s => decide (s.length ≤ 1000) && PyData.strOk s
    | .tuple ds => decide (ds.length ≤ 1000) && ds.all (okN k)
    | .list ds => decide (ds.length ≤ 1000) && ds.all (okN k)
    | _ => true)
theorem okN_plain (h : okN k d = true) : plainD d = true := by
  cases k <;> (unfold okN at h; rw [Bool.and_eq_true] at h; exact h.1)
theorem okN_str (h : okN k (.str s) = true) : s.length ≤ 1000 := by
  cases k <;> (unfold okN at h; rw [Bool.and_eq_true, Bool.and_eq_true, decide_eq_true_eq] at h; exact h.2.1)
theorem okN_tup (h : okN (k + 1) (.tuple ds) = true) : ds.length ≤ 1000 ∧ ∀ d ∈ ds, okN k d = true := by
  unfold okN at h
  rw [Bool.and_eq_true, Bool.and_eq_true, decide_eq_true_eq, List.all_eq_true] at h
  exact h.2
theorem okN_mkT (h1 : ds.length ≤ 1000) (h2 : ∀ d ∈ ds, okN k d = true) : okN (k + 1) (.tuple ds) = true := by
  unfold okN
  rw [Bool.and_eq_true, Bool.and_eq_true, decide_eq_true_eq, List.all_eq_true]
  exact ⟨rfl, h1, h2⟩
def isPairD (d : D) : Bool := match d with
  | .tuple ds => decide ((ds.length : Int) = 2)
  | _ => false
theorem isPair_is (h : isPairD d = true) : ∃ x y, d = .tuple [x, y] := by
  unfold isPairD at h
  split at h
  · rename_i ds
    match ds, of_decide_eq_true h with
    | [x, y], _ => exact ⟨x, y, rfl⟩
    | [], h => simp at h
    | [_], h => simp at h
    | _ :: _ :: _ :: r, h => simp only [List.length_cons] at h; omega
  · cases h
theorem a_is_pairD (p : plainD d = true) (h : QD fu (.bool (isPairD d))) : (F_is_pair [d]).go fu QD E := by
  refine g_def rfl ?_
  unfold B_is_pair
  cases d with
  | dict kv =>
    walk_at "v"
    exact h
  | _ =>
    walk_at "v"
    exact h
def risB (lt : D → D → Bool) : List D → Bool
  | x :: y :: r => lt x y && risB lt (y :: r)
  | _ => true
theorem risB_range (lt : D → D → Bool) : ∀ (ds : List D), ((List.range (ds.length - 1)).map fun i => lt (ds.getD i .none) (ds.getD (i + 1) .none)).all id = risB lt ds
  | [] => rfl
  | [x] => rfl
  | x :: y :: r => by
    have ih := risB_range lt (y :: r)
    rw [risB, ← ih]
    simp only [List.length_cons, Nat.add_sub_cancel, List.all_map]
    rw [List.range_succ_eq_map, List.all_cons, List.all_map]
    rfl
theorem getD_of {ds : List D} {i : Nat} (h : i < ds.length) : ds.getD i .none = ds[i] := by
  rw [List.getD_eq_getElem?_getD, List.getElem?_eq_getElem h]; rfl
theorem a_is_risingT {lt : D → D → Bool} (hl : ds.length ≤ 1000) (hlt : ∀ i, i + 1 < ds.length → gLt (ds.getD i .none) (ds.getD (i + 1) .none) = .ret (.bool (lt (ds.getD i .none) (ds.getD (i + 1) .none))))
    (h : QD fu (.bool (risB lt ds))) : (F_is_rising [.tuple ds]).go fu QD E := by
  refine g_def rfl ?_
  unfold B_is_rising
  walk_at "v"
  refine g_comp ?_
  walk_at "v"
  have e : rngD 0 ((ds.length : Int) - 1) = rngD 0 ((ds.length - 1 : Nat) : Int) := by
    unfold rngD
    rw [show ((ds.length : Int) - 1 - 0).toNat = (((ds.length - 1 : Nat) : Int) - 0).toNat by omega]
  refine ⟨0, _, .inl ⟨rfl, rfl⟩, by unfold rngOk; exact decide_eq_true (by omega), ?_⟩
  rw [e]
  refine ⟨by rw [rngD_nat, List.length_map, List.length_range]; omega, g_compR (fun i => .bool (lt (ds.getD i .none) (ds.getD (i + 1) .none))) (fun i hi fu QX hq => g_item ?_) ?_⟩
  · have h1 : i < ds.length := by omega
    have h2 : i + 1 < ds.length := by omega
    walk_at "v"
    refine g_ret1 (ixL_nat h1) ?_
    walk_at "v"
    rw [show ((i : Int) + 1) = ((i + 1 : Nat) : Int) by omega]
    refine g_ret1 (ixL_nat h2) ?_
    rw [← getD_of h1, ← getD_of h2]
    refine g_ret1 (hlt i h2) ?_
    exact hq
  · walk_at "v"
    refine g_allB (bs := (List.range (ds.length - 1)).map fun i => lt (ds.getD i .none) (ds.getD (i + 1) .none)) (by rw [List.map_map]; rfl) ?_
    rw [risB_range]
    walk_at "v"
    exact h
def isPat (d : D) : Bool := match d with
  | .str s => decide ((s.length : Int) ≤ 4) && (decide (111 ∈ s.cps.toList) && decide (Txt.count s "o" + Txt.count s "-" = (s.length : Int)))
  | _ => false
theorem a_is_pattern (p : okN k d = true) (h : QD fu (.bool (isPat d))) : (F_is_pattern [d]).go fu QD E := by
  have hp := okN_plain p
  refine g_def rfl ?_
  unfold B_is_pattern
  cases d with
  | str s =>
    have hl := okN_str p
    have h : QD fu (.bool (true && (decide ((s.length : Int) ≤ 4) && (decide (111 ∈ s.cps.toList) && decide (Txt.count s "o" + Txt.count s "-" = (s.length : Int)))))) := h
    refine g_ret (g_andB (fun hq => ?_) (fun _ _ hq => g_andB (fun hq => ?_) (fun _ _ hq => g_andB (fun hq => ?_) (fun _ _ hq => ?_) hq) hq) h)
    · walk_at "v"
      exact hq
    · walk_at "v"
      refine g_lenS (by omega) ?_
      walk_at "v"
      exact hq
    · walk_at "v"
      refine g_ret1 (a := .bool (decide (111 ∈ s.cps.toList))) rfl ?_
      exact hq
    · walk_at "v"
      refine g_ret1 (a := .int (Txt.count s "o")) rfl ?_
      walk_at "v"
      refine g_ret1 (a := .int (Txt.count s "-")) rfl ?_
      walk_at "v"
      refine g_lenS (by omega) ?_
      walk_at "v"
      exact hq
  | dict kv =>
    walk_at "v"
    exact h
  | _ =>
    walk_at "v"
    exact h
def intD (d : D) : Int := match d with
  | .int i => i
  | _ => 0
def isSpan (d : D) : Bool := match d with
  | .tuple [a, b] => isWh a (-30) 30 && isWh b (intD a) 30
  | _ => false
theorem a_is_span (p : okN (k + 1) d = true) (h : QD fu (.bool (isSpan d))) : (F_is_span [d]).go fu QD E := by
  have hp := okN_plain p
  refine g_def rfl ?_
  unfold B_is_span
  have h : QD fu (.bool (isPairD d && isSpan d)) := by
    cases e : isPairD d with
    | true => exact h
    | false =>
      have : isSpan d = false := by
        unfold isSpan
        split
        · cases e
        · rfl
      rw [this] at h; exact h
  refine g_ret (g_andB (fun hq => ?_) (fun e _ hq => ?_) h)
  · walk_at "v"
    refine a_is_pairD hp ?_
    walk_at "v"
    exact hq
  · obtain ⟨a, b, rfl⟩ := isPair_is e
    obtain ⟨_, pm⟩ := okN_tup p
    have hq : _ := hq
    refine g_andB (a := isWh a (-30) 30) (b := isWh b (intD a) 30) (fun hq => ?_) (fun e2 _ hq => ?_) hq
    · walk_at "v"
      refine a_is_whole (okN_plain (pm a (by simp))) ?_
      walk_at "v"
      exact hq
    · obtain ⟨m, rfl, _, _⟩ := isWh_int e2
      walk_at "v"
      refine a_is_whole (okN_plain (pm b (by simp))) ?_
      walk_at "v"
      exact hq
/-- spans, as tuples of two ints, compared -/
def spLt (x y : D) : Bool := match x, y with
  | .tuple [.int a, .int b], .tuple [.int c, .int d] => HT.lexLt [a, b] [c, d]
  | _, _ => false
theorem isSpan_is (h : isSpan d = true) : ∃ a b : Int, d = .tuple [.int a, .int b] ∧ -30 ≤ a ∧ a ≤ b ∧ b ≤ 30 := by
  unfold isSpan at h
  split at h
  · rename_i a b
    rw [Bool.and_eq_true] at h
    obtain ⟨x, rfl, h1, h2⟩ := isWh_int h.1
    obtain ⟨y, rfl, h3, h4⟩ := isWh_int h.2
    exact ⟨x, y, rfl, h1, h3, h4⟩
  · cases h
def isSpans (d : D) : Bool := match d with
  | .tuple ds => decide ((ds.length : Int) ≤ 2) && ((ds.map isSpan).all id && risB spLt ds)
  | _ => false
theorem a_is_spans (p : okN (k + 2) d = true) (h : QD fu (.bool (isSpans d))) : (F_is_spans [d]).go fu QD E := by
  have hp := okN_plain p
  refine g_def rfl ?_
  unfold B_is_spans
  cases d with
  | tuple ds =>
    obtain ⟨hl, pm⟩ := okN_tup p
    have h : QD fu (.bool (true && (decide ((ds.length : Int) ≤ 2) && ((ds.map isSpan).all id && risB spLt ds)))) := h
    refine g_ret (g_andB (fun hq => ?_) (fun _ _ hq => g_andB (fun hq => ?_) (fun _ _ hq => g_andB (fun hq => ?_) (fun e3 _ hq => ?_) hq) hq) h)
    · walk_at "v"
      exact hq
    · walk_at "v"
      exact hq
    · walk_at "v"
      refine g_comp ?_
      walk_at "v"
      refine ⟨by omega, g_compMap (fun d => .bool (isSpan d)) (fun d hd fu QX hq => g_item ?_) ?_⟩
      · walk_at "v"
        refine a_is_span (pm d hd) ?_
        walk_at "v"
        exact hq
      · walk_at "v"
        refine g_allB (map_bool _ _) ?_
        walk_at "v"
        exact hq
    · rw [List.all_map, List.all_eq_true] at e3
      walk_at "v"
      refine a_is_risingT (lt := spLt) hl (fun i hi => ?_) ?_
      · obtain ⟨a, b, e1, _⟩ := isSpan_is (e3 _ (List.getElem_mem (show i < ds.length by omega)))
        obtain ⟨a', b', e2, _⟩ := isSpan_is (e3 _ (List.getElem_mem hi))
        rw [getD_of (show i < ds.length by omega), getD_of hi, e1, e2]
        rfl
      · walk_at "v"
        exact hq
  | dict kv =>
    walk_at "v"
    exact h
  | _ =>
    walk_at "v"
    exact h
def isCal (d : D) : Bool := match d with
  | .tuple [a, b, c] => isPat a && (isSpans b && isSpans c)
  | _ => false
def isName (d : D) : Bool := match d with
  | .str s => decide ((s.length : Int) = 1) && (!decide (s.cps.toList < ("a" : Str).cps.toList) && !decide (("z" : Str).cps.toList < s.cps.toList))
  | _ => false
theorem a_is_name (p : okN k d = true) (h : QD fu (.bool (isName d))) : (F_is_name [d]).go fu QD E := by
  have hp := okN_plain p
  refine g_def rfl ?_
  unfold B_is_name
  cases d with
  | str s =>
    have hl := okN_str p
    have h : QD fu (.bool (true && (decide ((s.length : Int) = 1) && (!decide (s.cps.toList < ("a" : Str).cps.toList) && !decide (("z" : Str).cps.toList < s.cps.toList))))) := h
    refine g_ret (g_andB (fun hq => ?_) (fun _ _ hq => g_andB (fun hq => ?_) (fun _ _ hq => ?_) hq) h)
    · walk_at "v"
      exact hq
    · walk_at "v"
      refine g_lenS (by omega) ?_
      walk_at "v"
      exact hq
    · walk_at "v"
      refine v_cb (fun e => ?_) (fun e => ?_)
      · rw [e] at hq
        walk_at "v"
        exact hq
      · rw [e] at hq
        exact hq
  | dict kv =>
    walk_at "v"
    exact h
  | _ =>
    walk_at "v"
    exact h
def isPlus (d : D) : Bool := match d with
  | .str s => decide (s = "+")
  | _ => false
def isLetter (d : D) : Bool := isName d || isPlus d
theorem a_is_letter (p : okN k d = true) (h : QD fu (.bool (isLetter d))) : (F_is_letter [d]).go fu QD E := by
  have hp := okN_plain p
  refine g_def rfl ?_
  unfold B_is_letter
  refine g_ret (g_orB (fun hq => ?_) (fun _ _ hq => ?_) h)
  · walk_at "v"
    refine a_is_name p ?_
    walk_at "v"
    exact hq
  · cases d with
    | dict kv =>
      walk_at "v"
      exact hq
    | _ =>
      walk_at "v"
      exact hq
def isNamed (d : D) : Bool := match d with
  | .tuple [a, b] => isName a && isCal b
  | _ => false
def fstD (d : D) : D := match d with
  | .tuple (x :: _) => x
  | _ => .none
def stLt (x y : D) : Bool := match x, y with
  | .str a, .str b => decide (a.cps.toList < b.cps.toList)
  | _, _ => false
def isBook (d : D) : Bool := match d with
  | .tuple ds => decide ((ds.length : Int) ≤ 4) && ((ds.map isNamed).all id && risB stLt (ds.map fstD))
  | _ => false
def isRoute (d : D) : Bool := match d with
  | .tuple ds => decide ((ds.length : Int) ≤ 8) && (ds.map isLetter).all id
  | _ => false
theorem a_is_route (p : okN (k + 1) d = true) (h : QD fu (.bool (isRoute d))) : (F_is_route [d]).go fu QD E := by
  have hp := okN_plain p
  refine g_def rfl ?_
  unfold B_is_route
  cases d with
  | tuple ds =>
    obtain ⟨hl, pm⟩ := okN_tup p
    have h : QD fu (.bool (true && (decide ((ds.length : Int) ≤ 8) && (ds.map isLetter).all id))) := h
    refine g_ret (g_andB (fun hq => ?_) (fun _ _ hq => g_andB (fun hq => ?_) (fun _ _ hq => ?_) hq) h)
    · walk_at "v"
      exact hq
    · walk_at "v"
      exact hq
    · walk_at "v"
      refine g_comp ?_
      walk_at "v"
      refine ⟨by omega, g_compMap (fun d => .bool (isLetter d)) (fun d hd fu QX hq => g_item ?_) ?_⟩
      · walk_at "v"
        refine a_is_letter (pm d hd) ?_
        walk_at "v"
        exact hq
      · walk_at "v"
        refine g_allB (map_bool _ _) ?_
        walk_at "v"
        exact hq
  | dict kv =>
    walk_at "v"
    exact h
  | _ =>
    walk_at "v"
    exact h
theorem a_need_route (p : okN (k + 1) d = true) (hy : isRoute d = true → QD fu .none) (hn : isRoute d = false → E fu ⟨"BadRoute", []⟩) : (F_need_route [d]).go fu QD E := by
  refine g_def rfl ?_
  unfold B_need_route
  walk_at "v"
  refine a_is_route p ?_
  walk_at "v"
  refine v_cn (fun e => ?_) (fun e => ?_)
  · walk_at "v"
    refine g_fmtI (by decide) ?_
    walk_at "v"
    exact hn e
  · walk_at "v"
    exact hy e
end
def wlB : List Sc → Bool
  | [] => true
  | s :: r => if isW s = true then r.isEmpty else wlB r
def stp (q : List Sc × Bool) (s : Sc) : List Sc × Bool := if (!decide (s ∈ q.1) && !q.2) = true then (q.1 ++ [s], isW s) else q
section
variable {env : Env} {fu : Nat} {E : Nat → Er → Prop} {QO : Nat → Out → Prop} {QD Q : Nat → D → Prop} {QB : Nat → Bool → Prop} {QL : Nat → List D → Prop} {i j lo hi : Int} {d x y z : D} {b c : Bool} {t : Str}
/-- the papers behind the first k deeds -/
def pp (n path : Nat) (ds : List (Str × Nat × Nat)) (c : List Nat) (k : Nat) : List (Option Sc) := papersOf c (thru n path ds k)
def SrcOk (n path : Nat) (ds : List (Str × Nat × Nat)) : Sc → Prop
  | .f i => i < n
  | .w p => ∃ f, ds[p]? = some (("write" : Str), f, path)
def startH (ds : List (Str × Nat × Nat)) : Sc → Nat
  | .f i => i
  | .w p => ((ds[p]?).map (·.2.1)).getD 0
def startM : Sc → Nat
  | .f _ => 0
  | .w p => p + 1
/-- it stands there from lo to below hi -/
def stB (n path : Nat) (ds : List (Str × Nat × Nat)) (c : List Nat) (s : Sc) (here lo hi : Nat) : Bool := (List.range (hi - lo)).all fun k => decide ((pp n path ds c (lo + k)).getD here none = some s)
def copB (n path : Nat) (ds : List (Str × Nat × Nat)) (c : List Nat) (w : Str) (t p : Nat) : Bool := decide (w = "over") || (decide (w = "under") && ((pp n path ds c p).getD t none).isNone)
def tr (n path : Nat) (ds : List (Str × Nat × Nat)) (c : List Nat) (s : Sc) (folder : Nat) : List Nat → Nat → Nat → Bool
  | [], h, m => decide (h = folder) && stB n path ds c s h m (ds.length + 1)
  | p :: r, h, m => match ds[p]? with
    | some (w, f, t) => decide (m ≤ p) && (decide (f = h) && (copB n path ds c w t p && (stB n path ds c s h m (p + 1) && tr n path ds c s folder r t (p + 1))))
    | none => false
def standD (n path : Nat) (ds : List (Str × Nat × Nat)) (c : List Nat) (k : Nat) : D := papsD (pp n path ds c k)
def natsD (ps : List Nat) : D := .tuple (ps.map fun p => .int (p : Nat))
end
section
variable {env : Env} {fu : Nat} {E : Nat → Er → Prop} {QO : Nat → Out → Prop} {QD Q : Nat → D → Prop} {QB : Nat → Bool → Prop} {QL : Nat → List D → Prop} {i j lo hi : Int} {d x y z : D} {es : List D} {b : Bool} {t : Str} {n path : Nat} {ds : List (Str × Nat × Nat)} {s : Sc} {c : List Nat} {folder : Nat}

/-- whole numbers below m -/
def whAll (m : Int) (d : D) : Bool := match d with
  | .tuple es => (es.map fun d => isWh d 0 (m - 1)).all id
  | _ => false
def okThing (d : D) : Bool := plainD d && (match d with
  | .tuple es => es.all plainD && decide (es.length ≤ 1000)
  | _ => true)
end
section
variable {env : Env} {fu : Nat} {E : Nat → Er → Prop} {QO : Nat → Out → Prop} {QD Q : Nat → D → Prop} {QB : Nat → Bool → Prop} {QL : Nat → List D → Prop} {i j lo hi : Int} {d x y z : D} {es : List D} {b : Bool} {t : Str} {n path : Nat} {ds : List (Str × Nat × Nat)} {s : Sc} {c : List Nat} {folder : Nat}

theorem eqvAll_map {α : Type} [DecidableEq α] (enc : α → D) (h : ∀ a b, PyData.eqv (enc a) (enc b) = decide (a = b)) : ∀ xs ys : List α, PyData.eqvAll (xs.map enc) (ys.map enc) = decide (xs = ys)
  | [], [] => by simp [PyData.eqvAll]
  | [], _ :: _ => by simp [PyData.eqvAll]
  | _ :: _, [] => by simp [PyData.eqvAll]
  | x :: xs, y :: ys => by
    show (PyData.eqv (enc x) (enc y) && PyData.eqvAll (xs.map enc) (ys.map enc)) = _
    rw [h, eqvAll_map enc h xs ys]
    by_cases h1 : x = y <;> by_cases h2 : xs = ys <;> simp [h1, h2]
def NoW (ds : List (Str × Nat × Nat)) : Prop := ∀ d ∈ ds, d.1 ≠ "write"
def RowF (n : Nat) (r : List Sc) : Prop := ∀ s ∈ r, isW s = false ∧ s.nr < n
def nums (r : List Sc) : List Nat := r.map Sc.nr
/-- first contents that tell two rows -/
def df : List Nat → List Nat → Nat
  | a :: r, b :: q => if a = b then df r q + 1 else 0
  | _, _ => 0
def one (r : List Nat) (k : Nat) : List Nat := (r.drop k).take 1
def tell (r q : List Nat) : List Nat := match r[df r q]?, q[df r q]? with
  | some x, some y => if x ≤ y then [x, y] else [y, x]
  | some x, none => [x]
  | none, some y => [y]
  | none, none => []
end
section
variable {env : Env} {fu : Nat} {E : Nat → Er → Prop} {QO : Nat → Out → Prop} {QD Q : Nat → D → Prop} {QB : Nat → Bool → Prop} {QL : Nat → List D → Prop} {i j lo hi : Int} {d x y z : D} {ds es : List D} {b c : Bool} {s t : Str} {fa fb fk : Env → R D} {k : Nat}
theorem shapedL_of {ds : List D} (h : ∀ d ∈ ds, PyData.canLay0 d = true ∧ PyData.depth d ≤ 60) : SeqAt.shaped (.list ds) = true := by
  have h := shapedT_of h
  unfold SeqAt.shaped at h
  unfold SeqAt.shaped
  simpa [PyData.canLay0, PyData.depth] using h
def spD (x : Int × Int) : D := .tuple [.int x.1, .int x.2]
/-- a text's sign -/
theorem g_ixSt (hl : s.length ≤ 16777216) {n : Nat} {q : Nat} (e : s.cps.toList[n]? = some q) (h : QD fu (.str ⟨#[q]⟩)) : (gIx (.str s) (.int (n : Nat))).go fu QD E := by
  simp only [R.go_eq]
  refine wp_guard.mpr ⟨decide_eq_true hl, ?_⟩
  have hn := (List.getElem?_eq_some_iff.mp e).1
  have : atI s.cps.toList (n : Int) = some q := by
    unfold atI
    rw [ixN_nat hn]
    exact e
  rw [this]
  exact h
/-- a range's item -/
theorem rngD_len {m : Int} (h : 0 ≤ m) : (rngD 0 m).length = m.toNat := by unfold rngD; rw [List.length_map, List.length_range]; congr 1; omega
theorem rngD_get {m : Int} {k : Nat} {d : D} (h : (rngD 0 m)[k]? = some d) : (k : Int) < m ∧ d = .int (k : Nat) := by
  have hk := (List.getElem?_eq_some_iff.mp h).1
  unfold rngD at hk h
  rw [List.length_map, List.length_range] at hk
  refine ⟨by omega, ?_⟩
  rw [List.getElem?_map, List.getElem?_range (by omega)] at h
  simp at h
  rw [← h]
theorem rng_okI {m : Int} (h1 : 0 ≤ m) (h0 : m ≤ 1000000) : rngOk 0 m = true := by unfold rngOk; exact decide_eq_true (by omega)
end
section
variable {env : Env} {fu : Nat} {E : Nat → Er → Prop} {QO : Nat → Out → Prop} {QD Q : Nat → D → Prop} {QB : Nat → Bool → Prop} {QL : Nat → List D → Prop} {i j lo hi : Int} {d x y z : D} {ds es : List D} {b c : Bool} {s t : Str} {fa fb fk : Env → R D} {k : Nat}
structure Cal where
  p : Str
  cl : List (Int × Int)
  op : List (Int × Int)
def Cal.dt (c : Cal) : D := .tuple [.str c.p, .tuple (c.cl.map spD), .tuple (c.op.map spD)]
def SpOk (l : List (Int × Int)) : Prop := l.length ≤ 2 ∧ (∀ x ∈ l, -30 ≤ x.1 ∧ x.1 ≤ x.2 ∧ x.2 ≤ 30) ∧ l.Pairwise (fun x y => HT.lexLt [x.1, x.2] [y.1, y.2] = true)
def PatOk (s : Str) : Prop := s.length ≤ 4 ∧ 111 ∈ s.cps.toList ∧ ∀ c ∈ s.cps.toList, c = 111 ∨ c = 45
structure Cal.Ok (c : Cal) : Prop where
  p : PatOk c.p
  cl : SpOk c.cl
  op : SpOk c.op
def nameS (n : Nat) : Str := ⟨#[n]⟩
def namedD (x : Nat × Cal) : D := .tuple [.str (nameS x.1), x.2.dt]
def bookD (b : List (Nat × Cal)) : D := .tuple (b.map namedD)
structure BookOk (b : List (Nat × Cal)) : Prop where
  len : b.length ≤ 4
  names : ∀ x ∈ b, 97 ≤ x.1 ∧ x.1 ≤ 122
  cals : ∀ x ∈ b, x.2.Ok
  asc : b.Pairwise (fun x y => x.1 < y.1)
def routeD (r : List Nat) : D := .tuple (r.map fun c => .str (nameS c))
def LetOk (c : Nat) : Prop := c = 43 ∨ (97 ≤ c ∧ c ≤ 122)
structure RouteOk (r : List Nat) : Prop where
  len : r.length ≤ 8
  lets : ∀ c ∈ r, LetOk c
theorem lexS (a b : Nat) : decide ((nameS a).cps.toList < (nameS b).cps.toList) = decide (a < b) := by
  show decide ([a] < [b]) = _
  congr 1
  simp [List.cons_lt_cons_iff]
theorem isName_of {n : Nat} : isName (.str (nameS n)) = decide (97 ≤ n ∧ n ≤ 122) := by
  have e1 : (decide ((nameS n).cps.toList < ("a" : Str).cps.toList)) = decide (n < 97) := lexS n 97
  have e2 : (decide (("z" : Str).cps.toList < (nameS n).cps.toList)) = decide (122 < n) := lexS 122 n
  show (decide (((nameS n).length : Int) = 1) && (!decide ((nameS n).cps.toList < ("a" : Str).cps.toList) && !decide (("z" : Str).cps.toList < (nameS n).cps.toList))) = _
  rw [e1, e2]
  have : ((nameS n).length : Int) = 1 := rfl
  rw [decide_eq_true this, Bool.true_and]
  by_cases h1 : n < 97
  · rw [decide_eq_true h1, decide_eq_false (p := 97 ≤ n ∧ n ≤ 122) (by omega)]; rfl
  · by_cases h2 : 122 < n
    · rw [decide_eq_false h1, decide_eq_true h2, decide_eq_false (p := 97 ≤ n ∧ n ≤ 122) (by omega)]; rfl
    · rw [decide_eq_false h1, decide_eq_false h2, decide_eq_true (p := 97 ≤ n ∧ n ≤ 122) (by omega)]; rfl
theorem isLetter_of {n : Nat} (h : LetOk n) : isLetter (.str (nameS n)) = true := by
  unfold isLetter
  rw [isName_of]
  rcases h with h | h
  · subst h; decide +kernel
  · rw [decide_eq_true h]; rfl
theorem isRoute_d {r : List Nat} (h : RouteOk r) : isRoute (routeD r) = true := by
  have a1 : ((r.map fun c => PyData.str (nameS c)).map isLetter).all id = true := by
    rw [List.all_map, List.all_map]
    exact List.all_eq_true.mpr fun x hx => isLetter_of (h.lets x hx)
  have := h.len
  show (decide (((r.map fun c => PyData.str (nameS c)).length : Int) ≤ 8) && ((r.map fun c => PyData.str (nameS c)).map isLetter).all id) = true
  rw [a1, List.length_map, decide_eq_true (by omega)]; rfl
theorem ok_str {s : Str} (h : s.length ≤ 1000) (h2 : PyData.strOk s = true) : okN k (.str s) = true := by
  cases k <;> (unfold okN; exact (show (decide (s.length ≤ 1000) && PyData.strOk s) = true by rw [decide_eq_true h, h2]; rfl))
theorem strOk_name {n : Nat} (h : n ≤ 1000) : PyData.strOk (nameS n) = true := by
  show (#[n].all fun c => decide (c < 0x110000)) = true
  simp; omega
theorem ok_route {r : List Nat} (h : r.length ≤ 1000) (h2 : ∀ c ∈ r, c ≤ 1000) : okN (k + 1) (routeD r) = true := okN_mkT (by rw [List.length_map]; exact h) fun d hd => by
  obtain ⟨x, hx, rfl⟩ := List.mem_map.mp hd
  exact ok_str (show 1 ≤ 1000 by decide) (strOk_name (h2 x hx))
def unN (d : D) : Nat := match d with
  | .str s => s.cps.toList.headD 0
  | _ => 0
end
def redF : Option Nat → List Nat → List Nat
  | _, [] => []
  | prev, c :: r => if c = 43 ∨ prev ≠ some c then c :: redF (some c) r else redF (some c) r
def red (r : List Nat) : List Nat := redF none r
theorem redF_sub : ∀ (r : List Nat) (prev : Option Nat), (redF prev r).Sublist r
  | [], _ => .slnil
  | c :: r, prev => by
    unfold redF
    split
    · exact (redF_sub r _).cons₂ _
    · exact (redF_sub r _).cons _
theorem red_len (r : List Nat) : (red r).length ≤ r.length := (redF_sub r none).length_le
theorem red_mem {r : List Nat} {c : Nat} (h : c ∈ red r) : c ∈ r := (redF_sub r none).subset h
/-- the letters seen one by one, from the front -/
theorem redF_snoc : ∀ (r : List Nat) (prev : Option Nat) (c : Nat), redF prev (r ++ [c]) = redF prev r ++ (if c = 43 ∨ (r.getLast?.or prev) ≠ some c then [c] else [])
  | [], prev, c => by
    show (if c = 43 ∨ prev ≠ some c then c :: redF (some c) [] else redF (some c) []) = [] ++ _
    simp only [List.getLast?_nil, Option.none_or, List.nil_append]
    rfl
  | a :: r, prev, c => by
    have ih := redF_snoc r (some a) c
    have hg : ((a :: r).getLast?.or prev) = (r.getLast?.or (some a)) := by
      cases r with
      | nil => rfl
      | cons b r => 
        rw [List.getLast?_cons_cons]
        cases h : (b :: r).getLast? with
        | none => simp at h
        | some z => rfl
    rw [List.cons_append]
    show (if a = 43 ∨ prev ≠ some a then a :: redF (some a) (r ++ [c]) else redF (some a) (r ++ [c])) = (if a = 43 ∨ prev ≠ some a then a :: redF (some a) r else redF (some a) r) ++ _
    rw [hg, ih]
    split <;> rfl
theorem red_snoc (r : List Nat) (c : Nat) : red (r ++ [c]) = red r ++ (if c = 43 ∨ r.getLast? ≠ some c then [c] else []) := by
  unfold red
  rw [redF_snoc]
  simp
theorem redF_last : ∀ (r : List Nat) (prev : Option Nat), (∀ z, prev = some z → r.getLast? = none → True) → r ≠ [] → ((redF prev r).getLast?.or prev) = r.getLast?
  | [], _, _, h => absurd rfl h
  | c :: r, prev, _, _ => by
    unfold redF
    cases r with
    | nil =>
      split
      · rfl
      · rename_i h
        have : prev = some c := Classical.byContradiction fun z => h (.inr z)
        rw [this]; rfl
    | cons b r =>
      have ih := redF_last (b :: r) (some c) (fun _ _ _ => trivial) (by simp)
      rw [List.getLast?_cons_cons, ← ih]
      cases hq : redF (some c) (b :: r) with
      | nil =>
        split
        · rfl
        · rename_i h
          have : prev = some c := Classical.byContradiction fun z => h (.inr z)
          rw [this]
      | cons y ys =>
        split
        · rw [List.getLast?_cons_cons]
          cases h : (y :: ys).getLast? with
          | none => simp at h
          | some z => rfl
        · cases h : (y :: ys).getLast? with
          | none => simp at h
          | some z => rfl
/-- the last letter kept is the last letter -/
theorem red_last (r : List Nat) : (red r).getLast? = r.getLast? := by
  cases r with
  | nil => rfl
  | cons c r =>
    have := redF_last (c :: r) none (fun _ _ _ => trivial) (by simp)
    rw [Option.or_none] at this
    exact this
def grS (L : List Nat) : List Nat → Nat → List Nat → List Nat
  | [], _, pl => pl
  | c :: r, i, pl => if L[pl.length]? = some c then grS L r (i + 1) (pl ++ [i]) else grS L r (i + 1) pl
def spellL (L O : List Nat) : Option (List Nat) := if (grS L O 0 []).length = L.length then some (grS L O 0 []) else none
/-- places that spell the first letters -/
structure Spells (L O e : List Nat) : Prop where
  asc : e.Pairwise (· < ·)
  at_ : ∀ j (hj : j < e.length), O[e[j]]? = L[j]? ∧ e[j] < O.length
structure GInv (L O : List Nat) (i : Nat) (pl : List Nat) : Prop where
  sp : Spells L O pl
  lt : ∀ x ∈ pl, x < i
  len : pl.length ≤ L.length
  min : ∀ e, Spells L O e → e.length ≤ L.length → ∀ j (hj : j < e.length), e[j] < i → ∃ hp : j < pl.length, pl[j] ≤ e[j]
theorem asc_lt {e : List Nat} (h : e.Pairwise (· < ·)) {a b : Nat} (hab : a < b) (hb : b < e.length) : e[a] < e[b] := List.pairwise_iff_getElem.mp h a b (by omega) hb hab
theorem ginv_end {L O : List Nat} : ∀ (r : List Nat) (i : Nat) (pl : List Nat), GInv L O i pl → O.drop i = r → i ≤ O.length → GInv L O O.length (grS L r i pl)
  | [], i, pl, G, hr, hi => by
    have : i = O.length := by
      have := List.drop_eq_nil_iff.mp hr
      omega
    subst this
    exact G
  | c :: r, i, pl, G, hr, hi => by
    have hil : i < O.length := by
      have := congrArg List.length hr
      rw [List.length_drop, List.length_cons] at this
      omega
    have hc : O[i]? = some c := by
      rw [List.drop_eq_getElem_cons hil] at hr
      rw [List.getElem?_eq_getElem hil]
      exact congrArg some (List.cons.inj hr).1
    have hr2 : O.drop (i + 1) = r := by
      rw [List.drop_eq_getElem_cons hil] at hr
      exact (List.cons.inj hr).2
    unfold grS
    split
    · rename_i hL
      have hlt : pl.length < L.length := (List.getElem?_eq_some_iff.mp hL).1
      refine ginv_end r (i + 1) _ ⟨⟨?_, fun j hj => ?_⟩, fun x hx => ?_, ?_, fun e he hl j hj hji => ?_⟩ hr2 hil
      · rw [List.pairwise_append]
        exact ⟨G.sp.asc, List.pairwise_singleton _ _, fun a ha b hb => by rw [List.mem_singleton.mp hb]; exact G.lt a ha⟩
      · rw [List.length_append, List.length_singleton] at hj
        by_cases h : j < pl.length
        · rw [List.getElem_append_left h]
          exact G.sp.at_ j h
        · have : j = pl.length := by omega
          subst this
          rw [List.getElem_append_right (Nat.le_refl _)]
          simp only [Nat.sub_self, List.getElem_cons_zero]
          exact ⟨hc.trans hL.symm, hil⟩
      · rcases List.mem_append.mp hx with hx | hx
        · have := G.lt x hx; omega
        · rw [List.mem_singleton.mp hx]; omega
      · rw [List.length_append, List.length_singleton]; omega
      · by_cases h : e[j] < i
        · obtain ⟨hp, hle⟩ := G.min e he hl j hj h
          refine ⟨by rw [List.length_append]; omega, ?_⟩
          rw [List.getElem_append_left hp]
          exact hle
        · have hei : e[j] = i := by omega
          have hjp : j ≤ pl.length := by
            rcases Nat.eq_zero_or_pos j with z | z
            · omega
            · obtain ⟨hp, _⟩ := G.min e he hl (j - 1) (by omega) (by have := asc_lt he.asc (show j - 1 < j by omega) hj; omega)
              omega
          refine ⟨by rw [List.length_append, List.length_singleton]; omega, ?_⟩
          by_cases h2 : j < pl.length
          · rw [List.getElem_append_left h2]
            have := G.lt _ (List.getElem_mem h2)
            omega
          · have : j = pl.length := by omega
            subst this
            rw [List.getElem_append_right (Nat.le_refl _)]
            simp only [Nat.sub_self, List.getElem_cons_zero]
            omega
    · rename_i hL
      refine ginv_end r (i + 1) _ ⟨G.sp, fun x hx => by have := G.lt x hx; omega, G.len, fun e he hl j hj hji => ?_⟩ hr2 hil
      by_cases h : e[j] < i
      · exact G.min e he hl j hj h
      · have hei : e[j] = i := by omega
        have hjp : j ≤ pl.length := by
          rcases Nat.eq_zero_or_pos j with z | z
          · omega
          · obtain ⟨hp, _⟩ := G.min e he hl (j - 1) (by omega) (by have := asc_lt he.asc (show j - 1 < j by omega) hj; omega)
            omega
        by_cases h2 : j < pl.length
        · have := G.lt _ (List.getElem_mem h2)
          exact ⟨h2, by omega⟩
        · exfalso
          have : j = pl.length := by omega
          subst this
          have h1 := (he.at_ _ hj).1
          rw [hei, hc] at h1
          exact hL h1.symm
theorem ginv0 (L O : List Nat) : GInv L O 0 [] := ⟨⟨.nil, fun j hj => absurd hj (by simp)⟩, fun x hx => (nomatch hx), Nat.zero_le _, fun e _ _ j hj h => absurd h (by omega)⟩
theorem gr_inv (L O : List Nat) : GInv L O O.length (grS L O 0 []) := ginv_end O 0 [] (ginv0 L O) rfl (Nat.zero_le _)
def firstC (one : List Nat) : Nat := match one.getLast? with
  | some l => l + 1
  | none => 0
def chL (many : Nat) : Nat → List (List Nat)
  | 0 => [[]]
  | s + 1 => (chL many s).flatMap fun one => (List.range' (firstC one) (many - firstC one)).map fun k => one ++ [k]
def LexL (a b : List Nat) : Prop := a.length = b.length ∧ ∃ i, ∃ (ha : i < a.length) (hb : i < b.length), a[i] < b[i]
theorem ch_mem {many : Nat} : ∀ (s : Nat) (e : List Nat), e ∈ chL many s ↔ e.length = s ∧ e.Pairwise (· < ·) ∧ ∀ x ∈ e, x < many
  | 0, e => by
    show e ∈ [[]] ↔ _
    rw [List.mem_singleton, List.length_eq_zero_iff]
    exact ⟨fun h => by subst h; exact ⟨rfl, .nil, fun x hx => (nomatch hx)⟩, fun h => h.1⟩
  | s + 1, e => by
    show e ∈ (chL many s).flatMap _ ↔ _
    rw [List.mem_flatMap]
    constructor
    · rintro ⟨one, ho, he⟩
      obtain ⟨k, hk, rfl⟩ := List.mem_map.mp he
      obtain ⟨h1, h2, h3⟩ := (ch_mem s one).mp ho
      obtain ⟨hk1, hk2⟩ := List.mem_range'_1.mp hk
      refine ⟨by rw [List.length_append, h1]; rfl, ?_, fun x hx => ?_⟩
      · rw [List.pairwise_append]
        refine ⟨h2, List.pairwise_singleton _ _, fun a ha b hb => ?_⟩
        rw [List.mem_singleton.mp hb]
        unfold firstC at hk1
        cases hg : one.getLast? with
        | none => rw [List.getLast?_eq_none_iff.mp hg] at ha; cases ha
        | some l =>
          rw [hg] at hk1
          have hk1 : l + 1 ≤ k := hk1
          obtain ⟨ys, hy⟩ := List.getLast?_eq_some_iff.mp hg
          rw [hy] at ha h2
          rcases List.mem_append.mp ha with ha | ha
          · have := (List.pairwise_append.mp h2).2.2 a ha l (List.mem_singleton.mpr rfl)
            omega
          · rw [List.mem_singleton.mp ha]; omega
      · rcases List.mem_append.mp hx with hx | hx
        · exact h3 x hx
        · rw [List.mem_singleton.mp hx]; omega
    · rintro ⟨h1, h2, h3⟩
      have hne : e ≠ [] := by intro z; rw [z] at h1; cases h1
      obtain ⟨one, k, rfl⟩ : ∃ one k, e = one ++ [k] := ⟨e.dropLast, e.getLast hne, (List.dropLast_concat_getLast hne).symm⟩
      rw [List.length_append, List.length_singleton] at h1
      rw [List.pairwise_append] at h2
      refine ⟨one, (ch_mem s one).mpr ⟨by omega, h2.1, fun x hx => h3 x (List.mem_append_left _ hx)⟩, List.mem_map.mpr ⟨k, ?_, rfl⟩⟩
      have hk := h3 k (List.mem_append_right _ (List.mem_singleton.mpr rfl))
      have hf : firstC one ≤ k := by
        unfold firstC
        cases hg : one.getLast? with
        | none => exact Nat.zero_le _
        | some l =>
          obtain ⟨ys, hy⟩ := List.getLast?_eq_some_iff.mp hg
          exact h2.2.2 l (by rw [hy]; exact List.mem_append_right _ (List.mem_singleton.mpr rfl)) k (List.mem_singleton.mpr rfl)
      exact List.mem_range'_1.mpr ⟨hf, by omega⟩
theorem ch_lex {many : Nat} : ∀ s, (chL many s).Pairwise LexL
  | 0 => List.pairwise_singleton _ _
  | s + 1 => by
    show ((chL many s).flatMap _).Pairwise LexL
    rw [List.pairwise_flatMap]
    refine ⟨fun one ho => ?_, ?_⟩
    · rw [List.pairwise_map]
      refine (List.pairwise_lt_range' (s := firstC one) (n := many - firstC one) (step := 1)).imp fun {a b} hab => ?_
      refine ⟨by simp, one.length, by simp, by simp, ?_⟩
      rw [List.getElem_append_right (Nat.le_refl _), List.getElem_append_right (Nat.le_refl _)]
      simpa using hab
    · refine (ch_lex s).imp fun {a b} hab x hx y hy => ?_
      obtain ⟨k1, _, rfl⟩ := List.mem_map.mp hx
      obtain ⟨k2, _, rfl⟩ := List.mem_map.mp hy
      obtain ⟨hl, i, ha, hb, hlt⟩ := hab
      refine ⟨by simp [hl], i, by rw [List.length_append]; omega, by rw [List.length_append]; omega, ?_⟩
      rw [List.getElem_append_left ha, List.getElem_append_left hb]
      exact hlt
def spB (L O one : List Nat) : Bool := decide (one.map (fun k => O[k]?) = L.map some)
theorem spB_iff {L O e : List Nat} (he : e ∈ chL O.length L.length) : spB L O e = true ↔ Spells L O e := by
  obtain ⟨h1, h2, h3⟩ := (ch_mem _ _).mp he
  unfold spB
  rw [decide_eq_true_eq]
  constructor
  · intro h
    refine ⟨h2, fun j hj => ⟨?_, h3 _ (List.getElem_mem hj)⟩⟩
    have := congrArg (fun l => l[j]?) h
    simp only [List.getElem?_map, List.getElem?_eq_getElem hj, Option.map_some] at this
    rw [List.getElem?_eq_getElem (show j < L.length by omega)] at this ⊢
    simpa using this
  · intro h
    refine List.ext_getElem? fun j => ?_
    rw [List.getElem?_map, List.getElem?_map]
    by_cases hj : j < e.length
    · have := (h.at_ j hj).1
      rw [List.getElem?_eq_getElem hj, List.getElem?_eq_getElem (show j < L.length by omega)] at *
      simp only [Option.map_some]
      rw [this]
    · rw [List.getElem?_eq_none (by omega), List.getElem?_eq_none (by omega)]; rfl
theorem spell_first (L O : List Nat) : (chL O.length L.length).find? (spB L O) = spellL L O := by
  have G := gr_inv L O
  unfold spellL
  by_cases hl : (grS L O 0 []).length = L.length
  · rw [if_pos hl]
    have hin : grS L O 0 [] ∈ chL O.length L.length := (ch_mem _ _).mpr ⟨hl, G.sp.asc, G.lt⟩
    have hP := (spB_iff hin).mpr G.sp
    cases hf : (chL O.length L.length).find? (spB L O) with
    | none => exact absurd hP (by rw [List.find?_eq_none] at hf; exact hf _ hin)
    | some e =>
      congr 1
      obtain ⟨hPe, as, bs, heq, has⟩ := List.find?_eq_some_iff_append.mp hf
      have hpw := ch_lex (many := O.length) L.length
      rw [heq] at hin hpw
      have hem : e ∈ chL O.length L.length := by rw [heq]; simp
      rcases List.mem_append.mp hin with h | h
      · have := has _ h
        rw [hP] at this
        cases this
      · rcases List.mem_cons.mp h with h | h
        · exact h.symm
        · exfalso
          obtain ⟨_, i, ha, hb, hlt⟩ := (List.pairwise_cons.mp (List.pairwise_append.mp hpw).2.1).1 _ h
          obtain ⟨e1, e2, e3⟩ := (ch_mem _ _).mp hem
          obtain ⟨hp, hle⟩ := G.min e ((spB_iff hem).mp hPe) (by omega) i ha (e3 _ (List.getElem_mem ha))
          omega
  · rw [if_neg hl]
    rw [List.find?_eq_none]
    intro e he hPe
    obtain ⟨e1, e2, e3⟩ := (ch_mem _ _).mp he
    refine hl ?_
    rcases Nat.eq_zero_or_pos L.length with z | z
    · have := G.len; omega
    · obtain ⟨hp, _⟩ := G.min e ((spB_iff he).mp hPe) (by omega) (L.length - 1) (by omega) (e3 _ (List.getElem_mem _))
      have := G.len
      omega
def TxK (t : Str → Option Bool) (i m : Nat) (QO : Nat → Out → Prop) (E : Nat → Er → Prop) : Nat → Out → Prop := fun fu o => match o with
  | .ex e er => (match t er.cls with | some true => keepIn i m e er | some false => R.ret (Out.ex e er) | none => R.bad).go fu QO E
  | o => QO fu o
section
variable {env : Env} {fu : Nat} {E : Nat → Er → Prop} {QO : Nat → Out → Prop} {QD : Nat → D → Prop} {f : Env → R Out} {fa : Env → R D} {es ds : List D} {i m : Nat} {t : Str → Option Bool} {e : Env} {er : Er} {d : D}
theorem g_isiE (h : (fa env).go fu (fun fu d => (isiX t d).go fu QD E) E) : (isiE t fa env).go fu QD E := by
  simp only [R.go_eq] at *
  exact bndI h
theorem g_isiX {x : Str} {b : Bool} (ht : t x = some b) (h : QD fu (.bool b)) : (isiX t (excD x)).go fu QD E := by
  have e : isiX t (excD x) = .ret (.bool b) := by
    show (match t x with | some b => R.ret (PyData.bool b) | none => R.bad) = _
    rw [ht]
  rw [e]
  simp only [R.go_eq]
  exact h
end
section
variable {env : Env} {fu : Nat} {E : Nat → Er → Prop} {QO : Nat → Out → Prop} {QD Q : Nat → D → Prop} {QB : Nat → Bool → Prop} {QL : Nat → List D → Prop} {i j lo hi : Int} {d x y z : D} {ds es : List D} {s t : Str} {fa fb fk : Env → R D} {k n : Nat}
/-- one of the people (true) or a group (false), with a number -/
abbrev Who := Bool × Nat
def whoD (w : Who) : D := .tuple [.str (if w.1 = true then "p" else "g"), .int (w.2 : Nat)]
def entD (e : Nat × Who × Bool) : D := .tuple [.int (e.1 : Nat), whoD e.2.1, .str (if e.2.2 = true then "allow" else "bar")]
def spotD (e : Nat × Who) : D := .tuple [.int (e.1 : Nat), whoD e.2]
end
section
variable {env : Env} {fu : Nat} {E : Nat → Er → Prop} {QO : Nat → Out → Prop} {QD Q : Nat → D → Prop} {QB : Nat → Bool → Prop} {QL : Nat → List D → Prop} {i j lo hi : Int} {d x y z : D} {ds es : List D} {s t : Str} {fa fb fk : Env → R D} {k n : Nat}
abbrev natD (n : Nat) : D := .int (n : Nat)
def hasOne (mem : List (Nat × Who)) (g : Nat) (l : List Nat) : Bool := l.any fun o => decide ((g, (false, o)) ∈ mem)
def stepG (mem : List (Nat × Who)) (l : List Nat) : List Nat := ([0, 1, 2] : List Nat).filter fun g => decide (g ∈ l) || hasOne mem g l
def grp0 (mem : List (Nat × Who)) (w : Who) : List Nat := ([0, 1, 2] : List Nat).filter fun g => decide ((g, w) ∈ mem)
def grpsL (mem : List (Nat × Who)) (w : Who) (deep : Bool) : List Nat := if deep = true then stepG mem (stepG mem (grp0 mem w)) else grp0 mem w
def ringG (mem : List (Nat × Who)) : Bool := ([0, 1, 2] : List Nat).any fun g => decide (g ∈ grpsL mem (false, g) true)
def isWho (people : Int) (d : D) : Bool := match d with
  | .tuple [a, b] => if isWord a ["p"] = true then isWh b 0 (people - 1) else isWord a ["g"] && isWh b 0 2
  | _ => false
def whoOk (people : Nat) (w : Who) : Prop := if w.1 = true then w.2 < people else w.2 ≤ 2
def up1 (l : List Nat) (f : Nat) : Nat := if f = 0 then 0 else l.getD (f - 1) 0
def upN (l : List Nat) : Nat → Nat → Nat
  | 0, f => f
  | k + 1, f => up1 l (upN l k f)
def comesUp (l : List Nat) (f : Nat) : Bool := decide (upN l l.length f = 0)
def natO (d : D) : Nat := match d with
  | .int i => i.toNat
  | _ => 0
def isParents (d : D) : Bool := match d with
  | .tuple ds => decide ((ds.length : Int) < 6) && ((ds.map (isFold ((ds.length : Int) + 1))).all id && ((List.range (ds.length + 1)).map fun f => comesUp (ds.map natO) f).all id)
  | _ => false
def isEntry (people size : Int) (d : D) : Bool := match d with
  | .tuple [f, w, k] => isFold size f && (isWho people w && isWord k ["allow", "bar"])
  | _ => false
def spLtW (a b : Nat × Who) : Bool := PySem.W.dataLt (spotD a) (spotD b)
def cut2 (d : D) : D := match d with
  | .tuple l => .tuple (cutD l none (some 2))
  | _ => .none
def isEntries (people size : Int) (d : D) : Bool := match d with
  | .tuple ds => decide ((ds.length : Int) ≤ 12) && ((ds.map (isEntry people size)).all id && risB PySem.W.dataLt (ds.map cut2))
  | _ => false
def isMember (people : Int) (d : D) : Bool := match d with
  | .tuple [g, w] => isWh g 0 2 && isWho people w
  | _ => false
def whoO (d : D) : Who := match d with
  | .tuple [.str s, .int n] => (decide (s = "p"), n.toNat)
  | _ => (false, 0)
def spotO (d : D) : Nat × Who := match d with
  | .tuple [.int g, w] => (g.toNat, whoO w)
  | _ => (0, (false, 0))
def isMembers (people : Int) (d : D) : Bool := match d with
  | .tuple ds => (ds.map (isMember people)).all id && (risB PySem.W.dataLt ds && !ringG (ds.map spotO))
  | _ => false
def isFurn (people size : Int) (sh en me : D) : Bool := match sh with
  | .tuple ds => decide ((ds.length : Int) = size) && ((ds.map isBoolD).all id && (isEntries people size en && isMembers people me))
  | _ => false
def lenT (d : D) : Nat := match d with
  | .tuple ds => ds.length
  | _ => 0
def isHouse (d : D) : Bool := match d with
  | .tuple [p, pa, sh, en, me] => isWh p 1 4 && (isParents pa && isFurn (intD p) ((lenT pa : Nat) + 1 : Int) sh en me)
  | _ => false
def isMode (d : D) : Bool := match d with
  | .tuple [a, b, c, e] => isWord a ["bar", "near"] && (isWord b ["drops", "keeps"] && (isWord c ["login", "now"] && isBoolD e))
  | _ => false
def isGroups (d : D) : Bool := match d with
  | .tuple ds => (ds.map fun x => isWh x 0 2).all id && risB ltI ds
  | _ => false
where ltI (x y : D) : Bool := match x, y with
  | .int a, .int b => decide (a < b)
  | _, _ => false
def isLogins (people : Int) (d : D) : Bool := match d with
  | .tuple ds => decide ((ds.length : Int) = people) && (ds.map isGroups).all id
  | _ => false
/-- a house as far as its states look at it -/
def houseSz (hd : D) (people size : Nat) : Prop := ∃ (l : List D) (sh en me : D), hd = .tuple [natD people, .tuple l, sh, en, me] ∧ l.length + 1 = size ∧ l.length ≤ 1000
def isState (people size : Nat) (d : D) : Bool := match d with
  | .tuple [pa, sh, en, me, lo] => isParents pa && (decide (((lenT pa : Nat) : Int) = (size : Int) - 1) && (isFurn (people : Nat) (size : Nat) sh en me && isLogins (people : Nat) lo))
  | _ => false
end
section
variable {env : Env} {fu : Nat} {E : Nat → Er → Prop} {QO : Nat → Out → Prop} {QD Q : Nat → D → Prop} {QB : Nat → Bool → Prop} {QL : Nat → List D → Prop} {i j lo hi : Int} {d x y z : D} {ds es : List D} {s t : Str} {fa fb fk : Env → R D} {k n : Nat}
abbrev Ent := Nat × Who × Bool
structure Hs where
  par : List Nat
  sh : List Bool
  ent : List Ent
  mem : List (Nat × Who)
abbrev parD (l : List Nat) : D := .tuple (l.map natD)
abbrev shD (l : List Bool) : D := .tuple (l.map PyData.bool)
abbrev entsD (l : List Ent) : D := .tuple (l.map entD)
abbrev memD (l : List (Nat × Who)) : D := .tuple (l.map spotD)
abbrev houseD (p : Nat) (h : Hs) : D := .tuple [natD p, parD h.par, shD h.sh, entsD h.ent, memD h.mem]
abbrev logD (l : List (List Nat)) : D := .tuple (l.map parD)
abbrev stateD (h : Hs) (lo : List (List Nat)) : D := .tuple [parD h.par, shD h.sh, entsD h.ent, memD h.mem, logD lo]
structure Hs.Ok (people : Nat) (h : Hs) : Prop where
  pl : h.par.length ≤ 5
  pn : ∀ x ∈ h.par, x ≤ h.par.length
  up : ∀ f, f ≤ h.par.length → comesUp h.par f = true
  sl : h.sh.length = h.par.length + 1
  el : h.ent.length ≤ 12
  eo : ∀ e ∈ h.ent, e.1 < h.par.length + 1 ∧ whoOk people e.2.1
  ea : (h.ent.map fun e => (e.1, e.2.1)).Pairwise (fun a b => spLtW a b = true)
  mo : ∀ m ∈ h.mem, m.1 ≤ 2 ∧ whoOk people m.2
  ma : h.mem.Pairwise (fun a b => spLtW a b = true)
  mr : ringG h.mem = false
  ml : h.mem.length ≤ 1000
structure LogOk (people : Nat) (lo : List (List Nat)) : Prop where
  len : lo.length = people
  asc : ∀ l ∈ lo, l.Pairwise (· < ·) ∧ ∀ g ∈ l, g ≤ 2
structure Mo where
  near : Bool
  keeps : Bool
  login : Bool
  deep : Bool
abbrev modeD (m : Mo) : D := .tuple [.str (if m.near = true then "near" else "bar"), .str (if m.keeps = true then "keeps" else "drops"), .str (if m.login = true then "login" else "now"), .bool m.deep]
section
variable {p : Nat} {h : Hs} {lo : List (List Nat)} {m : Mo} {pe f : Nat}
def startL (p : Nat) (mem : List (Nat × Who)) (deep : Bool) : List (List Nat) := (List.range p).map fun i => grpsL mem (true, i) deep
def knownL (m : Mo) (h : Hs) (lo : List (List Nat)) (pe : Nat) : List Nat := if m.login = true then lo.getD pe [] else grpsL h.mem (true, pe) m.deep
/-- the way up from f, at most n steps -/
def wayF (par : List Nat) (sh : List Bool) : Nat → Nat → List Nat
  | 0, f => [f]
  | n + 1, f => f :: (if f = 0 ∨ sh.getD f false = true then [] else wayF par sh n (par.getD (f - 1) 0))
def upM (par : List Nat) : Nat → Nat → Nat
  | 0, f => f
  | n + 1, f => upM par n (up1 par f)
def wayL (h : Hs) (f : Nat) : List Nat := wayF h.par h.sh 6 f
theorem ixL_lastM {l : List Nat} {f : Nat} : ixL ((l ++ [f]).map natD) (-1) = .ret (natD f) := ixL_last (by rw [List.map_append, List.map_cons, List.map_nil, List.getLast?_concat])
def whosL (m : Mo) (h : Hs) (lo : List (List Nat)) (pe : Nat) : List Who := (true, pe) :: (knownL m h lo pe).map fun g => (false, g)
def countL (ent : List Ent) (way : List Nat) (whos : List Who) : List Ent := ent.filter fun e => decide (e.1 ∈ way) && decide (e.2.1 ∈ whos)
def nearL (cnt : List Ent) (way : List Nat) : List Ent := cnt.filter fun e => decide (e.1 ∈ (way.filter fun f => decide (f ∈ cnt.map fun e => e.1)).take 1)
def decL (m : Mo) (h : Hs) (lo : List (List Nat)) (pe f : Nat) : List Ent :=
  if m.near = true then nearL (countL h.ent (wayL h f) (whosL m h lo pe)) (wayL h f) else countL h.ent (wayL h f) (whosL m h lo pe)
def kindD (b : Bool) : D := .str (if b = true then "allow" else "bar")
def seesL (l : List Ent) : Bool := (l.any fun e => e.2.2) && !(l.any fun e => !e.2.2)
def seesB (m : Mo) (h : Hs) (lo : List (List Nat)) (pe f : Nat) : Bool := seesL (decL m h lo pe f)
def ptD (x : Nat × Nat) : D := .tuple [natD x.1, natD x.2]
def allPts (p size : Nat) : List (Nat × Nat) := (List.range p).flatMap fun i => (List.range size).map fun f => (i, f)
def sightsL (m : Mo) (h : Hs) (lo : List (List Nat)) (p : Nat) : List (Nat × Nat) := (allPts p (h.par.length + 1)).filter fun x => seesB m h lo x.1 x.2
end
end
def B_is_rowR : Env → R Out :=
  (retS (andD (isiD "tuple" (varD 1)) (callD gAll (consA (lstD (compD (iterF (varD 1)) (tName 2) yesT (callF 3 F_is_whole (consA (varD 2) (consA (cD (.int 0)) (consA (varD 0) nilA)))) [2])) nilA))))
def F_is_rowR : List D → R D := defF 3 B_is_rowR
def B_is_reasonR : Env → R Out :=
  (seqS (ifS (notT (andT (truT (isiD "tuple" (varD 5))) (blT (bin gInA (callD gLen (consA (varD 5) nilA)) (tupD (consA (cD (.int 3)) (consA (cD (.int 4)) nilA)))))))
    (retS (cD (.bool false)))
    passS)
    (seqS (setS 6 (callF 4 F_deciding_entries (consA (varD 1) (consA (varD 2) (consA (varD 3) (consA (varD 4) nilA))))))
    (seqS (setS 7 (callF 1 F_size_of (consA (varD 0) nilA)))
    (seqS (ifS (blT (bin gEq (callD gLen (consA (varD 5) nilA)) (cD (.int 3))))
    (seqS (setS 8 (tupD (consA (callF 2 F_way_of (consA (varD 2) (consA (varD 4) nilA))) (consA (callF 3 F_known_groups (consA (varD 1) (consA (varD 2) (consA (varD 3) nilA)))) nilA))))
    (seqS (setS 9 (andD (callF 2 F_is_rowR (consA (bin gSub (varD 7) (cD (.int 1))) (consA (bin gIx (varD 5) (cD (.int 1))) nilA))) (callF 2 F_is_rowR (consA (bin gIx (cD (.tuple (([(0), (1), (2)] : List Int).map PyData.int))) (un gNeg (cD (.int 1)))) (consA (bin gIx (varD 5) (cD (.int 2))) nilA)))))
    (retS (andD (callF 2 F_is_word (consA (bin gIx (varD 5) (cD (.int 0))) (consA (tupD (consA (cD (.str "nothing")) nilA)) nilA))) (andD (notD (varD 6)) (andD (varD 9) (bin gEq (slD gSl (varD 5) (part (cD (.int 1))) noPart) (varD 8))))))))
    passS)
    (seqS (asgS (varD 5) (tTup 4 (tCons (tName 10) (tCons (tName 11) (tCons (tName 12) (tCons (tName 13) tNil))))))
    (seqS (ifS (notT (andT (truT (callF 2 F_is_folder (consA (varD 7) (consA (varD 11) nilA)))) (andT (truT (callF 2 F_is_who (consA (bin gIx (varD 0) (cD (.int 0))) (consA (varD 12) nilA)))) (truT (callF 2 F_is_rowR (consA (bin gIx (cD (.tuple (([(0), (1), (2)] : List Int).map PyData.int))) (un gNeg (cD (.int 1)))) (consA (varD 13) nilA)))))))
    (retS (cD (.bool false)))
    passS)
    (seqS (ifS (blT (bin gNotInA (varD 13) (callF 4 F_chains (consA (varD 1) (consA (varD 2) (consA (varD 3) (consA (varD 12) nilA)))))))
    (retS (cD (.bool false)))
    passS)
    (seqS (ifS (truT (callF 2 F_is_word (consA (varD 10) (consA (tupD (consA (cD (.str "barred")) nilA)) nilA))))
    (retS (bin gInA (tupD (consA (varD 11) (consA (varD 12) (consA (cD (.str "bar")) nilA)))) (varD 6)))
    passS)
    (retS (andD (callF 2 F_is_word (consA (varD 10) (consA (tupD (consA (cD (.str "sees")) nilA)) nilA))) (andD (bin gInA (tupD (consA (varD 11) (consA (varD 12) (consA (cD (.str "allow")) nilA)))) (varD 6)) (bin gNotInA (cD (.str "bar")) (lstD (compD (iterF (varD 6)) (tName 14) yesT (bin gIx (varD 14) (cD (.int 2))) [14]))))))))))))))
def F_is_reasonR : List D → R D := defF 15 B_is_reasonR
def B_reason_holdsR : Env → R Out :=
  (seqS (dropS (callF 5 F_need_sight (consA (varD 0) (consA (varD 1) (consA (varD 2) (consA (varD 3) (consA (varD 4) nilA)))))))
    (retS (callF 6 F_is_reasonR (consA (varD 0) (consA (varD 1) (consA (varD 2) (consA (varD 3) (consA (varD 4) (consA (varD 5) nilA)))))))))
def F_reason_holdsR : List D → R D := defF 6 B_reason_holdsR
def B_sight_holdsR : Env → R Out :=
  (seqS (dropS (callF 5 F_need_watch (consA (varD 0) (consA (varD 1) (consA (varD 2) (consA (varD 3) (consA (varD 4) nilA)))))))
    (seqS (dropS (callF 4 F_need_sourceS (consA (varD 0) (consA (varD 1) (consA (varD 4) (consA (varD 5) nilA))))))
    (seqS (ifS (notT (andT (truT (isiD "tuple" (varD 6))) (blT (bin gEq (callD gLen (consA (varD 6) nilA)) (cD (.int 5))))))
    (retS (cD (.bool false)))
    passS)
    (seqS (asgS (varD 6) (tTup 5 (tCons (tName 7) (tCons (tName 8) (tCons (tName 9) (tCons (tName 10) (tCons (tName 11) tNil)))))))
    (seqS (setS 12 (callF 1 F_size_of (consA (bin gIx (varD 0) (cD (.int 0))) nilA)))
    (seqS (ifS (notT (andT (truT (callF 3 F_is_whole (consA (varD 7) (consA (cD (.int 0)) (consA (callD gLen (consA (varD 1) nilA)) nilA))))) (andT (truT (callF 2 F_is_folder (consA (varD 12) (consA (varD 8) nilA)))) (truT (callF 2 F_is_contents (consA (varD 12) (consA (varD 9) nilA)))))))
    (retS (cD (.bool false)))
    passS)
    (seqS (setS 13 (slD gSl (callF 3 F_order_for (consA (varD 0) (consA (varD 1) (consA (varD 2) nilA)))) noPart (part (varD 7))))
    (seqS (asgS (bin gIx (callF 3 F_worlds_along (consA (varD 0) (consA (varD 1) (consA (varD 13) nilA)))) (un gNeg (cD (.int 1)))) (tTup 2 (tCons (tName 14) (tCons (tName 15) tNil))))
    (retS (andD (callF 8 F_is_trail_of (consA (varD 0) (consA (varD 1) (consA (varD 13) (consA (varD 4) (consA (varD 8) (consA (varD 5) (consA (varD 9) (consA (varD 10) nilA))))))))) (andD (callF 6 F_is_reasonR (consA (bin gIx (varD 0) (cD (.int 0))) (consA (bin gIx (varD 0) (cD (.int 1))) (consA (varD 14) (consA (varD 3) (consA (varD 8) (consA (varD 11) nilA))))))) (bin gEq (bin gIx (varD 11) (cD (.int 0))) (cD (.str "sees"))))))))))))))
def F_sight_holdsR : List D → R D := defF 16 B_sight_holdsR
def B_withoutR : Env → R Out :=
  (retL (compD (iterF (varD 0)) (tName 2) (blT (bin gNotInA (bin gIx (varD 2) (cD (.int 1))) (varD 1))) (varD 2) [2]))
def F_withoutR : List D → R D := defF 3 B_withoutR
def FL_withoutR : List D → R (List D) := defL 3 B_withoutR
def B_spared_byR : Env → R Out :=
  (seqS (dropS (callF 5 F_need_kept (consA (varD 0) (consA (varD 1) (consA (varD 2) (consA (varD 3) (consA (varD 4) nilA)))))))
    (seqS (setS 5 (callF 5 F_due_for (consA (varD 0) (consA (varD 1) (consA (varD 2) (consA (varD 3) (consA (varD 4) nilA)))))))
    (seqS (setS 6 (callF 3 F_done_for (consA (varD 0) (consA (varD 1) (consA (varD 4) nilA)))))
    (seqS (forS (iterF (callF 2 F_cuts_of (consA (varD 1) (consA (varD 3) nilA)))) (tName 7)
    (seqS (setS 8 (lstD (compD (iterF (varD 7)) (tName 9) (blT (bin gIs (callF 4 F_loss_in (consA (varD 0) (consA (callF 2 F_withoutR (consA (varD 6) (consA (varD 9) nilA))) (consA (varD 3) (consA (varD 5) nilA))))) (cD .none))) (varD 9) [9])))
    (ifS (truT (varD 8))
    (retS (varD 8))
    passS)))
    (retL (dispL nilA))))))
def F_spared_byR : List D → R D := defF 10 B_spared_byR
section
variable {env : Env} {fu : Nat} {E : Nat → Er → Prop} {QO : Nat → Out → Prop} {QD Q : Nat → D → Prop} {QB : Nat → Bool → Prop} {QL : Nat → List D → Prop} {i j hi : Int} {d x y z : D} {ds es : List D} {s t : Str} {fa fb fk : Env → R D} {k n : Nat} {p : Nat} {h : Hs} {lo : List (List Nat)} {m : Mo} {pe f : Nat}
def lastN (c : List Nat) : Nat := c.getLast?.getD 0
def pairC (x : List Nat × Nat) : D := .tuple [parD x.1, natD x.2]
def stepsC (l : List (List Nat)) : List (List Nat × Nat) := l.flatMap fun c => ([0, 1, 2] : List Nat).map fun g => (c, g)
def extC (mem : List (Nat × Who)) (l : List (List Nat)) : List (List Nat) := ((stepsC l).filter fun x => decide ((x.2, (false, lastN x.1)) ∈ mem)).map fun x => x.1 ++ [x.2]
def chain0 (mem : List (Nat × Who)) (pe : Nat) : List (List Nat) := (([0, 1, 2] : List Nat).filter fun g => decide ((g, (true, pe)) ∈ mem)).map fun g => [g]
def chainsA (mem : List (Nat × Who)) (pe : Nat) (deep : Bool) : List (List Nat) := if deep = true then (chain0 mem pe ++ extC mem (chain0 mem pe)) ++ extC mem (extC mem (chain0 mem pe)) else chain0 mem pe
def chainsL (m : Mo) (h : Hs) (lo : List (List Nat)) (pe : Nat) (w : Who) : List (List Nat) :=
  if w.1 = true then (if w.2 = pe then [[]] else []) else if m.login = true then (if w.2 ∈ lo.getD pe [] then [[w.2]] else []) else (chainsA h.mem pe m.deep).filter fun c => decide (lastN c = w.2)
def toldL (l : List Ent) : List Ent := (l.filter fun e => !e.2.2) ++ l
def toldD (m : Mo) (h : Hs) (lo : List (List Nat)) (pe f : Nat) : D := match toldL (decL m h lo pe f) with
  | [] => .tuple [.str "nothing", parD (wayL h f), parD (knownL m h lo pe)]
  | a :: _ => .tuple [.str (if a.2.2 = true then "sees" else "barred"), natD a.1, whoD a.2.1, parD ((chainsL m h lo pe a.2.1).headD [])]
def isRowZ (most : Int) (d : D) : Bool := match d with
  | .tuple ds => (ds.map fun x => isWh x 0 most).all id
  | _ => false
def natsO (d : D) : List Nat := match d with
  | .tuple ds => ds.map natO
  | _ => []
def reason4 (l : List Ent) (cs : List (List Nat)) (w : D) (at_ : Nat) (who : Who) (ch : List Nat) : Bool :=
  if ch ∈ cs then (if isWord w ["barred"] = true then decide (((at_, who, false) : Ent) ∈ l) else isWord w ["sees"] && (decide (((at_, who, true) : Ent) ∈ l) && !(l.any fun e => !e.2.2))) else false
def isReasonZ (m : Mo) (h : Hs) (lo : List (List Nat)) (p pe f : Nat) (d : D) : Bool := match d with
  | .tuple [a, b, c] => isWord a ["nothing"] && ((decL m h lo pe f).isEmpty && ((isRowZ h.par.length b && isRowZ 2 c) && (decide (natsO b = wayL h f) && decide (natsO c = knownL m h lo pe))))
  | .tuple [w, at_, who, ch] => if (isFold ((h.par.length + 1 : Nat) : Int) at_ && (isWho (p : Nat) who && isRowZ 2 ch)) = true then reason4 (decL m h lo pe f) (chainsL m h lo pe (whoO who)) w (natO at_) (whoO who) (natsO ch) else false
  | _ => false
end
section
variable {env : Env} {fu : Nat} {E : Nat → Er → Prop} {QO : Nat → Out → Prop} {QD Q : Nat → D → Prop} {QL : Nat → List D → Prop} {d x y z : D} {ds es : List D} {k n : Nat}
abbrev letD (c : Nat) : D := .str (nameS c)
theorem g_ownSlS {fl fh : Env → R (Option Int)} {i : Nat} (he : env[i]? = some (some (.own es))) (h : (fl env).go fu (fun fu l => (fh env).go fu (fun fu u => QD fu (.list (cutD es l u))) E) E) : (ownSl i fl fh env).go fu QD E := by
  simp only [R.go_eq] at *
  unfold ownSl
  rw [he]
  exact bndI (R.wp_mono h (fun _ _ h => bndI (R.wp_mono h (fun _ _ h => h) fun _ _ h => h)) fun _ _ h => h)
theorem eqv_lmapS {α : Type} [DecidableEq α] (enc : α → D) (h : ∀ a b, PyData.eqv (enc a) (enc b) = decide (a = b)) (xs ys : List α) : PyData.eqv (.list (xs.map enc)) (.list (ys.map enc)) = decide (xs = ys) := by
  rw [← eqvAll_map enc h]; simp [PyData.eqv]
theorem nm_inj {a b : Nat} : nameS a = nameS b ↔ a = b := by
  constructor
  · intro h
    have : (#[a] : Array Nat) = #[b] := by injection h
    simpa using this
  · rintro rfl; rfl
theorem nm_plus (c : Nat) : decide (nameS c = "+") = decide (c = 43) := by
  have e : ("+" : Str) = nameS 43 := by decide +kernel
  rw [e, Bool.eq_iff_iff, decide_eq_true_eq, decide_eq_true_eq, nm_inj]
theorem eqv_let (a b : Nat) : PyData.eqv (letD a) (letD b) = decide (a = b) := by
  show (nameS a == nameS b) = _
  rw [Bool.eq_iff_iff, beq_iff_eq, decide_eq_true_eq, nm_inj]
theorem shapedL_lets {l : List Nat} (h : ∀ c ∈ l, LetOk c) : SeqAt.shaped (.list (l.map letD)) = true := shapedL_of fun d hd => by
  obtain ⟨c, hc, rfl⟩ := List.mem_map.mp hd
  have h1 : PyData.strOk (nameS c) = true := strOk_name (by rcases h c hc with h | h <;> omega)
  exact ⟨h1, by simp [PyData.depth]⟩
theorem shaped_route {l : List Nat} (h : ∀ c ∈ l, LetOk c) : SeqAt.shaped (routeD l) = true := shapedT_of fun d hd => by
  obtain ⟨c, hc, rfl⟩ := List.mem_map.mp hd
  have h1 : PyData.strOk (nameS c) = true := strOk_name (by rcases h c hc with h | h <;> omega)
  exact ⟨h1, by simp [PyData.depth]⟩
theorem g_neLets {a b : List Nat} (ha : ∀ c ∈ a, LetOk c) (hb : ∀ c ∈ b, LetOk c) (q : QD fu (.bool (!decide (a = b)))) : (gNe (.list (a.map letD)) (.list (b.map letD))).go fu QD E := by
  refine g_ret1 (a := .bool (!decide (a = b))) ?_ q
  rw [strNe_none rfl (shapedL_lets ha) (shapedL_lets hb), eqv_lmapS letD eqv_let]
theorem g_eqLets {a b : List Nat} (ha : ∀ c ∈ a, LetOk c) (hb : ∀ c ∈ b, LetOk c) (q : QD fu (.bool (decide (a = b)))) : (gEq (.list (a.map letD)) (.list (b.map letD))).go fu QD E := by
  refine g_ret1 (a := .bool (decide (a = b))) ?_ q
  rw [strEq_none rfl (shapedL_lets ha) (shapedL_lets hb), eqv_lmapS letD eqv_let]
theorem cut_tail1 {α : Type} (l : List α) : cutD l (some (-1)) none = l.drop (l.length - 1) := by
  unfold cutD
  have e1 : HT.sIx l.length 0 (some (-1)) = l.length - 1 := by
    show (if (-1 : Int) < 0 then ((-1 : Int) + (l.length : Int)).toNat else min (-1 : Int).toNat l.length) = _
    rw [if_pos (by omega)]; omega
  rw [e1]
  show (l.drop (l.length - 1)).take (l.length - (l.length - 1)) = _
  exact List.take_of_length_le (by rw [List.length_drop]; omega)
theorem drop_last (l : List Nat) (c : Nat) : l.drop (l.length - 1) = [c] ↔ l.getLast? = some c := by
  rcases List.eq_nil_or_concat l with rfl | ⟨q, x, rfl⟩
  · simp
  · rw [List.concat_eq_append, List.length_append, List.length_singleton, Nat.add_sub_cancel, List.drop_left, List.getLast?_append]
    simp
theorem lets_red {r : List Nat} (h : ∀ c ∈ r, LetOk c) : ∀ c ∈ red r, LetOk c := fun c hc => h c (red_mem hc)
theorem take_snoc {r : List Nat} {k : Nat} {c : Nat} (h : r[k]? = some c) : r.take (k + 1) = r.take k ++ [c] := by rw [List.take_add_one, h]; rfl
theorem a_reduce_letters {r : List Nat} (hl : r.length ≤ 1000) (hr : ∀ c ∈ r, LetOk c) (hx : x = .tuple (r.map letD) ∨ x = .list (r.map letD)) (q : QD fu (routeD (red r))) : (F_reduce_letters [x]).go fu QD E := by
  refine g_def rfl ?_
  unfold B_reduce_letters
  have go : ∀ (v : Option DV), (loopL (fun d e => (tName 2 d e).bind (ifS (orT (blT (bin gEq (varD 2) (cD (.str "+")))) (blT (bin gNe (ownSl 1 (part (un gNeg (cD (.int 1)))) noPart) (lstD (dispL (consA (varD 2) nilA)))))) (appS 1 (varD 2)) passS)) (r.map letD) [v, some (.own []), none]).go fu (SqK (retS (ownTup 1)) (DfK QD E) fun _ _ => False) (fun _ _ => False) := by
    intro v
    refine g_loopI (fun k fu' e => ∃ x2 : Option DV, e = [v, some (.own ((red (r.take k)).map letD)), x2] ∧ fu' = fu) _ 0 _ _ ⟨none, rfl, rfl⟩ ?_ ?_
    · rintro k d e fu' hk hd ⟨x2, rfl, rfl⟩
      obtain ⟨c, hc, rfl⟩ : ∃ c, r[k]? = some c ∧ d = letD c := by
        rw [Nat.sub_zero, List.getElem?_map, Option.map_eq_some_iff] at hd
        obtain ⟨c, h1, h2⟩ := hd
        exact ⟨c, h1, h2.symm⟩
      have hcr := hr c (List.mem_of_getElem? hc)
      have hrt : ∀ c ∈ red (r.take k), LetOk c := lets_red fun c hc => hr c (List.mem_of_mem_take hc)
      have hlt : (red (r.take k)).length ≤ 1000 := Nat.le_trans (red_len _) (Nat.le_trans (List.length_take_le _ _) (by have := (List.getElem?_eq_some_iff.mp hc).1; omega))
      have es : red (r.take (k + 1)) = red (r.take k) ++ (if c = 43 ∨ (r.take k).getLast? ≠ some c then [c] else []) := by rw [take_snoc hc, red_snoc]
      have yes : c = 43 ∨ (r.take k).getLast? ≠ some c → (red (r.take k)).map letD ++ [letD c] = (red (r.take (k + 1))).map letD := fun z => by rw [es, if_pos z, List.map_append]; rfl
      refine g_body ?_
      walk_at "v"
      rw [nm_plus]
      refine v_cb (fun e => ?_) (fun e => ?_)
      · have e := of_decide_eq_true e
        walk_at "v"
        refine ⟨by rw [List.length_map]; omega, ?_⟩
        rw [show (red (r.take k)).map letD ++ [PyData.str (nameS c)] = _ from yes (.inl e)]
        exact ⟨_, rfl, rfl⟩
      · have e := of_decide_eq_false e
        walk_at "v"
        refine g_ownSlS rfl ?_
        walk_at "v"
        rw [cut_tail1, ← List.map_drop, List.length_map, show [PyData.str (nameS c)] = [c].map letD from rfl]
        refine g_neLets (fun c hc => hrt c (List.mem_of_mem_drop hc)) (fun z hz => by rw [List.mem_singleton.mp hz]; exact hcr) ?_
        have ed : decide ((red (r.take k)).drop ((red (r.take k)).length - 1) = [c]) = decide ((r.take k).getLast? = some c) := by
          rw [Bool.eq_iff_iff, decide_eq_true_eq, decide_eq_true_eq, drop_last, red_last]
        rw [ed]
        walk_at "v"
        refine v_cn (fun e2 => ?_) (fun e2 => ?_)
        · have e2 := of_decide_eq_false e2
          walk_at "v"
          refine ⟨by rw [List.length_map]; omega, ?_⟩
          rw [show (red (r.take k)).map letD ++ [PyData.str (nameS c)] = _ from yes (.inr e2)]
          exact ⟨_, rfl, rfl⟩
        · have e2 := of_decide_eq_true e2
          walk_at "v"
          rw [es, if_neg (fun z => z.elim e fun z => z e2), List.append_nil]
          exact ⟨_, rfl, rfl⟩
    · rintro e fu' ⟨x2, rfl, rfl⟩
      rw [List.length_map, Nat.zero_add, List.take_length]
      walk_at "v"
      exact q
  rcases hx with rfl | rfl
  · walk_at "v"
    exact go _
  · walk_at "v"
    exact go _
def placesD : Option (List Nat) → D
  | none => .none
  | some pl => .tuple (pl.map natD)
theorem a_spell {L O : List Nat} (hL : ∀ c ∈ L, LetOk c) (hLl : L.length ≤ 1000) (hO : ∀ c ∈ O, LetOk c) (hOl : O.length ≤ 1000) (q : QD fu (placesD (spellL L O))) : (F_spell [routeD L, routeD O]).go fu QD E := by
  have hinv := gr_inv L O
  rw [show routeD L = .tuple (L.map letD) from rfl, show routeD O = .tuple (O.map letD) from rfl]
  refine g_def rfl ?_
  unfold B_spell
  walk_at "v"
  refine g_enum ?_
  walk_at "v"
  refine ⟨O.map letD, .inr rfl, ?_⟩
  have hel : (enumD (O.map letD)).length = O.length := by unfold enumD; simp
  refine g_loopI (fun k fu' e => ∃ (pl : List Nat) (x3 x4 : Option DV), e = [some (.val (.tuple (L.map letD))), some (.val (.tuple (O.map letD))), some (.own (pl.map natD)), x3, x4] ∧ grS L (O.drop k) k pl = grS L O 0 [] ∧ pl.length ≤ k ∧ k ≤ O.length ∧ fu' = fu) _ 0 _ _ ⟨[], none, none, rfl, rfl, by simp, by omega, rfl⟩ ?_ ?_
  · rintro k d e fu' hk hd ⟨pl, x3, x4, rfl, hg, hpl, hkO, rfl⟩
    rw [Nat.sub_zero] at hd
    obtain ⟨c, hc, rfl⟩ := enum_map letD O hd
    have hk1 := (List.getElem?_eq_some_iff.mp hc).1
    have hdr : O.drop k = c :: O.drop (k + 1) := by
      rw [List.drop_eq_getElem_cons hk1]
      rw [List.getElem?_eq_getElem hk1] at hc
      rw [Option.some.inj hc]
    rw [hdr] at hg
    have hg : (if L[pl.length]? = some c then grS L (O.drop (k + 1)) (k + 1) (pl ++ [k]) else grS L (O.drop (k + 1)) (k + 1) pl) = grS L O 0 [] := hg
    refine g_body ?_
    walk_at "v"
    rw [List.length_map, List.length_map]
    refine v_cb (fun e => ?_) (fun e => ?_)
    · have e := of_decide_eq_true e
      have hlt : pl.length < L.length := by omega
      walk_at "v"
      refine g_ixI (d := letD L[pl.length]) (by omega) (by rw [Int.toNat_natCast, List.getElem?_map, List.getElem?_eq_getElem hlt]; rfl) ?_
      walk_at "v"
      have ed : decide (nameS L[pl.length] = nameS c) = decide (L[pl.length]? = some c) := by
        rw [Bool.eq_iff_iff, decide_eq_true_eq, decide_eq_true_eq, nm_inj, List.getElem?_eq_getElem hlt, Option.some_inj]
      rw [ed]
      refine v_cb (fun e2 => ?_) (fun e2 => ?_)
      · have e2 := of_decide_eq_true e2
        rw [if_pos e2] at hg
        walk_at "v"
        refine ⟨by rw [List.length_map]; omega, ?_⟩
        exact ⟨pl ++ [k], _, _, by rw [List.map_append]; rfl, hg, by rw [List.length_append]; simp; omega, by omega, rfl⟩
      · have e2 := of_decide_eq_false e2
        rw [if_neg e2] at hg
        walk_at "v"
        exact ⟨pl, _, _, rfl, hg, by omega, by omega, rfl⟩
    · have e := of_decide_eq_false e
      rw [if_neg (by rw [List.getElem?_eq_none (by omega)]; simp)] at hg
      walk_at "v"
      exact ⟨pl, _, _, rfl, hg, by omega, by omega, rfl⟩
  · rintro e fu' ⟨pl, x3, x4, rfl, hg, hpl, hkO, rfl⟩
    rw [hel, Nat.zero_add, List.drop_length] at hg
    have hg : pl = grS L O 0 [] := hg
    unfold spellL at q
    rw [← hg] at q
    walk_at "v"
    rw [List.length_map, List.length_map]
    refine v_cb (fun e => ?_) (fun e => ?_)
    · have e := of_decide_eq_true e
      rw [if_pos (by omega)] at q
      walk_at "v"
      exact q
    · have e := of_decide_eq_false e
      rw [if_neg (by omega)] at q
      walk_at "v"
      exact q
theorem ok_rt {r : List Nat} (h : RouteOk r) : okN (k + 1) (routeD r) = true := ok_route (by have := h.len; omega) fun c hc => by rcases h.lets c hc with h | h <;> omega
theorem a_need_routeG {r : List Nat} (h : RouteOk r) (q : QD fu .none) : (F_need_route [routeD r]).go fu QD E := a_need_route (k := 0) (ok_rt h) (fun _ => q) fun e => absurd (isRoute_d h) (by rw [e]; decide)
theorem a_need_routes {r o : List Nat} (h : RouteOk r) (ho : RouteOk o) (q : QD fu .none) : (F_need_routes [routeD r, routeD o]).go fu QD E := by
  refine g_def rfl ?_
  unfold B_need_routes
  walk_at "v"
  refine a_need_routeG h ?_
  walk_at "v"
  refine a_need_routeG ho ?_
  walk_at "v"
  exact q
theorem a_reduced {r : List Nat} (h : RouteOk r) (q : QD fu (routeD (red r))) : (F_reduced [routeD r]).go fu QD E := by
  have hl := h.len
  refine g_def rfl ?_
  unfold B_reduced
  walk_at "v"
  refine a_need_routeG h ?_
  walk_at "v"
  refine a_reduce_letters (by omega) h.lets (.inl rfl) ?_
  walk_at "v"
  exact q
theorem a_spelled_at {r o : List Nat} (h : RouteOk r) (ho : RouteOk o) (q : QD fu (placesD (spellL (red r) o))) : (F_spelled_at [routeD r, routeD o]).go fu QD E := by
  have hl := h.len
  have hol := ho.len
  have hrl := red_len r
  refine g_def rfl ?_
  unfold B_spelled_at
  walk_at "v"
  refine a_need_routes h ho ?_
  walk_at "v"
  refine a_reduce_letters (by omega) h.lets (.inl rfl) ?_
  walk_at "v"
  refine a_spell (lets_red h.lets) (by omega) ho.lets (by omega) ?_
  walk_at "v"
  exact q
theorem a_never_later {r o : List Nat} (h : RouteOk r) (ho : RouteOk o) (q : QD fu (.bool (spellL (red r) o).isSome)) : (F_never_later [routeD r, routeD o]).go fu QD E := by
  have hl := h.len
  have hol := ho.len
  have hrl := red_len r
  refine g_def rfl ?_
  unfold B_never_later
  walk_at "v"
  refine a_need_routes h ho ?_
  walk_at "v"
  refine a_reduce_letters (by omega) h.lets (.inl rfl) ?_
  walk_at "v"
  refine a_spell (lets_red h.lets) (by omega) ho.lets (by omega) ?_
  walk_at "v"
  have e : (!isNonD (placesD (spellL (red r) o))) = (spellL (red r) o).isSome := by cases spellL (red r) o <;> rfl
  rw [e]
  exact q
theorem a_joined {rs : List (List Nat)} (h : ∀ r ∈ rs, RouteOk r) (hl : rs.length ≤ 4) (q : (red rs.flatten).length ≤ 8 → QD fu (routeD (red rs.flatten))) (e : 8 < (red rs.flatten).length → E fu ⟨"TooMany", []⟩) : (F_joined [.tuple (rs.map routeD)]).go fu QD E := by
  have hfl : rs.flatten.length ≤ 32 := by
    have gen : ∀ l : List (List Nat), (∀ r ∈ l, RouteOk r) → l.flatten.length ≤ 8 * l.length := by
      intro l
      induction l with
      | nil => intro _; simp
      | cons a r ih =>
        intro hh
        have h1 := (hh a List.mem_cons_self).len
        have h2 := ih fun x hx => hh x (List.mem_cons_of_mem _ hx)
        rw [List.flatten_cons, List.length_append, List.length_cons]; omega
    have := gen rs h
    omega
  have hlets : ∀ c ∈ rs.flatten, LetOk c := fun c hc => by
    obtain ⟨r, hr, hc⟩ := List.mem_flatten.mp hc
    exact (h r hr).lets c hc
  refine g_def rfl ?_
  unfold B_joined
  walk_at "v"
  refine g_loopI (fun k fu' e => ∃ x1 : Option DV, e = [some (.val (.tuple (rs.map routeD))), x1, none, none] ∧ fu' = fu) _ 0 _ _ ⟨none, rfl, rfl⟩ ?_ ?_
  · rintro k d e fu' hk hd ⟨x1, rfl, rfl⟩
    obtain ⟨r, hr, rfl⟩ : ∃ r ∈ rs, d = routeD r := by
      rw [Nat.sub_zero, List.getElem?_map, Option.map_eq_some_iff] at hd
      obtain ⟨r, h1, h2⟩ := hd
      exact ⟨r, List.mem_of_getElem? h1, h2.symm⟩
    refine g_body ?_
    walk_at "v"
    refine a_need_routeG (h r hr) ?_
    walk_at "v"
    first | exact ⟨_, rfl, rfl⟩ | exact ⟨_, rfl⟩ | exact rfl
  · rintro e fu' ⟨x1, rfl, rfl⟩
    walk_at "v"
    refine g_comp2 ?_
    walk_at "v"
    refine ⟨by rw [List.length_map]; omega, ?_⟩
    refine g_comp2M routeD (fun r => r.map letD) (fun r hr fu QX hq => g_outer ?_) ?_
    · have hrl := (h r hr).len
      simp only [hideO, wipeE, List.map_cons, List.map_nil, List.set_cons_succ, List.set_cons_zero]
      rw [show routeD r = .tuple (r.map letD) from rfl]
      walk_at "v"
      refine ⟨by rw [List.length_map]; omega, ?_⟩
      refine g_compM letD letD (fun c hc fu QX hq => g_inner ?_) hq
      simp only [hideO, wipeE, List.map_cons, List.map_nil, List.set_cons_succ, List.set_cons_zero]
      walk_at "v"
      exact hq
    have ef : rs.flatMap (fun r => r.map letD) = rs.flatten.map letD := by rw [List.map_flatten]; rfl
    rw [ef]
    walk_at "v"
    refine a_reduce_letters (by omega) hlets (.inr rfl) ?_
    rw [show routeD (red rs.flatten) = .tuple ((red rs.flatten).map letD) from rfl] at q ⊢
    walk_at "v"
    rw [List.length_map]
    refine v_cb (fun e2 => ?_) (fun e2 => ?_)
    · have e2 := of_decide_eq_true e2
      walk_at "v"
      refine g_fmtI (by decide) ?_
      walk_at "v"
      exact e (by omega)
    · have e2 := of_decide_eq_false e2
      walk_at "v"
      exact q (by omega)
theorem e_joined {rs : List (List Nat)} {b : D} (h : ∀ r ∈ rs, RouteOk r) (hl : rs.length ≤ 4) (hb : okN 5 b = true) (hn : isRoute b = false) (e : E fu ⟨"BadRoute", []⟩) : (F_joined [.tuple (rs.map routeD ++ [b])]).go fu QD E := by
  refine g_def rfl ?_
  unfold B_joined
  walk_at "v"
  refine g_loopI (fun k fu' e => ∃ x1 : Option DV, e = [some (.val (.tuple (rs.map routeD ++ [b]))), x1, none, none] ∧ fu' = fu ∧ k ≤ rs.length) _ 0 _ _ ⟨none, rfl, rfl, by omega⟩ ?_ ?_
  · rintro k d e1 fu' hk hd ⟨x1, rfl, rfl, hkl⟩
    rw [Nat.sub_zero] at hd
    refine g_body ?_
    by_cases hk2 : k < rs.length
    · rw [List.getElem?_append_left (by rw [List.length_map]; exact hk2), List.getElem?_map, List.getElem?_eq_getElem hk2] at hd
      obtain rfl : routeD rs[k] = d := Option.some.inj hd
      walk_at "v"
      refine a_need_routeG (h _ (List.getElem_mem hk2)) ?_
      walk_at "v"
      first | exact ⟨_, rfl, rfl, by omega⟩ | omega
    · have : k = rs.length := by omega
      subst this
      rw [List.getElem?_append_right (by rw [List.length_map]; omega), List.length_map, Nat.sub_self] at hd
      obtain rfl : b = d := Option.some.inj hd
      walk_at "v"
      refine a_need_route (k := 4) hb (fun z => absurd z (by rw [hn]; decide)) fun _ => ?_
      walk_at "v"
      exact e
  · rintro e1 fu' ⟨x1, rfl, rfl, hkl⟩
    rw [List.length_append, List.length_map, List.length_singleton] at hkl
    omega
end
section
variable {env : Env} {fu : Nat} {E : Nat → Er → Prop} {QO : Nat → Out → Prop} {QD Q : Nat → D → Prop} {QL : Nat → List D → Prop} {d x y z : D} {ds es : List D} {k n : Nat}
theorem nine {i : Nat} (h : i < 6) : ∃ c, ("ab+cd+" : Str).cps.toList[i]? = some c ∧ LetOk c := by
  have hc : i = 0 ∨ i = 1 ∨ i = 2 ∨ i = 3 ∨ i = 4 ∨ i = 5 := by omega
  unfold LetOk
  rcases hc with rfl | rfl | rfl | rfl | rfl | rfl
  · exact ⟨97, by decide +kernel, by omega⟩
  · exact ⟨98, by decide +kernel, by omega⟩
  · exact ⟨43, by decide +kernel, by omega⟩
  · exact ⟨99, by decide +kernel, by omega⟩
  · exact ⟨100, by decide +kernel, by omega⟩
  · exact ⟨43, by decide +kernel, by omega⟩
theorem four {i : Nat} (h : i < 4) : ∃ c, ("ab+c" : Str).cps.toList[i]? = some c ∧ LetOk c := by
  have hc : i = 0 ∨ i = 1 ∨ i = 2 ∨ i = 3 := by omega
  unfold LetOk
  rcases hc with rfl | rfl | rfl | rfl
  · exact ⟨97, by decide +kernel, by omega⟩
  · exact ⟨98, by decide +kernel, by omega⟩
  · exact ⟨43, by decide +kernel, by omega⟩
  · exact ⟨99, by decide +kernel, by omega⟩
theorem a_law_letters {m : Nat} (hm : m ≤ 8) (hf : 20 ≤ fu) (q : ∀ r fu', fu ≤ fu' + 20 → r.length ≤ m → (∀ c ∈ r, LetOk c) → QD fu' (routeD r)) : (F_law_letters [deckD, natD m]).go fu QD E := by
  refine g_def rfl ?_
  unfold B_law_letters
  walk_at "v"
  refine g_comp ?_
  walk_at "v"
  refine gs_draw6 (by omega) (by omega) (by omega) fun i f1 e1 a1 b1 => ?_
  walk_at "v"
  refine ⟨0, i, .inl ⟨rfl, rfl⟩, rng_okI (by omega) (by omega), ?_⟩
  refine ⟨by rw [rngD_len (by omega)]; omega, ?_⟩
  refine g_compI (fun k fu' acc => ∃ l : List Nat, acc = l.map letD ∧ l.length = k ∧ (∀ c ∈ l, LetOk c) ∧ f1 ≤ fu' + 2 * k ∧ k ≤ i.toNat) _ 0 [] _ _ ⟨[], rfl, rfl, fun s hs => (nomatch hs), by omega, by omega⟩ ?_ ?_
  · rintro k d acc fu' hk hd ⟨l, rfl, hll, hlo, hfu', hki⟩
    rw [Nat.sub_zero] at hd
    obtain ⟨hk1, rfl⟩ := rngD_get hd
    refine g_item ?_
    walk_at "v"
    refine gs_draw6 (by omega) (by omega) (by omega) fun i2 f2 e2 a2 b2 => ?_
    walk_at "v"
    obtain ⟨z, ez, hz1, hz2⟩ : ∃ z : Int, ([.int 4, .int 6] : List D)[i2.toNat]? = some (.int z) ∧ 0 < z ∧ z ≤ 6 := by
      have : i2 = 0 ∨ i2 = 1 := by omega
      rcases this with r | r <;> subst r
      · exact ⟨4, rfl, by omega, by omega⟩
      · exact ⟨6, rfl, by omega, by omega⟩
    refine g_ixI a2 ez ?_
    walk_at "v"
    refine gs_draw6 (by omega) (by omega) (by omega) fun i3 f3 e3 a3 b3 => ?_
    walk_at "v"
    obtain ⟨c, ec, hc⟩ := nine (i := i3.toNat) (by omega)
    rw [show i3 = ((i3.toNat : Nat) : Int) by omega]
    refine g_ixSt (by decide) ec ?_
    walk_at "v"
    refine ⟨l ++ [c], by rw [List.map_append]; rfl, by rw [List.length_append, hll]; rfl, fun x hx => ?_, by omega, by omega⟩
    rcases List.mem_append.mp hx with hx | hx
    · exact hlo x hx
    · rw [List.mem_singleton.mp hx]; exact hc
  · rintro acc fu' ⟨l, e, hll, hlo, hfu', hki⟩
    rw [List.nil_append] at e
    subst e
    rw [rngD_len (by omega)] at hll hfu'
    walk_at "v"
    exact q l fu' (by omega) (by omega) hlo
theorem getLast_take {r : List Nat} {k : Nat} (hk : k < r.length) : (r.take (k + 1)).getLast? = r[k]? := by
  rw [List.take_add_one, List.getElem?_eq_getElem hk, Option.toList_some, List.getLast?_concat]
theorem a_law_reduced {r : List Nat} (hl : r.length ≤ 1000) (q : QD fu (routeD (red r))) : (F_law_reduced [routeD r]).go fu QD E := by
  rw [show routeD r = .tuple (r.map letD) from rfl]
  refine g_def rfl ?_
  unfold B_law_reduced
  walk_at "v"
  refine ⟨0, _, .inl ⟨rfl, rfl⟩, rng_okI (by omega) (by rw [List.length_map]; omega), ?_⟩
  refine g_loopI (fun k fu' e => ∃ x2 : Option DV, e = [some (.val (.tuple (r.map letD))), some (.own ((red (r.take k)).map letD)), x2] ∧ fu' = fu ∧ k ≤ r.length) _ 0 _ _ ⟨none, rfl, rfl, by omega⟩ ?_ ?_
  · rintro k d e fu' hk hd ⟨x2, rfl, rfl, hkl⟩
    rw [Nat.sub_zero] at hd
    obtain ⟨hk1, rfl⟩ := rngD_get hd
    rw [List.length_map] at hk1
    have hk1 : k < r.length := by omega
    have hix : (r.map letD)[((k : Nat) : Int).toNat]? = some (letD r[k]) := by
      rw [Int.toNat_natCast, List.getElem?_map, List.getElem?_eq_getElem hk1]; rfl
    have hc : r[k]? = some r[k] := List.getElem?_eq_getElem hk1
    have es : red (r.take (k + 1)) = red (r.take k) ++ (if r[k] = 43 ∨ (r.take k).getLast? ≠ some r[k] then [r[k]] else []) := by rw [take_snoc hc, red_snoc]
    have hlt : (red (r.take k)).length ≤ 1000 := Nat.le_trans (red_len _) (Nat.le_trans (List.length_take_le _ _) (by omega))
    have yes : r[k] = 43 ∨ (r.take k).getLast? ≠ some r[k] → (red (r.take k)).map letD ++ [letD r[k]] = (red (r.take (k + 1))).map letD := fun z => by rw [es, if_pos z, List.map_append]; rfl
    have app : ∀ {x2 : Option DV} {fu' : Nat}, r[k] = 43 ∨ (r.take k).getLast? ≠ some r[k] → fu' = fu' := fun _ => rfl
    refine g_body ?_
    walk_at "v"
    refine g_ixI (by omega) hix ?_
    walk_at "v"
    rw [nm_plus]
    refine v_cb (fun e => ?_) (fun e => ?_)
    · have e := of_decide_eq_true e
      walk_at "v"
      refine g_ixI (by omega) hix ?_
      walk_at "v"
      refine ⟨by rw [List.length_map]; omega, ?_⟩
      rw [show (red (r.take k)).map letD ++ [PyData.str (nameS r[k])] = _ from yes (.inl e)]
      exact ⟨_, rfl, rfl, by omega⟩
    · have e := of_decide_eq_false e
      walk_at "v"
      refine v_cb (fun e2 => ?_) (fun e2 => ?_)
      · have e2 := of_decide_eq_true e2
        have : k = 0 := by omega
        subst this
        walk_at "v"
        first | refine g_ixI (by omega) hix ?_ | skip
        walk_at "v"
        refine ⟨by rw [List.length_map]; omega, ?_⟩
        rw [show (red (r.take 0)).map letD ++ [PyData.str (nameS r[0])] = _ from yes (.inr (by simp))]
        exact ⟨_, rfl, rfl, by omega⟩
      · have e2 := of_decide_eq_false e2
        obtain ⟨j, rfl⟩ : ∃ j, k = j + 1 := ⟨k - 1, by omega⟩
        have hix2 : (r.map letD)[((((j + 1 : Nat) : Int) - 1)).toNat]? = some (letD r[j]) := by
          rw [show ((((j + 1 : Nat) : Int) - 1)).toNat = j by omega, List.getElem?_map, List.getElem?_eq_getElem (by omega)]; rfl
        have hgl : (r.take (j + 1)).getLast? = some r[j] := by rw [getLast_take (by omega), List.getElem?_eq_getElem (by omega)]
        walk_at "v"
        refine g_ixI (by omega) hix2 ?_
        walk_at "v"
        refine g_ixI (by omega) hix ?_
        walk_at "v"
        have ed : decide (nameS r[j] = nameS r[j + 1]) = decide ((r.take (j + 1)).getLast? = some r[j + 1]) := by
          rw [Bool.eq_iff_iff, decide_eq_true_eq, decide_eq_true_eq, nm_inj, hgl, Option.some_inj]
        rw [ed]
        refine v_cn (fun e3 => ?_) (fun e3 => ?_)
        · have e3 := of_decide_eq_false e3
          walk_at "v"
          refine g_ixI (by omega) hix ?_
          walk_at "v"
          refine ⟨by rw [List.length_map]; omega, ?_⟩
          rw [show (red (r.take (j + 1))).map letD ++ [PyData.str (nameS r[j + 1])] = _ from yes (.inr e3)]
          exact ⟨_, rfl, rfl, by omega⟩
        · have e3 := of_decide_eq_true e3
          walk_at "v"
          rw [es, if_neg (fun z => z.elim e fun z => z e3), List.append_nil]
          exact ⟨_, rfl, rfl, by omega⟩
  · rintro e fu' ⟨x2, rfl, rfl, hkl⟩
    rw [rngD_len (by omega), List.length_map, Nat.zero_add, Int.toNat_natCast, List.take_length]
    walk_at "v"
    exact q
abbrev oneD (o : List Nat) : D := .tuple (o.map natD)
theorem ch_small : ∀ many ∈ List.range 9, ∀ s ∈ List.range 9, (chL many s).length ≤ 70 := by decide +kernel
theorem ch_len {many s : Nat} (h1 : many ≤ 8) (h2 : s ≤ 8) : (chL many s).length ≤ 70 := ch_small many (List.mem_range.mpr (by omega)) s (List.mem_range.mpr (by omega))
theorem rngD_from {a b : Nat} : rngD (a : Int) (b : Int) = (List.range' a (b - a)).map natD := by
  unfold rngD
  rw [show ((b : Int) - (a : Int)).toNat = b - a by omega, List.range'_eq_map_range, List.map_map]
  refine List.map_congr_left fun k _ => ?_
  show PyData.int ((a : Int) + (k : Nat)) = .int ((a + k : Nat) : Int)
  rw [Int.natCast_add]
theorem flat_take {α β : Type} (f : α → List β) (l : List α) (k : Nat) : ((l.take k).flatMap f).length ≤ (l.flatMap f).length := by
  have e : l.flatMap f = (l.take k).flatMap f ++ (l.drop k).flatMap f := by rw [← List.flatMap_append, List.take_append_drop]
  rw [e, List.length_append]; omega
theorem shaped_one (o : List Nat) : SeqAt.shaped (oneD o) = true := shapedT_of fun d hd => by
  obtain ⟨c, hc, rfl⟩ := List.mem_map.mp hd
  exact ⟨rfl, by simp [PyData.depth]⟩
theorem g_neOne {o : List Nat} (q : QD fu (.bool (!decide (o = [])))) : (gNe (.tuple (o.map natD)) (.tuple [])).go fu QD E := by
  refine g_ret1 (a := .bool (!decide (o = []))) ?_ q
  show gNe (oneD o) (oneD []) = _
  rw [strNe_none rfl (shaped_one o) (shaped_one [])]
  cases o <;> rfl
theorem a_law_choices {many size : Nat} (hm : many ≤ 8) (hs : size ≤ 8) (q : QD fu (.list ((chL many size).map oneD))) : (F_law_choices [natD many, natD size]).go fu QD E := by
  refine g_def rfl ?_
  unfold B_law_choices
  walk_at "v"
  refine ⟨0, _, .inl ⟨rfl, rfl⟩, rng_okI (by omega) (by omega), ?_⟩
  refine g_loopI (fun k fu' e => ∃ x3 x4 x5 x6 : Option DV, e = [some (.val (natD many)), some (.val (natD size)), some (.val (.list ((chL many k).map oneD))), x3, x4, x5, x6, none] ∧ fu' = fu ∧ k ≤ size) _ 0 _ _ ⟨none, none, none, none, rfl, rfl, by omega⟩ ?_ ?_
  · rintro k d e fu' hk hd ⟨x3, x4, x5, x6, rfl, rfl, hks⟩
    rw [Nat.sub_zero] at hd
    obtain ⟨hk1, rfl⟩ := rngD_get hd
    have hk1 : k < size := by omega
    have hcl := ch_len hm (show k + 1 ≤ 8 by omega)
    have e1 : chL many (k + 1) = (chL many k).flatMap fun one => (List.range' (firstC one) (many - firstC one)).map fun k => one ++ [k] := rfl
    rw [e1] at hcl
    have hmem := fun e => (ch_mem (many := many) k e).mp
    rw [show k + 1 = 1 + k from Nat.add_comm _ _]
    rw [show 1 + k = k + 1 from Nat.add_comm _ _]
    refine g_body ?_
    walk_at "v"
    refine g_loopI (fun j fu2 e => ∃ x5 x6 : Option DV, e = [some (.val (natD many)), some (.val (natD size)), some (.val (.list ((chL many k).map oneD))), some (.val (natD k)), some (.val (.list ((((chL many k).take j).flatMap fun one => (List.range' (firstC one) (many - firstC one)).map fun k => one ++ [k]).map oneD))), x5, x6, none] ∧ fu2 = fu') _ 0 _ _ ⟨x5, x6, rfl, rfl⟩ ?_ ?_
    · rintro j d e fu2 hj hd ⟨x5, x6, rfl, rfl⟩
      rw [Nat.sub_zero, List.getElem?_map, Option.map_eq_some_iff] at hd
      obtain ⟨one, hone, rfl⟩ := hd
      obtain ⟨hol, _, hob⟩ := hmem one (List.mem_of_getElem? hone)
      have hstep : ((chL many k).take (j + 1)).flatMap (fun one => (List.range' (firstC one) (many - firstC one)).map fun k => one ++ [k]) = ((chL many k).take j).flatMap (fun one => (List.range' (firstC one) (many - firstC one)).map fun k => one ++ [k]) ++ (List.range' (firstC one) (many - firstC one)).map fun k => one ++ [k] := by
        rw [List.take_add_one, hone, List.flatMap_append]
        simp
      have hfl := flat_take (fun one : List Nat => (List.range' (firstC one) (many - firstC one)).map fun k => one ++ [k]) (chL many k) (j + 1)
      rw [hstep, List.length_append] at hfl
      have fin : ∀ (f : Nat) (fu : Nat) {QL : Nat → List D → Prop} {E2 : Nat → Er → Prop}, f = firstC one → f ≤ many → QL fu ((List.range' (firstC one) (many - firstC one)).map fun k => oneD (one ++ [k])) →
          (compD (rngI (consA (varD 6) (consA (varD 0) nilA))) (tName 7) yesT (bin gAdd (varD 5) (tupD (consA (varD 7) nilA))) [7] [some (.val (natD many)), some (.val (natD size)), some (.val (.list ((chL many k).map oneD))), some (.val (natD k)), some (.val (.list ((((chL many k).take j).flatMap fun one => (List.range' (firstC one) (many - firstC one)).map fun k => one ++ [k]).map oneD))), some (.val (oneD one)), some (.val (natD f)), none]).go fu QL E2 := by
        intro f fu QL E2 hff hfm hq2
        subst hff
        have hro : rngOk ((firstC one : Nat) : Int) ((many : Nat) : Int) = true := by unfold rngOk; exact decide_eq_true (by omega)
        refine g_comp ?_
        walk_at "v"
        refine ⟨_, _, .inr rfl, hro, ?_⟩
        rw [rngD_from]
        refine ⟨by rw [List.length_map, List.length_range']; omega, ?_⟩
        refine g_compM natD (fun k => oneD (one ++ [k])) (fun c hc fu QX hq => g_item ?_) hq2
        walk_at "v"
        refine g_addT (by rw [List.length_map, hol]; simp only [List.length_cons, List.length_nil]; omega) ?_
        walk_at "v"
        have e : PyData.tuple (one.map natD ++ [natD c]) = oneD (one ++ [c]) := by show _ = PyData.tuple ((one ++ [c]).map natD); rw [List.map_append]; rfl
        rw [e]
        exact hq
      have hadd : ((((chL many k).take j).flatMap fun one => (List.range' (firstC one) (many - firstC one)).map fun k => one ++ [k]).map oneD) ++ ((List.range' (firstC one) (many - firstC one)).map fun k => oneD (one ++ [k])) = ((((chL many k).take (j + 1)).flatMap fun one => (List.range' (firstC one) (many - firstC one)).map fun k => one ++ [k]).map oneD) := by
        rw [hstep, List.map_append, List.map_map]; rfl
      refine g_body ?_
      walk_at "v"
      refine g_neOne ?_
      rcases List.eq_nil_or_concat one with rfl | ⟨o, x, rfl⟩
      · rw [show (!decide (([] : List Nat) = [])) = false from rfl]
        walk_at "v"
        refine fin 0 _ rfl (by omega) ?_
        walk_at "v"
        refine g_addL (by rw [List.length_map, List.length_map]; rw [List.length_map] at hfl; omega) ?_
        walk_at "v"
        rw [hadd]
        exact ⟨_, _, rfl, rfl⟩
      · rw [List.concat_eq_append] at *
        have hxm := hob x (by simp)
        have hfc : firstC (o ++ [x]) = x + 1 := by unfold firstC; rw [List.getLast?_concat]
        rw [show (!decide (o ++ [x] = [])) = true by simp]
        walk_at "v"
        refine g_ret1 (a := natD x) ixL_lastM ?_
        walk_at "v"
        rw [show ((x : Nat) : Int) + 1 = ((x + 1 : Nat) : Int) by omega]
        refine fin (x + 1) _ hfc.symm (by omega) ?_
        walk_at "v"
        refine g_addL (by rw [List.length_map, List.length_map]; rw [List.length_map] at hfl; omega) ?_
        walk_at "v"
        rw [hadd]
        exact ⟨_, _, rfl, rfl⟩
    · rintro e fu2 ⟨x5, x6, rfl, rfl⟩
      rw [List.length_map, Nat.zero_add, List.take_length, ← e1]
      walk_at "v"
      exact ⟨_, _, _, _, rfl, rfl, by omega⟩
  · rintro e fu' ⟨x3, x4, x5, x6, rfl, rfl, hks⟩
    rw [rngD_len (by omega), Int.toNat_natCast, Nat.zero_add]
    walk_at "v"
    exact q
end
section
variable {env : Env} {fu : Nat} {E : Nat → Er → Prop} {QO : Nat → Out → Prop} {QD Q : Nat → D → Prop} {QL : Nat → List D → Prop} {d x y z : D} {ds es : List D} {k n : Nat}
theorem getD_lt {O : List Nat} {k : Nat} (h : k < O.length) : O[k]? = some (O.getD k 0) := by
  rw [List.getD_eq_getElem?_getD, List.getElem?_eq_getElem h]; rfl
theorem spB_getD {L O one : List Nat} (h : ∀ k ∈ one, k < O.length) : spB L O one = decide (one.map (fun k => O.getD k 0) = L) := by
  unfold spB
  have e : one.map (fun k => O[k]?) = (one.map fun k => O.getD k 0).map some := by
    rw [List.map_map]; exact List.map_congr_left fun k hk => getD_lt (h k hk)
  rw [e, Bool.eq_iff_iff, decide_eq_true_eq, decide_eq_true_eq]
  constructor
  · intro z
    have := congrArg (fun l : List (Option Nat) => l.map (fun o => o.getD 0)) z
    simpa [List.map_map, Function.comp_def] using this
  · intro z; rw [z]
theorem a_law_spelled {L O : List Nat} (hL : ∀ c ∈ L, LetOk c) (hLl : L.length ≤ 8) (hO : ∀ c ∈ O, LetOk c) (hOl : O.length ≤ 8) (q : QD fu (placesD (spellL L O))) : (F_law_spelled [routeD L, routeD O]).go fu QD E := by
  rw [← spell_first] at q
  have hmem := fun e => (ch_mem (many := O.length) L.length e).mp
  have hcl := ch_len hOl hLl
  rw [show routeD L = .tuple (L.map letD) from rfl, show routeD O = .tuple (O.map letD) from rfl]
  refine g_def rfl ?_
  unfold B_law_spelled
  walk_at "v"
  rw [List.length_map, List.length_map]
  refine a_law_choices hOl hLl ?_
  generalize chL O.length L.length = ls at q hmem hcl ⊢
  walk_at "v"
  refine g_loopI (fun j fu' e => ∃ x2 : Option DV, e = [some (.val (.tuple (L.map letD))), some (.val (.tuple (O.map letD))), x2, none] ∧ fu' = fu ∧ ∀ o ∈ ls.take j, spB L O o = false) _ 0 _ _ ⟨none, rfl, rfl, fun o ho => (nomatch ho)⟩ ?_ ?_
  · rintro j d e fu' hj hd ⟨x2, rfl, rfl, hno⟩
    rw [Nat.sub_zero, List.getElem?_map, Option.map_eq_some_iff] at hd
    obtain ⟨one, hone, rfl⟩ := hd
    have hj1 := (List.getElem?_eq_some_iff.mp hone).1
    obtain ⟨hol, _, hob⟩ := hmem one (List.mem_of_getElem? hone)
    have hsp := spB_getD (L := L) hob
    refine g_body ?_
    walk_at "v"
    refine g_comp ?_
    walk_at "v"
    refine g_compM natD (fun k => letD (O.getD k 0)) (fun c hc fu QX hq => g_item ?_) ?_
    · walk_at "v"
      refine g_ixI (d := letD (O.getD c 0)) (by omega) (by rw [Int.toNat_natCast, List.getElem?_map, getD_lt (hob c hc)]; rfl) ?_
      walk_at "v"
      exact hq
    walk_at "v"
    rw [show (one.map fun k => letD (O.getD k 0)) = (one.map fun k => O.getD k 0).map letD by rw [List.map_map]; rfl]
    refine g_eqLets (fun c hc => ?_) hL ?_
    · obtain ⟨k, hk, rfl⟩ := List.mem_map.mp hc
      exact hO _ (List.mem_of_getElem? (getD_lt (hob k hk)))
    rw [← hsp]
    walk_at "v"
    have hfs : ls.take (j + 1) = ls.take j ++ [one] := by rw [List.take_add_one, hone]; rfl
    refine v_cb (fun e => ?_) (fun e => ?_)
    · walk_at "v"
      have hf : ls.find? (spB L O) = some one := by
        have e3 : ls = ls.take (j + 1) ++ ls.drop (j + 1) := (List.take_append_drop _ _).symm
        rw [e3, hfs, List.append_assoc, List.find?_append, List.find?_eq_none.mpr (fun x hx => by rw [hno x hx]; simp)]
        simp [e]
      rw [hf] at q
      exact q
    · walk_at "v"
      first | refine ⟨_, rfl, rfl, fun o ho => ?_⟩ | refine ⟨rfl, fun o ho => ?_⟩ | refine fun o ho => ?_
      rw [hfs] at ho
      rcases List.mem_append.mp ho with ho | ho
      · exact hno o ho
      · rw [List.mem_singleton.mp ho]; exact e
  · rintro e fu' ⟨x2, rfl, rfl, hno⟩
    rw [List.length_map, Nat.zero_add, List.take_length] at hno
    rw [List.find?_eq_none.mpr (fun x hx => by rw [hno x hx]; simp)] at q
    walk_at "v"
    exact q
theorem cut_mapS {α β : Type} (f : α → β) (xs : List α) (a b : Option Int) : cutD (xs.map f) a b = (cutD xs a b).map f := by
  unfold cutD
  rw [List.length_map, List.map_take, List.map_drop]
theorem cut_lenS {α : Type} (xs : List α) (a b : Option Int) : (cutD xs a b).length ≤ xs.length := by
  unfold cutD
  rw [List.length_take, List.length_drop]; omega
theorem cut_memS {α : Type} {xs : List α} {a b : Option Int} {x : α} (h : x ∈ cutD xs a b) : x ∈ xs := by
  unfold cutD at h
  exact List.mem_of_mem_drop (List.mem_of_mem_take h)
theorem cut8 {α : Type} (xs : List α) : (cutD xs none (some 8)).length ≤ 8 := by
  unfold cutD
  rw [List.length_take]
  have : HT.sIx xs.length xs.length (some 8) ≤ 8 := by
    show (if (8 : Int) < 0 then ((8 : Int) + (xs.length : Int)).toNat else min (8 : Int).toNat xs.length) ≤ 8
    rw [if_neg (by omega)]; omega
  omega
theorem d00 : decide ((0 : Int) = 0) = true := rfl
theorem d01 : decide ((0 : Int) = 1) = false := rfl
theorem d02 : decide ((0 : Int) = 2) = false := rfl
theorem d10 : decide ((1 : Int) = 0) = false := rfl
theorem d11 : decide ((1 : Int) = 1) = true := rfl
theorem d12 : decide ((1 : Int) = 2) = false := rfl
theorem d20 : decide ((2 : Int) = 0) = false := rfl
theorem d21 : decide ((2 : Int) = 1) = false := rfl
theorem d22 : decide ((2 : Int) = 2) = true := rfl
theorem a_law_other {r : List Nat} (hr : RouteOk r) (hf : 20 ≤ fu) (q : ∀ o fu', fu ≤ fu' + 20 → RouteOk o → QD fu' (routeD o)) : (F_law_other [deckD, routeD r]).go fu QD E := by
  have hrl := hr.len
  rw [show routeD r = .tuple (r.map letD) from rfl]
  refine g_def rfl ?_
  unfold B_law_other
  walk_at "v"
  refine gs_draw6 (by omega) (by omega) (by omega) fun i f1 e1 a1 b1 => ?_
  walk_at "v"
  refine ⟨0, i, .inl ⟨rfl, rfl⟩, rng_okI (by omega) (by omega), ?_⟩
  refine g_loopI (fun k fu' e => ∃ (l : List Nat) (x3 x4 x5 : Option DV), e = [some (.val deckD), some (.val (.tuple (r.map letD))), some (.val (.list (l.map letD))), x3, x4, x5] ∧ l.length ≤ 10 * 4 ^ k ∧ (∀ c ∈ l, LetOk c) ∧ f1 ≤ fu' + 3 * k ∧ k ≤ i.toNat) _ 0 _ _ ⟨r, none, none, none, rfl, by omega, hr.lets, by omega, by omega⟩ ?_ ?_
  · rintro k d e fu' hk hd ⟨l, x3, x4, x5, rfl, hll, hlo, hfu', hki⟩
    rw [Nat.sub_zero] at hd
    obtain ⟨hk1, rfl⟩ := rngD_get hd
    have hp : 4 ^ k ≤ 4 ^ 3 := Nat.pow_le_pow_right (by omega) (by omega)
    have hp1 : 1 ≤ 4 ^ k := Nat.pos_of_ne_zero (by simp)
    have hps : 4 ^ (k + 1) = 4 * 4 ^ k := by rw [Nat.pow_succ, Nat.mul_comm]
    generalize 4 ^ k = B at hll hp hp1 hps
    refine g_body ?_
    walk_at "v"
    rw [List.length_map]
    refine gs_draw6 (by omega) (by omega) (by omega) fun i1 f2 e2 a2 b2 => ?_
    walk_at "v"
    refine gs_draw6 (by omega) (by omega) (by omega) fun i2 f3 e3 a3 b3 => ?_
    have c1 := cut_lenS l none (some i1)
    have c2 := cut_lenS l (some (i1 + 1)) none
    have c3 := cut_lenS l (some i1) none
    have c4 := cut_lenS l (some i1) (some (i1 + 2))
    have c5 := cut_lenS l (some (i1 + 2)) none
    have hi2 : i2 = 0 ∨ i2 = 1 ∨ i2 = 2 := by omega
    rcases hi2 with rfl | rfl | rfl
    · walk_at "v"
      rw [d00]
      walk_at "v"
      rw [cut_mapS, cut_mapS]
      refine g_addL (by rw [List.length_map, List.length_map]; omega) ?_
      walk_at "v"
      rw [d01]
      walk_at "v"
      rw [d02]
      walk_at "v"
      rw [← List.map_append]
      refine ⟨_, _, _, _, rfl, by rw [List.length_append]; omega, fun c hc => ?_, by omega, by omega⟩
      rcases List.mem_append.mp hc with hc | hc <;> exact hlo c (cut_memS hc)
    · walk_at "v"
      rw [d10]
      walk_at "v"
      rw [d11]
      walk_at "v"
      refine gs_draw6 (by omega) (by omega) (by omega) fun i4 f4 e4 a4 b4 => ?_
      walk_at "v"
      obtain ⟨c, ec, hc⟩ := four (i := i4.toNat) (by omega)
      rw [show i4 = ((i4.toNat : Nat) : Int) by omega]
      refine g_ixSt (by decide) ec ?_
      walk_at "v"
      rw [cut_mapS]
      refine g_addL (by rw [List.length_map]; simp only [List.length_cons, List.length_nil]; omega) ?_
      walk_at "v"
      rw [cut_mapS]
      refine g_addL (by rw [List.length_append, List.length_map, List.length_map]; simp only [List.length_cons, List.length_nil]; omega) ?_
      walk_at "v"
      rw [d12]
      walk_at "v"
      rw [show [PyData.str { cps := #[c] }] = [c].map letD from rfl, ← List.map_append, ← List.map_append]
      refine ⟨_, _, _, _, rfl, by rw [List.length_append, List.length_append, List.length_singleton]; omega, fun c hc => ?_, by omega, by omega⟩
      rcases List.mem_append.mp hc with hc | hc
      · rcases List.mem_append.mp hc with hc | hc
        · exact hlo c (cut_memS hc)
        · rw [List.mem_singleton.mp hc]; assumption
      · exact hlo c (cut_memS hc)
    · walk_at "v"
      rw [d20]
      walk_at "v"
      rw [d21]
      walk_at "v"
      rw [d22]
      walk_at "v"
      refine g_revLV ?_
      walk_at "v"
      rw [cut_mapS, cut_mapS, ← List.map_reverse]
      refine g_addL (by rw [List.length_map, List.length_map, List.length_reverse]; omega) ?_
      walk_at "v"
      rw [cut_mapS, ← List.map_append]
      refine g_addL (by rw [List.length_map, List.length_map, List.length_append, List.length_reverse]; omega) ?_
      walk_at "v"
      rw [← List.map_append]
      refine ⟨_, _, _, _, rfl, by rw [List.length_append, List.length_append, List.length_reverse]; omega, fun c hc => ?_, by omega, by omega⟩
      rcases List.mem_append.mp hc with hc | hc
      · rcases List.mem_append.mp hc with hc | hc
        · exact hlo c (cut_memS hc)
        · exact hlo c (cut_memS (List.mem_reverse.mp hc))
      · exact hlo c (cut_memS hc)
  · rintro e fu' ⟨l, x3, x4, x5, rfl, hll, hlo, hfu', hki⟩
    rw [rngD_len (by omega)] at hfu'
    walk_at "v"
    rw [cut_mapS]
    exact q (cutD l none (some 8)) fu' (by omega) ⟨cut8 l, fun c hc => hlo c (cut_memS hc)⟩
theorem tb1 : tab_PaperError "TooMany" = some true := by decide +kernel
theorem tb2 : itab_TooMany "TooMany" = some true := by decide +kernel
theorem tb3 : tab_PaperError "BadRoute" = some true := by decide +kernel
theorem tb4 : itab_TooMany "BadRoute" = some false := by decide +kernel
theorem j1 {a : List Nat} (h : ∀ r ∈ [a], RouteOk r) (q : QD fu (if (red [a].flatten).length ≤ 8 then routeD (red [a].flatten) else .bool true)) : (F_law_joined [.list [routeD a]]).go fu QD E := by
  refine g_def rfl ?_
  unfold B_law_joined
  walk_at "v"
  refine g_tryL ?_
  walk_at "v"
  refine g_callS ?_
  walk_at "v"
  refine ⟨by simp, ?_⟩
  refine a_joined (rs := [a]) h (by simp) (fun z => ?_) (fun z => ?_)
  · rw [if_pos z] at q
    walk_at "v"
    refine g_tlN ?_
    walk_at "v"
    exact q
  · rw [if_neg (by omega)] at q
    walk_at "v"
    refine g_tlX tb1 ?_
    walk_at "v"
    refine g_isiE ?_
    walk_at "v"
    refine g_isiX tb2 ?_
    walk_at "v"
    refine g_loN ?_
    walk_at "v"
    exact q
theorem j2 {a b : List Nat} (h : ∀ r ∈ [a, b], RouteOk r) (q : QD fu (if (red [a, b].flatten).length ≤ 8 then routeD (red [a, b].flatten) else .bool true)) : (F_law_joined [.list [routeD a, routeD b]]).go fu QD E := by
  refine g_def rfl ?_
  unfold B_law_joined
  walk_at "v"
  refine g_tryL ?_
  walk_at "v"
  refine g_callS ?_
  walk_at "v"
  refine ⟨by simp, ?_⟩
  refine a_joined (rs := [a, b]) h (by simp) (fun z => ?_) (fun z => ?_)
  · rw [if_pos z] at q
    walk_at "v"
    refine g_tlN ?_
    walk_at "v"
    exact q
  · rw [if_neg (by omega)] at q
    walk_at "v"
    refine g_tlX tb1 ?_
    walk_at "v"
    refine g_isiE ?_
    walk_at "v"
    refine g_isiX tb2 ?_
    walk_at "v"
    refine g_loN ?_
    walk_at "v"
    exact q
theorem j3 {a b c : List Nat} (h : ∀ r ∈ [a, b, c], RouteOk r) (q : QD fu (if (red [a, b, c].flatten).length ≤ 8 then routeD (red [a, b, c].flatten) else .bool true)) : (F_law_joined [.list [routeD a, routeD b, routeD c]]).go fu QD E := by
  refine g_def rfl ?_
  unfold B_law_joined
  walk_at "v"
  refine g_tryL ?_
  walk_at "v"
  refine g_callS ?_
  walk_at "v"
  refine ⟨by simp, ?_⟩
  refine a_joined (rs := [a, b, c]) h (by simp) (fun z => ?_) (fun z => ?_)
  · rw [if_pos z] at q
    walk_at "v"
    refine g_tlN ?_
    walk_at "v"
    exact q
  · rw [if_neg (by omega)] at q
    walk_at "v"
    refine g_tlX tb1 ?_
    walk_at "v"
    refine g_isiE ?_
    walk_at "v"
    refine g_isiX tb2 ?_
    walk_at "v"
    refine g_loN ?_
    walk_at "v"
    exact q
theorem j4 {a b c d : List Nat} (h : ∀ r ∈ [a, b, c, d], RouteOk r) (q : QD fu (if (red [a, b, c, d].flatten).length ≤ 8 then routeD (red [a, b, c, d].flatten) else .bool true)) : (F_law_joined [.list [routeD a, routeD b, routeD c, routeD d]]).go fu QD E := by
  refine g_def rfl ?_
  unfold B_law_joined
  walk_at "v"
  refine g_tryL ?_
  walk_at "v"
  refine g_callS ?_
  walk_at "v"
  refine ⟨by simp, ?_⟩
  refine a_joined (rs := [a, b, c, d]) h (by simp) (fun z => ?_) (fun z => ?_)
  · rw [if_pos z] at q
    walk_at "v"
    refine g_tlN ?_
    walk_at "v"
    exact q
  · rw [if_neg (by omega)] at q
    walk_at "v"
    refine g_tlX tb1 ?_
    walk_at "v"
    refine g_isiE ?_
    walk_at "v"
    refine g_isiX tb2 ?_
    walk_at "v"
    refine g_loN ?_
    walk_at "v"
    exact q
theorem jb2 {a b : List Nat} {y : D} (h : ∀ r ∈ [a, b], RouteOk r) (hb : okN 5 y = true) (hn : isRoute y = false) (q : QD fu (.bool false)) : (F_law_joined [.list [routeD a, routeD b, y]]).go fu QD E := by
  refine g_def rfl ?_
  unfold B_law_joined
  walk_at "v"
  refine g_tryL ?_
  walk_at "v"
  refine g_callS ?_
  walk_at "v"
  refine ⟨by simp, ?_⟩
  refine e_joined (rs := [a, b]) h (by simp) hb hn ?_
  walk_at "v"
  refine g_tlX tb3 ?_
  walk_at "v"
  refine g_isiE ?_
  walk_at "v"
  refine g_isiX tb4 ?_
  walk_at "v"
  refine g_loN ?_
  walk_at "v"
  exact q
theorem jb3 {a b c : List Nat} {y : D} (h : ∀ r ∈ [a, b, c], RouteOk r) (hb : okN 5 y = true) (hn : isRoute y = false) (q : QD fu (.bool false)) : (F_law_joined [.list [routeD a, routeD b, routeD c, y]]).go fu QD E := by
  refine g_def rfl ?_
  unfold B_law_joined
  walk_at "v"
  refine g_tryL ?_
  walk_at "v"
  refine g_callS ?_
  walk_at "v"
  refine ⟨by simp, ?_⟩
  refine e_joined (rs := [a, b, c]) h (by simp) hb hn ?_
  walk_at "v"
  refine g_tlX tb3 ?_
  walk_at "v"
  refine g_isiE ?_
  walk_at "v"
  refine g_isiX tb4 ?_
  walk_at "v"
  refine g_loN ?_
  walk_at "v"
  exact q
end
section
variable {env : Env} {fu : Nat} {E : Nat → Er → Prop} {QO : Nat → Out → Prop} {QD Q : Nat → D → Prop} {QL : Nat → List D → Prop} {d x y z : D} {ds es : List D} {k n : Nat}
theorem ne_selfS {d : D} (h : SeqAt.shaped d = true) (hs : strEq d d = none) : gNe d d = .ret (.bool false) := by
  rw [strNe_none hs h h, SeqAt.eqv_refl _ (SeqAt.canLay_of_shaped h)]; rfl
theorem eq_selfS {d : D} (h : SeqAt.shaped d = true) (hs : strEq d d = none) : gEq d d = .ret (.bool true) := by
  rw [strEq_none hs h h, SeqAt.eqv_refl _ (SeqAt.canLay_of_shaped h)]
theorem g_neRt {r : List Nat} (h : ∀ c ∈ r, LetOk c) (q : QD fu (.bool false)) : (gNe (routeD r) (routeD r)).go fu QD E := g_ret1 (ne_selfS (shaped_route h) rfl) q
theorem g_nePl {o : Option (List Nat)} (q : QD fu (.bool false)) : (gNe (placesD o) (placesD o)).go fu QD E := by
  cases o with
  | none => exact g_ret1 (a := .bool false) rfl q
  | some l => exact g_ret1 (ne_selfS (shaped_one l) rfl) q
theorem a_law_joined {rs : List (List Nat)} (h : ∀ r ∈ rs, RouteOk r) (h1 : 1 ≤ rs.length ∧ rs.length ≤ 4) (q : QD fu (if (red rs.flatten).length ≤ 8 then routeD (red rs.flatten) else .bool true)) : (F_law_joined [.list (rs.map routeD)]).go fu QD E := by
  match rs, h, h1, q with
  | [a], h, _, q => exact j1 h q
  | [a, b], h, _, q => exact j2 h q
  | [a, b, c], h, _, q => exact j3 h q
  | [a, b, c, d], h, _, q => exact j4 h q
  | [], _, h1, _ => exact absurd h1.1 (by simp)
  | _ :: _ :: _ :: _ :: _ :: _, _, h1, _ => exact absurd h1.2 (by simp)
theorem flat_len {rs : List (List Nat)} (h : ∀ r ∈ rs, RouteOk r) : rs.flatten.length ≤ 8 * rs.length := by
  induction rs with
  | nil => simp
  | cons a r ih =>
    have h1 := (h a List.mem_cons_self).len
    have h2 := ih fun x hx => h x (List.mem_cons_of_mem _ hx)
    rw [List.flatten_cons, List.length_append, List.length_cons]; omega
theorem flat_lets {rs : List (List Nat)} (h : ∀ r ∈ rs, RouteOk r) : ∀ c ∈ rs.flatten, LetOk c := fun c hc => by
  obtain ⟨r, hr, hc⟩ := List.mem_flatten.mp hc
  exact (h r hr).lets c hc
theorem g_isNotBS {a b : Bool} (h : QD fu (.bool (!decide (a = b)))) : (gIsNotA (.bool a) (.bool b)).go fu QD E := g_ret1 (a := .bool (!decide (a = b))) rfl h
/-- a pair's turn -/
theorem a_pair {r o : List Nat} (hr : RouteOk r) (ho : RouteOk o) {x0 x1 x2 x3 x4 x5 : Option DV} (x6 x7 x8 x9 x10 x11 x12 : Option DV)
    (q : ∀ x6 x7 x8 x9 : Option DV, QO fu (.nx [x0, x1, x2, x3, x4, x5, x6, x7, x8, x9, x10, x11, x12])) :
    (loopL (fun d e => ((tTup 2 (tCons (tName 6) (tCons (tName 7) tNil))) d e).bind (seqS (setS 8 (callF 2 F_law_spelled (consA (callF 1 F_law_reduced (consA (varD 6) nilA)) (consA (varD 7) nilA))))
    (seqS (ifS (orT (blT (bin gNe (callF 2 F_spelled_at (consA (varD 6) (consA (varD 7) nilA))) (varD 8))) (blT (bin gNe (callK 2 F_spelled_at [(false, 1), (false, 0)] nilA (consA (varD 7) (consA (varD 6) nilA))) (varD 8))))
    (retS (cD (.bool false)))
    passS)
    (seqS (setS 9 (callF 2 F_never_later (consA (varD 6) (consA (varD 7) nilA))))
    (ifS (orT (notT (truT (isiD "bool" (varD 9)))) (orT (blT (bin gNe (varD 9) (bin gIsNot (varD 8) (cD .none)))) (blT (bin gNe (callK 2 F_never_later [(false, 1), (false, 0)] nilA (consA (varD 7) (consA (varD 6) nilA))) (varD 9)))))
    (retS (cD (.bool false)))
    passS))))) [.tuple [routeD r, routeD o], .tuple [routeD o, routeD r]] [x0, x1, x2, x3, x4, x5, x6, x7, x8, x9, x10, x11, x12]).go fu QO E := by
  refine g_loopI (fun k fu' e => ∃ x6 x7 x8 x9 : Option DV, e = [x0, x1, x2, x3, x4, x5, x6, x7, x8, x9, x10, x11, x12] ∧ fu' = fu) _ 0 _ _ ⟨_, _, _, _, rfl, rfl⟩ ?_ ?_
  · rintro k d e fu' hk hd ⟨x6, x7, x8, x9, rfl, rfl⟩
    obtain ⟨a, b, ha, hb, rfl⟩ : ∃ a b, RouteOk a ∧ RouteOk b ∧ d = .tuple [routeD a, routeD b] := by
      have := List.mem_of_getElem? hd
      simp only [List.mem_cons, List.not_mem_nil, or_false] at this
      rcases this with rfl | rfl
      · exact ⟨r, o, hr, ho, rfl⟩
      · exact ⟨o, r, ho, hr, rfl⟩
    have hal := ha.len
    have hbl := hb.len
    have hrl := red_len a
    refine g_body ?_
    walk_at "v"
    refine a_law_reduced (by omega) ?_
    walk_at "v"
    refine a_law_spelled (lets_red ha.lets) (by omega) hb.lets (by omega) ?_
    walk_at "v"
    refine a_spelled_at ha hb ?_
    walk_at "v"
    refine g_nePl ?_
    walk_at "v"
    refine a_spelled_at ha hb ?_
    walk_at "v"
    refine g_nePl ?_
    walk_at "v"
    refine a_never_later ha hb ?_
    walk_at "v"
    rw [show (!isNonD (placesD (spellL (red a) b))) = (spellL (red a) b).isSome by cases spellL (red a) b <;> rfl]
    rw [show (!decide ((spellL (red a) b).isSome = (spellL (red a) b).isSome)) = false by simp]
    walk_at "v"
    refine a_never_later ha hb ?_
    walk_at "v"
    rw [show (!decide ((spellL (red a) b).isSome = (spellL (red a) b).isSome)) = false by simp]
    walk_at "v"
    exact ⟨_, _, _, _, rfl, rfl⟩
  · rintro e fu' ⟨x6, x7, x8, x9, rfl, rfl⟩
    exact q _ _ _ _
theorem a_whole {rs : List (List Nat)} (h : ∀ r ∈ rs, RouteOk r) (hl : rs.length ≤ 4) {x0 x1 x2 x3 x4 x5 : Option DV} (x6 x7 x8 x9 x10 x12 : Option DV)
    (q : ∀ x6 : Option DV, QO fu (.nx [x0, x1, x2, x3, x4, x5, x6, x7, x8, x9, x10, some (.val (routeD rs.flatten)), x12])) :
    (loopL (fun d e => ((tName 6) d e).bind (setS 11 (bin gAdd (varD 11) (varD 6)))) (rs.map routeD) [x0, x1, x2, x3, x4, x5, x6, x7, x8, x9, x10, some (.val (.tuple [])), x12]).go fu QO E := by
  have hfl := flat_len h
  refine g_loopI (fun k fu' e => ∃ x6 : Option DV, e = [x0, x1, x2, x3, x4, x5, x6, x7, x8, x9, x10, some (.val (.tuple ((rs.take k).flatten.map letD))), x12] ∧ fu' = fu) _ 0 _ _ ⟨_, rfl, rfl⟩ ?_ ?_
  · rintro k d e fu' hk hd ⟨x6, rfl, rfl⟩
    rw [Nat.sub_zero, List.getElem?_map, Option.map_eq_some_iff] at hd
    obtain ⟨r, hr, rfl⟩ := hd
    have hk1 := (List.getElem?_eq_some_iff.mp hr).1
    have hrl := (h r (List.mem_of_getElem? hr)).len
    have htl := flat_len (rs := rs.take k) fun x hx => h x (List.mem_of_mem_take hx)
    rw [List.length_take] at htl
    rw [show routeD r = .tuple (r.map letD) from rfl]
    refine g_body ?_
    walk_at "v"
    refine g_addT (by rw [List.length_map, List.length_map]; omega) ?_
    walk_at "v"
    rw [← List.map_append, show (rs.take k).flatten ++ r = (rs.take (k + 1)).flatten by rw [List.take_add_one, hr, List.flatten_append]; simp]
    exact ⟨_, rfl, rfl⟩
  · rintro e fu' ⟨x6, rfl, rfl⟩
    rw [List.length_map, Nat.zero_add, List.take_length]
    exact q _
theorem bads {i : Nat} (h : i < 4) : ∃ y : D, ([.none, .list [.str "a"], .tuple [.str "A"], .tuple (List.replicate 9 [PyData.str "+"]).flatten] : List D)[i]? = some y ∧ okN 5 y = true ∧ isRoute y = false := by
  have hc : i = 0 ∨ i = 1 ∨ i = 2 ∨ i = 3 := by omega
  rcases hc with rfl | rfl | rfl | rfl
  · exact ⟨_, rfl, by decide +kernel, by decide +kernel⟩
  · exact ⟨_, rfl, by decide +kernel, by decide +kernel⟩
  · exact ⟨_, rfl, by decide +kernel, by decide +kernel⟩
  · exact ⟨_, rfl, by decide +kernel, by decide +kernel⟩
theorem rt_nil : RouteOk [] := ⟨by simp, fun c hc => (nomatch hc)⟩
theorem turn {x0 : Option DV} {i : Int} (x3 x4 x5 x6 x7 x8 x9 x10 x11 x12 : Option DV) (hf : 200 ≤ fu)
    (q : ∀ (x3 x4 x5 x6 x7 x8 x9 x10 x11 x12 : Option DV) fu', fu ≤ fu' + 200 → QO fu' (.nx [x0, some (.val deckD), some (.val (.int i)), x3, x4, x5, x6, x7, x8, x9, x10, x11, x12])) :
    ((seqS (setS 3 (callF 2 F_law_letters (consA (varD 1) (consA (cD (.int 8)) nilA))))
    (seqS (setS 4 (bin gIx (lstD (dispL (consA (callF 2 F_law_other (consA (varD 1) (consA (varD 3) nilA))) (consA (callF 2 F_law_letters (consA (varD 1) (consA (cD (.int 8)) nilA))) nilA)))) (callF 2 F_law_draw (consA (varD 1) (consA (cD (.int 2)) nilA)))))
    (seqS (setS 5 (callF 1 F_law_reduced (consA (varD 3) nilA)))
    (seqS (ifS (orT (blT (bin gNe (callF 1 F_reduced (consA (varD 3) nilA)) (varD 5))) (blT (bin gNe (callK 1 F_reduced [(false, 0)] nilA (consA (varD 4) nilA)) (callF 1 F_law_reduced (consA (varD 4) nilA)))))
    (retS (cD (.bool false)))
    passS)
    (seqS (forS (iterF (lstD (dispL (consA (tupD (consA (varD 3) (consA (varD 4) nilA))) (consA (tupD (consA (varD 4) (consA (varD 3) nilA))) nilA))))) (tTup 2 (tCons (tName 6) (tCons (tName 7) tNil)))
    (seqS (setS 8 (callF 2 F_law_spelled (consA (callF 1 F_law_reduced (consA (varD 6) nilA)) (consA (varD 7) nilA))))
    (seqS (ifS (orT (blT (bin gNe (callF 2 F_spelled_at (consA (varD 6) (consA (varD 7) nilA))) (varD 8))) (blT (bin gNe (callK 2 F_spelled_at [(false, 1), (false, 0)] nilA (consA (varD 7) (consA (varD 6) nilA))) (varD 8))))
    (retS (cD (.bool false)))
    passS)
    (seqS (setS 9 (callF 2 F_never_later (consA (varD 6) (consA (varD 7) nilA))))
    (ifS (orT (notT (truT (isiD "bool" (varD 9)))) (orT (blT (bin gNe (varD 9) (bin gIsNot (varD 8) (cD .none)))) (blT (bin gNe (callK 2 F_never_later [(false, 1), (false, 0)] nilA (consA (varD 7) (consA (varD 6) nilA))) (varD 9)))))
    (retS (cD (.bool false)))
    passS)))))
    (seqS (setS 10 (slD gSl (lstD (dispL (consA (varD 3) (consA (varD 4) (consA (callF 2 F_law_letters (consA (varD 1) (consA (cD (.int 3)) nilA))) (consA (callF 2 F_law_letters (consA (varD 1) (consA (cD (.int 2)) nilA))) nilA)))))) noPart (part (bin gAdd (cD (.int 1)) (callF 2 F_law_draw (consA (varD 1) (consA (cD (.int 4)) nilA)))))))
    (seqS (setS 11 (tupD nilA))
    (seqS (forS (iterF (varD 10)) (tName 6)
    (setS 11 (bin gAdd (varD 11) (varD 6))))
    (seqS (setS 8 (callF 1 F_law_reduced (consA (varD 11) nilA)))
    (seqS (ifS (blT (bin gNe (callF 1 F_law_joined (consA (varD 10) nilA)) (ifD (blT (bin gLe (callD gLen (consA (varD 8) nilA)) (cD (.int 8)))) (varD 8) (cD (.bool true)))))
    (retS (cD (.bool false)))
    passS)
    (seqS (setS 12 (bin gIx (lstD (dispL (consA (cD .none) (consA (lstD (dispL (consA (cD (.str "a")) nilA))) (consA (tupD (consA (cD (.str "A")) nilA)) (consA (bin gMulA (tupD (consA (cD (.str "+")) nilA)) (cD (.int 9))) nilA)))))) (callF 2 F_law_draw (consA (varD 1) (consA (cD (.int 4)) nilA)))))
    (ifS (orT (blT (bin gIsNotA (callF 1 F_law_joined (consA (lstD (dispL (consA (varD 3) (consA (varD 4) (consA (varD 12) nilA))))) nilA)) (cD (.bool false)))) (blT (bin gIsNotA (callF 1 F_law_joined (consA (lstD (dispL (consA (varD 3) (consA (varD 4) (consA (tupD nilA) (consA (varD 12) nilA)))))) nilA)) (cD (.bool false)))))
    (retS (cD (.bool false)))
    passS)))))))))))) [x0, some (.val deckD), some (.val (.int i)), x3, x4, x5, x6, x7, x8, x9, x10, x11, x12]).go fu QO E := by
  walk_at "v"
  refine a_law_letters (m := 8) (by omega) (by omega) fun r f1 e1 hr1 hr2 => ?_
  have hr : RouteOk r := ⟨hr1, hr2⟩
  walk_at "v"
  refine a_law_other hr (by omega) fun o1 f2 e2 ho1 => ?_
  walk_at "v"
  refine a_law_letters (m := 8) (by omega) (by omega) fun o2 f3 e3 h1 h2 => ?_
  have ho2 : RouteOk o2 := ⟨h1, h2⟩
  walk_at "v"
  refine gs_draw6 (by omega) (by omega) (by omega) fun i1 f4 e4 a4 b4 => ?_
  walk_at "v"
  obtain ⟨o, eo, ho⟩ : ∃ o, ([routeD o1, routeD o2] : List D)[i1.toNat]? = some (routeD o) ∧ RouteOk o := by
    have : i1 = 0 ∨ i1 = 1 := by omega
    rcases this with r | r <;> subst r
    · exact ⟨o1, rfl, ho1⟩
    · exact ⟨o2, rfl, ho2⟩
  refine g_ixI a4 eo ?_
  clear h1 h2
  have hrl := hr.len
  have hol := ho.len
  walk_at "v"
  refine a_law_reduced (by omega) ?_
  walk_at "v"
  refine a_reduced hr ?_
  walk_at "v"
  refine g_neRt (lets_red hr.lets) ?_
  walk_at "v"
  refine a_reduced ho ?_
  walk_at "v"
  refine a_law_reduced (by omega) ?_
  walk_at "v"
  refine g_neRt (lets_red ho.lets) ?_
  walk_at "v"
  refine a_pair hr ho _ _ _ _ _ _ _ fun x6 x7 x8 x9 => ?_
  walk_at "v"
  refine a_law_letters (m := 3) (by omega) (by omega) fun r3 f5 e5 h1 h2 => ?_
  have h3 : RouteOk r3 := ⟨by omega, h2⟩
  walk_at "v"
  refine a_law_letters (m := 2) (by omega) (by omega) fun r4 f6 e6 h5 h6 => ?_
  have h4 : RouteOk r4 := ⟨by omega, h6⟩
  walk_at "v"
  refine gs_draw6 (by omega) (by omega) (by omega) fun i2 f7 e7 a7 b7 => ?_
  walk_at "v"
  obtain ⟨rs, ers, hrs, hl⟩ : ∃ rs : List (List Nat), cutD [routeD r, routeD o, routeD r3, routeD r4] none (some (1 + i2)) = rs.map routeD ∧ (∀ r ∈ rs, RouteOk r) ∧ 1 ≤ rs.length ∧ rs.length ≤ 4 := by
    have all : ∀ z ∈ [r, o, r3, r4], RouteOk z := fun z hz => by
      simp only [List.mem_cons, List.not_mem_nil, or_false] at hz
      rcases hz with rfl | rfl | rfl | rfl
      · exact hr
      · exact ho
      · exact h3
      · exact h4
    refine ⟨[r, o, r3, r4].take (1 + i2).toNat, ?_, fun z hz => all z (List.mem_of_mem_take hz), ?_, ?_⟩
    · have : i2 = 0 ∨ i2 = 1 ∨ i2 = 2 ∨ i2 = 3 := by omega
      rcases this with r | r | r | r <;> subst r <;> rfl
    · rw [List.length_take]; simp only [List.length_cons, List.length_nil]; omega
    · rw [List.length_take]; simp only [List.length_cons, List.length_nil]; omega
  rw [ers]
  walk_at "v"
  refine a_whole hrs hl.2 _ _ _ _ _ _ fun x6 => ?_
  walk_at "v"
  have hfl := flat_len hrs
  have hfr := red_len rs.flatten
  refine a_law_reduced (by omega) ?_
  walk_at "v"
  refine a_law_joined hrs hl ?_
  rw [show routeD (red rs.flatten) = .tuple ((red rs.flatten).map letD) from rfl]
  walk_at "v"
  rw [List.length_map]
  have rest : ∀ (x8 x10 x11 : Option DV), ((seqS (setS 12 (bin gIx (lstD (dispL (consA (cD .none) (consA (lstD (dispL (consA (cD (.str "a")) nilA))) (consA (tupD (consA (cD (.str "A")) nilA)) (consA (bin gMulA (tupD (consA (cD (.str "+")) nilA)) (cD (.int 9))) nilA)))))) (callF 2 F_law_draw (consA (varD 1) (consA (cD (.int 4)) nilA)))))
    (ifS (orT (blT (bin gIsNotA (callF 1 F_law_joined (consA (lstD (dispL (consA (varD 3) (consA (varD 4) (consA (varD 12) nilA))))) nilA)) (cD (.bool false)))) (blT (bin gIsNotA (callF 1 F_law_joined (consA (lstD (dispL (consA (varD 3) (consA (varD 4) (consA (tupD nilA) (consA (varD 12) nilA)))))) nilA)) (cD (.bool false)))))
    (retS (cD (.bool false)))
    passS)) [x0, some (.val deckD), some (.val (.int i)), some (.val (routeD r)), some (.val (routeD o)), some (.val (routeD (red r))), x6, x7, x8, x9, x10, x11, x12]).go f7 QO E := by
    intro x8 x10 x11
    walk_at "v"
    refine g_mulT ⟨by simp, by omega, by omega, by simp⟩ ?_
    walk_at "v"
    refine gs_draw6 (by omega) (by omega) (by omega) fun i3 f8 e8 a8 b8 => ?_
    walk_at "v"
    obtain ⟨y, ey, hy1, hy2⟩ := bads (i := i3.toNat) (by omega)
    refine g_ixI a8 ey ?_
    walk_at "v"
    refine jb2 (a := r) (b := o) (fun z hz => ?_) hy1 hy2 ?_
    · simp only [List.mem_cons, List.not_mem_nil, or_false] at hz
      rcases hz with rfl | rfl
      · exact hr
      · exact ho
    walk_at "v"
    refine g_isNotBS ?_
    walk_at "v"
    rw [show (PyData.tuple [] : D) = routeD [] from rfl]
    refine jb3 (a := r) (b := o) (c := []) (fun z hz => ?_) hy1 hy2 ?_
    · simp only [List.mem_cons, List.not_mem_nil, or_false] at hz
      rcases hz with rfl | rfl | rfl
      · exact hr
      · exact ho
      · exact rt_nil
    walk_at "v"
    refine g_isNotBS ?_
    walk_at "v"
    exact q _ _ _ _ _ _ _ _ _ _ _ (by omega)
  generalize (seqS (setS 12 (bin gIx (lstD (dispL (consA (cD .none) (consA (lstD (dispL (consA (cD (.str "a")) nilA))) (consA (tupD (consA (cD (.str "A")) nilA)) (consA (bin gMulA (tupD (consA (cD (.str "+")) nilA)) (cD (.int 9))) nilA)))))) (callF 2 F_law_draw (consA (varD 1) (consA (cD (.int 4)) nilA)))))
    (ifS (orT (blT (bin gIsNotA (callF 1 F_law_joined (consA (lstD (dispL (consA (varD 3) (consA (varD 4) (consA (varD 12) nilA))))) nilA)) (cD (.bool false)))) (blT (bin gIsNotA (callF 1 F_law_joined (consA (lstD (dispL (consA (varD 3) (consA (varD 4) (consA (tupD nilA) (consA (varD 12) nilA)))))) nilA)) (cD (.bool false)))))
    (retS (cD (.bool false)))
    passS)) = RS at rest ⊢
  by_cases z : (red rs.flatten).length ≤ 8
  · rw [decide_eq_true (show ((red rs.flatten).length : Int) ≤ 8 by omega), if_pos z]
    walk_at "v"
    rw [show PyData.tuple ((red rs.flatten).map letD) = routeD (red rs.flatten) from rfl]
    refine g_neRt (lets_red (flat_lets hrs)) ?_
    walk_at "v"
    exact rest _ _ _
  · rw [decide_eq_false (show ¬ ((red rs.flatten).length : Int) ≤ 8 by omega), if_neg z]
    walk_at "v"
    exact rest _ _ _
theorem ltA : (PyData.str "a" : D) = letD 97 := congrArg PyData.str (show ("a" : Str) = nameS 97 by decide +kernel)
theorem rtA : RouteOk [97] := ⟨by simp, fun c hc => by rw [List.mem_singleton.mp hc]; exact .inr ⟨by omega, by omega⟩⟩
theorem law_go (ns : List Int) (h : ns.length ≤ 63) : (F_law [scrD ns]).go 576460752303423488 (fun _ d => d = .bool true) (fun _ _ => False) := by
  refine g_def rfl ?_
  unfold B_law
  have tn := fun (i : Int) (fu : Nat) (Q2 : Nat → Out → Prop) (E2 : Nat → Er → Prop) (x0 x3 x4 x5 x6 x7 x8 x9 x10 x11 x12 : Option DV) hf => turn (QO := Q2) (E := E2) (fu := fu) (x0 := x0) (i := i) x3 x4 x5 x6 x7 x8 x9 x10 x11 x12 hf
  generalize (seqS (setS 3 (callF 2 F_law_letters (consA (varD 1) (consA (cD (.int 8)) nilA))))
    (seqS (setS 4 (bin gIx (lstD (dispL (consA (callF 2 F_law_other (consA (varD 1) (consA (varD 3) nilA))) (consA (callF 2 F_law_letters (consA (varD 1) (consA (cD (.int 8)) nilA))) nilA)))) (callF 2 F_law_draw (consA (varD 1) (consA (cD (.int 2)) nilA)))))
    (seqS (setS 5 (callF 1 F_law_reduced (consA (varD 3) nilA)))
    (seqS (ifS (orT (blT (bin gNe (callF 1 F_reduced (consA (varD 3) nilA)) (varD 5))) (blT (bin gNe (callK 1 F_reduced [(false, 0)] nilA (consA (varD 4) nilA)) (callF 1 F_law_reduced (consA (varD 4) nilA)))))
    (retS (cD (.bool false)))
    passS)
    (seqS (forS (iterF (lstD (dispL (consA (tupD (consA (varD 3) (consA (varD 4) nilA))) (consA (tupD (consA (varD 4) (consA (varD 3) nilA))) nilA))))) (tTup 2 (tCons (tName 6) (tCons (tName 7) tNil)))
    (seqS (setS 8 (callF 2 F_law_spelled (consA (callF 1 F_law_reduced (consA (varD 6) nilA)) (consA (varD 7) nilA))))
    (seqS (ifS (orT (blT (bin gNe (callF 2 F_spelled_at (consA (varD 6) (consA (varD 7) nilA))) (varD 8))) (blT (bin gNe (callK 2 F_spelled_at [(false, 1), (false, 0)] nilA (consA (varD 7) (consA (varD 6) nilA))) (varD 8))))
    (retS (cD (.bool false)))
    passS)
    (seqS (setS 9 (callF 2 F_never_later (consA (varD 6) (consA (varD 7) nilA))))
    (ifS (orT (notT (truT (isiD "bool" (varD 9)))) (orT (blT (bin gNe (varD 9) (bin gIsNot (varD 8) (cD .none)))) (blT (bin gNe (callK 2 F_never_later [(false, 1), (false, 0)] nilA (consA (varD 7) (consA (varD 6) nilA))) (varD 9)))))
    (retS (cD (.bool false)))
    passS)))))
    (seqS (setS 10 (slD gSl (lstD (dispL (consA (varD 3) (consA (varD 4) (consA (callF 2 F_law_letters (consA (varD 1) (consA (cD (.int 3)) nilA))) (consA (callF 2 F_law_letters (consA (varD 1) (consA (cD (.int 2)) nilA))) nilA)))))) noPart (part (bin gAdd (cD (.int 1)) (callF 2 F_law_draw (consA (varD 1) (consA (cD (.int 4)) nilA)))))))
    (seqS (setS 11 (tupD nilA))
    (seqS (forS (iterF (varD 10)) (tName 6)
    (setS 11 (bin gAdd (varD 11) (varD 6))))
    (seqS (setS 8 (callF 1 F_law_reduced (consA (varD 11) nilA)))
    (seqS (ifS (blT (bin gNe (callF 1 F_law_joined (consA (varD 10) nilA)) (ifD (blT (bin gLe (callD gLen (consA (varD 8) nilA)) (cD (.int 8)))) (varD 8) (cD (.bool true)))))
    (retS (cD (.bool false)))
    passS)
    (seqS (setS 12 (bin gIx (lstD (dispL (consA (cD .none) (consA (lstD (dispL (consA (cD (.str "a")) nilA))) (consA (tupD (consA (cD (.str "A")) nilA)) (consA (bin gMulA (tupD (consA (cD (.str "+")) nilA)) (cD (.int 9))) nilA)))))) (callF 2 F_law_draw (consA (varD 1) (consA (cD (.int 4)) nilA)))))
    (ifS (orT (blT (bin gIsNotA (callF 1 F_law_joined (consA (lstD (dispL (consA (varD 3) (consA (varD 4) (consA (varD 12) nilA))))) nilA)) (cD (.bool false)))) (blT (bin gIsNotA (callF 1 F_law_joined (consA (lstD (dispL (consA (varD 3) (consA (varD 4) (consA (tupD nilA) (consA (varD 12) nilA)))))) nilA)) (cD (.bool false)))))
    (retS (cD (.bool false)))
    passS)))))))))))) = TN at tn ⊢
  walk_at "v"
  refine gs_hand (by omega) ?_
  walk_at "v"
  generalize hm : (if (if (ns.length : Int) < 8 then (ns.length : Int) else 8) > 1 then (if (ns.length : Int) < 8 then (ns.length : Int) else 8) else 1) = m
  have hm2 : 1 ≤ m ∧ m ≤ 8 := by clear h; rw [← hm]; split <;> split <;> omega
  clear hm
  refine ⟨0, m, .inl ⟨rfl, rfl⟩, by unfold rngOk; exact decide_eq_true (by omega), ?_⟩
  refine g_loopI (fun k fu e => ∃ x2 x3 x4 x5 x6 x7 x8 x9 x10 x11 x12 : Option DV, e = [some (.val (scrD ns)), some (.val deckD), x2, x3, x4, x5, x6, x7, x8, x9, x10, x11, x12] ∧ 576460752303423488 ≤ fu + 1000 * k ∧ k ≤ m.toNat) _ 0 _ _ ⟨none, none, none, none, none, none, none, none, none, none, none, rfl, by omega, by omega⟩ ?_ ?_
  · rintro k d e fu hk hd ⟨x2, x3, x4, x5, x6, x7, x8, x9, x10, x11, x12, rfl, hfu, hkm⟩
    rw [Nat.sub_zero] at hd
    obtain ⟨hk1, rfl⟩ := rngD_get hd
    refine g_body ?_
    walk_at "v"
    refine tn (k : Int) fu _ _ _ x3 x4 x5 x6 x7 x8 x9 x10 x11 x12 (by omega) fun y3 y4 y5 y6 y7 y8 y9 y10 y11 y12 fu' e' => ?_
    walk_at "v"
    exact ⟨_, _, _, _, _, _, _, _, _, _, _, rfl, by omega, by omega⟩
  · rintro e fu ⟨x2, x3, x4, x5, x6, x7, x8, x9, x10, x11, x12, rfl, hfu, hkm⟩
    walk_at "v"
    refine g_callS ?_
    walk_at "v"
    refine ⟨by simp, ?_⟩
    rw [ltA, show (PyData.tuple [letD 97] : D) = routeD [97] from rfl, show ([routeD [97], routeD [97]] : List D) = [[97], [97]].map routeD from rfl]
    refine a_joined (fun r hr => ?_) (by simp) (fun _ => ?_) (fun z => absurd z (by decide))
    · simp only [List.mem_cons, List.not_mem_nil, or_false] at hr
      rcases hr with rfl | rfl <;> exact rtA
    rw [show red [[97], [97]].flatten = [97] from by decide +kernel]
    walk_at "v"
    refine g_ret1 (eq_selfS (shaped_route rtA.lets) rfl) ?_
    walk_at "v"
    rw [show (PyData.tuple [] : D) = routeD [] from rfl]
    refine a_spelled_at rt_nil rt_nil ?_
    walk_at "v"
    rw [show spellL (red []) [] = some [] from by decide +kernel]
    refine g_ret1 (eq_selfS (shaped_one []) rfl) ?_
    walk_at "v"
    rfl
theorem law_true (ns : List Int) (h : ns.length ≤ 63) : (F_law [scrD ns]).wp 576460752303423488 (fun _ d => d = .bool true) (fun _ _ => False) := R.go_wp (law_go ns h)
end
theorem hx_PaperError {K : PySem.W.Frag} {h : Heap} {mg : Str → Option Value} (X : K.In h) (G : h.Ns mainGlobals mg) {f1 f2 f3 : Addr} (a2 : PySem.W.nsIn K mainGlobals "BadRoute" = some (some (.ref f2))) (a3 : PySem.W.nsIn K mainGlobals "TooMany" = some (some (.ref f3))) (b1 : PySem.W.subIn K (.ref f1) (.type "BaseException") = some true) (d1 : PySem.W.hasDictIn K f1 = true) (t1 : PySem.W.typeIn K (.ref f1) = some (.type "type")) (e2_1 : PySem.W.subIn K (.ref f2) (.ref f1) = some true) (e3_1 : PySem.W.subIn K (.ref f3) (.ref f1) = some true) : ∀ n b cls, tab_PaperError n = some b → mg n = some cls → PySem.W.exmOne K cls (.ref f1) = some b := fun n b cls hn hm => by
      unfold tab_PaperError at hn
      by_cases c2 : n = "BadRoute"
      · rw [if_pos c2] at hn; rw [c2] at hm; have e := hm.symm.trans (PySem.W.mg_of X G a2); cases e; cases hn; exact PySem.W.exm_ref b1 d1 t1 e2_1
      rw [if_neg c2] at hn
      by_cases c3 : n = "TooMany"
      · rw [if_pos c3] at hn; rw [c3] at hm; have e := hm.symm.trans (PySem.W.mg_of X G a3); cases e; cases hn; exact PySem.W.exm_ref b1 d1 t1 e3_1
      rw [if_neg c3] at hn
      cases hn
theorem kbp_kb_reduced_0_route {K : PySem.W.Frag} (fd : FuncData) (h : ∀ (s : Shared) (w0 : Value), BindsTo s fd ⟨[], [("route", w0)]⟩ [("route", w0)]) : KBinds K fd ["route"] ["route"] (gP [(false, 0)]) (gP [(false, 0)]) := by
  refine kb_mk fd [(false, 0)] fun s us ws hl => ?_
  unfold gP at hl ⊢
  split at hl
  · rename_i hc
    obtain ⟨h1, h2⟩ := hc
    have h1 : us.length = 0 := h1
    have h2 : ws.length = 1 := h2
    match us, ws, h1, h2 with
    | [], [w0], _, _ => exact h s w0
  · cases hl
theorem kbp_kb_spelled_at_0_other_route {K : PySem.W.Frag} (fd : FuncData) (h : ∀ (s : Shared) (w0 w1 : Value), BindsTo s fd ⟨[], [("other", w0), ("route", w1)]⟩ [("route", w1), ("other", w0)]) : KBinds K fd ["route", "other"] ["other", "route"] (gP [(false, 1), (false, 0)]) (gP [(false, 1), (false, 0)]) := by
  refine kb_mk fd [(false, 1), (false, 0)] fun s us ws hl => ?_
  unfold gP at hl ⊢
  split at hl
  · rename_i hc
    obtain ⟨h1, h2⟩ := hc
    have h1 : us.length = 0 := h1
    have h2 : ws.length = 2 := h2
    match us, ws, h1, h2 with
    | [], [w0, w1], _, _ => exact h s w0 w1
  · cases hl
theorem kbp_kb_never_later_0_other_route {K : PySem.W.Frag} (fd : FuncData) (h : ∀ (s : Shared) (w0 w1 : Value), BindsTo s fd ⟨[], [("other", w0), ("route", w1)]⟩ [("route", w1), ("other", w0)]) : KBinds K fd ["route", "other"] ["other", "route"] (gP [(false, 1), (false, 0)]) (gP [(false, 1), (false, 0)]) := by
  refine kb_mk fd [(false, 1), (false, 0)] fun s us ws hl => ?_
  unfold gP at hl ⊢
  split at hl
  · rename_i hc
    obtain ⟨h1, h2⟩ := hc
    have h1 : us.length = 0 := h1
    have h2 : ws.length = 2 := h2
    match us, ws, h1, h2 with
    | [], [w0, w1], _, _ => exact h s w0 w1
  · cases hl
section
set_option maxHeartbeats 0
theorem all_mk {l : PySem.W.OpenLaw} {w : World} {K : PySem.W.Frag} {h : Heap} {mg : Str → Option Value} {fa : Addr} (X : K.In h) (G : h.Ns mainGlobals mg) (hfa : mg "law" = some (.ref fa))
    {f10 : Addr} {od10 an10 : Option Addr} {sl10 : Array (Option Value)} {oc10 kV10 dc10 pm10 cd10 ct10 : Value} {f12 : Addr} {od12 an12 : Option Addr} {sl12 : Array (Option Value)} {oc12 kV12 dc12 pm12 cd12 ct12 : Value} {f6 : Addr} {od6 an6 : Option Addr} {sl6 : Array (Option Value)} {oc6 kV6 dc6 pm6 cd6 ct6 : Value} {f11 : Addr} {od11 an11 : Option Addr} {sl11 : Array (Option Value)} {oc11 kV11 dc11 pm11 cd11 ct11 : Value} {f9 : Addr} {od9 an9 : Option Addr} {sl9 : Array (Option Value)} {oc9 kV9 dc9 pm9 cd9 ct9 : Value} {f7 : Addr} {od7 an7 : Option Addr} {sl7 : Array (Option Value)} {oc7 kV7 dc7 pm7 cd7 ct7 : Value} {f8 : Addr} {od8 an8 : Option Addr} {sl8 : Array (Option Value)} {oc8 kV8 dc8 pm8 cd8 ct8 : Value} {f17 : Addr} {od17 an17 : Option Addr} {sl17 : Array (Option Value)} {oc17 kV17 dc17 pm17 cd17 ct17 : Value} {f16 : Addr} {od16 an16 : Option Addr} {sl16 : Array (Option Value)} {oc16 kV16 dc16 pm16 cd16 ct16 : Value} {f14 : Addr} {od14 an14 : Option Addr} {sl14 : Array (Option Value)} {oc14 kV14 dc14 pm14 cd14 ct14 : Value} {f15 : Addr} {od15 an15 : Option Addr} {sl15 : Array (Option Value)} {oc15 kV15 dc15 pm15 cd15 ct15 : Value} {f19 : Addr} {od19 an19 : Option Addr} {sl19 : Array (Option Value)} {oc19 kV19 dc19 pm19 cd19 ct19 : Value} {f20 : Addr} {od20 an20 : Option Addr} {sl20 : Array (Option Value)} {oc20 kV20 dc20 pm20 cd20 ct20 : Value} {f21 : Addr} {od21 an21 : Option Addr} {sl21 : Array (Option Value)} {oc21 kV21 dc21 pm21 cd21 ct21 : Value} {f22 : Addr} {od22 an22 : Option Addr} {sl22 : Array (Option Value)} {oc22 kV22 dc22 pm22 cd22 ct22 : Value} {f23 : Addr} {od23 an23 : Option Addr} {sl23 : Array (Option Value)} {oc23 kV23 dc23 pm23 cd23 ct23 : Value} {f24 : Addr} {od24 an24 : Option Addr} {sl24 : Array (Option Value)} {oc24 kV24 dc24 pm24 cd24 ct24 : Value} {f25 : Addr} {od25 an25 : Option Addr} {sl25 : Array (Option Value)} {oc25 kV25 dc25 pm25 cd25 ct25 : Value} {f26 : Addr} {od26 an26 : Option Addr} {sl26 : Array (Option Value)} {oc26 kV26 dc26 pm26 cd26 ct26 : Value} {f27 : Addr} {od27 an27 : Option Addr} {sl27 : Array (Option Value)} {oc27 kV27 dc27 pm27 cd27 ct27 : Value} {f2 : Addr} {f1 : Addr} {f3 : Addr} {t_MOST_LETTERS : Tok}
    (a10 : PySem.W.nsIn K mainGlobals "is_name" = some (some (.ref f10))) (l10 : K.lookup f10 = some ⟨oc10, od10, .func (PySem.W.fnOf "is_name" "is_name" (defArgs s_is_name) (defBody s_is_name) (defScope s_is_name) .none kV10 dc10 pm10 an10 cd10 ct10), sl10⟩) (c10 : PySem.W.codeIn K cd10 "is_name" = true) (k10 : PySem.W.keepIn K (.ref f10) = true)
    (a12 : PySem.W.nsIn K mainGlobals "_is_letter" = some (some (.ref f12))) (l12 : K.lookup f12 = some ⟨oc12, od12, .func (PySem.W.fnOf "_is_letter" "_is_letter" (defArgs s_is_letter) (defBody s_is_letter) (defScope s_is_letter) .none kV12 dc12 pm12 an12 cd12 ct12), sl12⟩) (c12 : PySem.W.codeIn K cd12 "_is_letter" = true) (k12 : PySem.W.keepIn K (.ref f12) = true)
    (a6 : PySem.W.nsIn K mainGlobals "is_route" = some (some (.ref f6))) (l6 : K.lookup f6 = some ⟨oc6, od6, .func (PySem.W.fnOf "is_route" "is_route" (defArgs s_is_route) (defBody s_is_route) (defScope s_is_route) .none kV6 dc6 pm6 an6 cd6 ct6), sl6⟩) (c6 : PySem.W.codeIn K cd6 "is_route" = true) (k6 : PySem.W.keepIn K (.ref f6) = true)
    (a11 : PySem.W.nsIn K mainGlobals "need_route" = some (some (.ref f11))) (l11 : K.lookup f11 = some ⟨oc11, od11, .func (PySem.W.fnOf "need_route" "need_route" (defArgs s_need_route) (defBody s_need_route) (defScope s_need_route) .none kV11 dc11 pm11 an11 cd11 ct11), sl11⟩) (c11 : PySem.W.codeIn K cd11 "need_route" = true) (k11 : PySem.W.keepIn K (.ref f11) = true)
    (a9 : PySem.W.nsIn K mainGlobals "reduce_letters" = some (some (.ref f9))) (l9 : K.lookup f9 = some ⟨oc9, od9, .func (PySem.W.fnOf "reduce_letters" "reduce_letters" (defArgs s_reduce_letters) (defBody s_reduce_letters) (defScope s_reduce_letters) .none kV9 dc9 pm9 an9 cd9 ct9), sl9⟩) (c9 : PySem.W.codeIn K cd9 "reduce_letters" = true) (k9 : PySem.W.keepIn K (.ref f9) = true)
    (a7 : PySem.W.nsIn K mainGlobals "reduced" = some (some (.ref f7))) (l7 : K.lookup f7 = some ⟨oc7, od7, .func (PySem.W.fnOf "reduced" "reduced" (defArgs s_reduced) (defBody s_reduced) (defScope s_reduced) .none kV7 dc7 pm7 an7 cd7 ct7), sl7⟩) (c7 : PySem.W.codeIn K cd7 "reduced" = true) (k7 : PySem.W.keepIn K (.ref f7) = true)
    (a8 : PySem.W.nsIn K mainGlobals "joined" = some (some (.ref f8))) (l8 : K.lookup f8 = some ⟨oc8, od8, .func (PySem.W.fnOf "joined" "joined" (defArgs s_joined) (defBody s_joined) (defScope s_joined) .none kV8 dc8 pm8 an8 cd8 ct8), sl8⟩) (c8 : PySem.W.codeIn K cd8 "joined" = true) (k8 : PySem.W.keepIn K (.ref f8) = true)
    (a17 : PySem.W.nsIn K mainGlobals "_need_routes" = some (some (.ref f17))) (l17 : K.lookup f17 = some ⟨oc17, od17, .func (PySem.W.fnOf "_need_routes" "_need_routes" (defArgs s_need_routes) (defBody s_need_routes) (defScope s_need_routes) .none kV17 dc17 pm17 an17 cd17 ct17), sl17⟩) (c17 : PySem.W.codeIn K cd17 "_need_routes" = true) (k17 : PySem.W.keepIn K (.ref f17) = true)
    (a16 : PySem.W.nsIn K mainGlobals "spell" = some (some (.ref f16))) (l16 : K.lookup f16 = some ⟨oc16, od16, .func (PySem.W.fnOf "spell" "spell" (defArgs s_spell) (defBody s_spell) (defScope s_spell) .none kV16 dc16 pm16 an16 cd16 ct16), sl16⟩) (c16 : PySem.W.codeIn K cd16 "spell" = true) (k16 : PySem.W.keepIn K (.ref f16) = true)
    (a14 : PySem.W.nsIn K mainGlobals "never_later" = some (some (.ref f14))) (l14 : K.lookup f14 = some ⟨oc14, od14, .func (PySem.W.fnOf "never_later" "never_later" (defArgs s_never_later) (defBody s_never_later) (defScope s_never_later) .none kV14 dc14 pm14 an14 cd14 ct14), sl14⟩) (c14 : PySem.W.codeIn K cd14 "never_later" = true) (k14 : PySem.W.keepIn K (.ref f14) = true)
    (a15 : PySem.W.nsIn K mainGlobals "spelled_at" = some (some (.ref f15))) (l15 : K.lookup f15 = some ⟨oc15, od15, .func (PySem.W.fnOf "spelled_at" "spelled_at" (defArgs s_spelled_at) (defBody s_spelled_at) (defScope s_spelled_at) .none kV15 dc15 pm15 an15 cd15 ct15), sl15⟩) (c15 : PySem.W.codeIn K cd15 "spelled_at" = true) (k15 : PySem.W.keepIn K (.ref f15) = true)
    (a19 : PySem.W.nsIn K mainGlobals "_law_hand" = some (some (.ref f19))) (l19 : K.lookup f19 = some ⟨oc19, od19, .func (PySem.W.fnOf "_law_hand" "_law_hand" (defArgs s_law_hand) (defBody s_law_hand) (defScope s_law_hand) .none kV19 dc19 pm19 an19 cd19 ct19), sl19⟩) (c19 : PySem.W.codeIn K cd19 "_law_hand" = true) (k19 : PySem.W.keepIn K (.ref f19) = true)
    (a20 : PySem.W.nsIn K mainGlobals "_law_draw" = some (some (.ref f20))) (l20 : K.lookup f20 = some ⟨oc20, od20, .func (PySem.W.fnOf "_law_draw" "_law_draw" (defArgs s_law_draw) (defBody s_law_draw) (defScope s_law_draw) .none kV20 dc20 pm20 an20 cd20 ct20), sl20⟩) (c20 : PySem.W.codeIn K cd20 "_law_draw" = true) (k20 : PySem.W.keepIn K (.ref f20) = true)
    (a21 : PySem.W.nsIn K mainGlobals "_law_letters" = some (some (.ref f21))) (l21 : K.lookup f21 = some ⟨oc21, od21, .func (PySem.W.fnOf "_law_letters" "_law_letters" (defArgs s_law_letters) (defBody s_law_letters) (defScope s_law_letters) .none kV21 dc21 pm21 an21 cd21 ct21), sl21⟩) (c21 : PySem.W.codeIn K cd21 "_law_letters" = true) (k21 : PySem.W.keepIn K (.ref f21) = true)
    (a22 : PySem.W.nsIn K mainGlobals "_law_reduced" = some (some (.ref f22))) (l22 : K.lookup f22 = some ⟨oc22, od22, .func (PySem.W.fnOf "_law_reduced" "_law_reduced" (defArgs s_law_reduced) (defBody s_law_reduced) (defScope s_law_reduced) .none kV22 dc22 pm22 an22 cd22 ct22), sl22⟩) (c22 : PySem.W.codeIn K cd22 "_law_reduced" = true) (k22 : PySem.W.keepIn K (.ref f22) = true)
    (a23 : PySem.W.nsIn K mainGlobals "_law_choices" = some (some (.ref f23))) (l23 : K.lookup f23 = some ⟨oc23, od23, .func (PySem.W.fnOf "_law_choices" "_law_choices" (defArgs s_law_choices) (defBody s_law_choices) (defScope s_law_choices) .none kV23 dc23 pm23 an23 cd23 ct23), sl23⟩) (c23 : PySem.W.codeIn K cd23 "_law_choices" = true) (k23 : PySem.W.keepIn K (.ref f23) = true)
    (a24 : PySem.W.nsIn K mainGlobals "_law_spelled" = some (some (.ref f24))) (l24 : K.lookup f24 = some ⟨oc24, od24, .func (PySem.W.fnOf "_law_spelled" "_law_spelled" (defArgs s_law_spelled) (defBody s_law_spelled) (defScope s_law_spelled) .none kV24 dc24 pm24 an24 cd24 ct24), sl24⟩) (c24 : PySem.W.codeIn K cd24 "_law_spelled" = true) (k24 : PySem.W.keepIn K (.ref f24) = true)
    (a25 : PySem.W.nsIn K mainGlobals "_law_other" = some (some (.ref f25))) (l25 : K.lookup f25 = some ⟨oc25, od25, .func (PySem.W.fnOf "_law_other" "_law_other" (defArgs s_law_other) (defBody s_law_other) (defScope s_law_other) .none kV25 dc25 pm25 an25 cd25 ct25), sl25⟩) (c25 : PySem.W.codeIn K cd25 "_law_other" = true) (k25 : PySem.W.keepIn K (.ref f25) = true)
    (a26 : PySem.W.nsIn K mainGlobals "_law_joined" = some (some (.ref f26))) (l26 : K.lookup f26 = some ⟨oc26, od26, .func (PySem.W.fnOf "_law_joined" "_law_joined" (defArgs s_law_joined) (defBody s_law_joined) (defScope s_law_joined) .none kV26 dc26 pm26 an26 cd26 ct26), sl26⟩) (c26 : PySem.W.codeIn K cd26 "_law_joined" = true) (k26 : PySem.W.keepIn K (.ref f26) = true)
    (a27 : PySem.W.nsIn K mainGlobals "law" = some (some (.ref f27))) (l27 : K.lookup f27 = some ⟨oc27, od27, .func (PySem.W.fnOf "law" "law" (defArgs s_law) (defBody s_law) (defScope s_law) .none kV27 dc27 pm27 an27 cd27 ct27), sl27⟩) (c27 : PySem.W.codeIn K cd27 "law" = true) (k27 : PySem.W.keepIn K (.ref f27) = true)
    (a2 : PySem.W.nsIn K mainGlobals "BadRoute" = some (some (.ref f2))) (x2 : PySem.W.excIn K f2 [.type "ValueError", .type "Exception", .type "BaseException", .type "object"] "ValueError.__new__" = true) (k2 : PySem.W.keepIn K (.ref f2) = true) (b2 : PySem.W.subIn K (.ref f2) (.type "BaseException") = some true) (t2 : PySem.W.typeIn K (.ref f2) = some (.type "type"))
    (a1 : PySem.W.nsIn K mainGlobals "PaperError" = some (some (.ref f1))) (x1 : PySem.W.excIn K f1 [.type "ValueError", .type "Exception", .type "BaseException", .type "object"] "ValueError.__new__" = true) (k1 : PySem.W.keepIn K (.ref f1) = true) (b1 : PySem.W.subIn K (.ref f1) (.type "BaseException") = some true) (t1 : PySem.W.typeIn K (.ref f1) = some (.type "type"))
    (a3 : PySem.W.nsIn K mainGlobals "TooMany" = some (some (.ref f3))) (x3 : PySem.W.excIn K f3 [.type "ValueError", .type "Exception", .type "BaseException", .type "object"] "ValueError.__new__" = true) (k3 : PySem.W.keepIn K (.ref f3) = true) (b3 : PySem.W.subIn K (.ref f3) (.type "BaseException") = some true) (t3 : PySem.W.typeIn K (.ref f3) = some (.type "type"))
    (ea2 : PySem.W.findIn K (.ref f2) "__getattribute__" = some (some (.builtin "BaseException.__getattribute__")))
    (eb2 : PySem.W.findIn K (.ref f2) "__getattr__" = some none)
    (ed2 : PySem.W.hasDictIn K f2 = true)
    (ec2 : PySem.W.findIn K (.ref f2) "__class__" = some (some (.builtin "object.__class__")))
    (em2 : PySem.W.mroIn K f2 (.type "object") = some true)
    (s2_3 : PySem.W.subIn K (.ref f2) (.ref f3) = some false) (ne2_3 : (Value.ref f2 == Value.ref f3) = false)
    (ea3 : PySem.W.findIn K (.ref f3) "__getattribute__" = some (some (.builtin "BaseException.__getattribute__")))
    (eb3 : PySem.W.findIn K (.ref f3) "__getattr__" = some none)
    (ed3 : PySem.W.hasDictIn K f3 = true)
    (ec3 : PySem.W.findIn K (.ref f3) "__class__" = some (some (.builtin "object.__class__")))
    (em3 : PySem.W.mroIn K f3 (.type "object") = some true)
    (d3 : PySem.W.hasDictIn K f3 = true)
    (en : PySem.W.specialIn K (.builtin "object.__class__") "__get__" = some (some (.builtin "getset_descriptor.__get__"))) (et : PySem.W.takesIn K (.builtin "object.__class__") = some true)
    (d1 : PySem.W.hasDictIn K f1 = true)
    (e2_1 : PySem.W.subIn K (.ref f2) (.ref f1) = some true)
    (e3_1 : PySem.W.subIn K (.ref f3) (.ref f1) = some true)
    (z_MOST_LETTERS : PySem.W.nsIn K mainGlobals "MOST_LETTERS" = some (some (Value.int (8) t_MOST_LETTERS)))
    (z_abs : PySem.W.nsIn K mainGlobals "abs" = some none)
    (z_all : PySem.W.nsIn K mainGlobals "all" = some none)
    (z_bool : PySem.W.nsIn K mainGlobals "bool" = some none)
    (z_enumerate : PySem.W.nsIn K mainGlobals "enumerate" = some none)
    (z_int : PySem.W.nsIn K mainGlobals "int" = some none)
    (z_isinstance : PySem.W.nsIn K mainGlobals "isinstance" = some none)
    (z_len : PySem.W.nsIn K mainGlobals "len" = some none)
    (z_list : PySem.W.nsIn K mainGlobals "list" = some none)
    (z_max : PySem.W.nsIn K mainGlobals "max" = some none)
    (z_min : PySem.W.nsIn K mainGlobals "min" = some none)
    (z_range : PySem.W.nsIn K mainGlobals "range" = some none)
    (z_str : PySem.W.nsIn K mainGlobals "str" = some none)
    (z_tuple : PySem.W.nsIn K mainGlobals "tuple" = some none) :
    ∃ fd : FuncData, (∀ (s : Shared) (v : Value), BindsTo s fd ⟨[v], []⟩ [("_law_script", v)]) ∧ ∀ base : Heap, K.In base → base.Ns mainGlobals mg → FnG l.prog w K mg base (L2.CX l.prog w) 7 fa fd ["_law_script"] (spLaw K) := by
  have e := hfa.symm.trans (PySem.W.mg_of X G a27)
  cases e
  have F10 := fun_mk (st := s_is_name) l10 c10 k10
  have B10 := F10.binds (ps := ["thing"]) fun _ _ _ _ _ _ us hl => match us, hl with | [_], _ => rfl
  have F12 := fun_mk (st := s_is_letter) l12 c12 k12
  have B12 := F12.binds (ps := ["thing"]) fun _ _ _ _ _ _ us hl => match us, hl with | [_], _ => rfl
  have F6 := fun_mk (st := s_is_route) l6 c6 k6
  have B6 := F6.binds (ps := ["thing"]) fun _ _ _ _ _ _ us hl => match us, hl with | [_], _ => rfl
  have F11 := fun_mk (st := s_need_route) l11 c11 k11
  have B11 := F11.binds (ps := ["thing"]) fun _ _ _ _ _ _ us hl => match us, hl with | [_], _ => rfl
  have F9 := fun_mk (st := s_reduce_letters) l9 c9 k9
  have B9 := F9.binds (ps := ["letters"]) fun _ _ _ _ _ _ us hl => match us, hl with | [_], _ => rfl
  have F7 := fun_mk (st := s_reduced) l7 c7 k7
  have B7 := F7.binds (ps := ["route"]) fun _ _ _ _ _ _ us hl => match us, hl with | [_], _ => rfl
  have F8 := fun_mk (st := s_joined) l8 c8 k8
  have B8 : StarB (PySem.W.fnOf "joined" "joined" (defArgs s_joined) (defBody s_joined) (defScope s_joined) .none kV8 dc8 pm8 an8 cd8 ct8) "routes" := fun rest => by cases rest <;> rfl
  have F17 := fun_mk (st := s_need_routes) l17 c17 k17
  have B17 := F17.binds (ps := ["route", "other"]) fun _ _ _ _ _ _ us hl => match us, hl with | [_, _], _ => rfl
  have F16 := fun_mk (st := s_spell) l16 c16 k16
  have B16 := F16.binds (ps := ["letters", "other"]) fun _ _ _ _ _ _ us hl => match us, hl with | [_, _], _ => rfl
  have F14 := fun_mk (st := s_never_later) l14 c14 k14
  have B14 := F14.binds (ps := ["route", "other"]) fun _ _ _ _ _ _ us hl => match us, hl with | [_, _], _ => rfl
  have F15 := fun_mk (st := s_spelled_at) l15 c15 k15
  have B15 := F15.binds (ps := ["route", "other"]) fun _ _ _ _ _ _ us hl => match us, hl with | [_, _], _ => rfl
  have F19 := fun_mk (st := s_law_hand) l19 c19 k19
  have B19 := F19.binds (ps := ["_law_script"]) fun _ _ _ _ _ _ us hl => match us, hl with | [_], _ => rfl
  have F20 := fun_mk (st := s_law_draw) l20 c20 k20
  have B20 := F20.binds (ps := ["_law_hand_here", "_law_size"]) fun _ _ _ _ _ _ us hl => match us, hl with | [_, _], _ => rfl
  have F21 := fun_mk (st := s_law_letters) l21 c21 k21
  have B21 := F21.binds (ps := ["_law_hand_here", "_law_most"]) fun _ _ _ _ _ _ us hl => match us, hl with | [_, _], _ => rfl
  have F22 := fun_mk (st := s_law_reduced) l22 c22 k22
  have B22 := F22.binds (ps := ["_law_route"]) fun _ _ _ _ _ _ us hl => match us, hl with | [_], _ => rfl
  have F23 := fun_mk (st := s_law_choices) l23 c23 k23
  have B23 := F23.binds (ps := ["_law_many", "_law_size"]) fun _ _ _ _ _ _ us hl => match us, hl with | [_, _], _ => rfl
  have F24 := fun_mk (st := s_law_spelled) l24 c24 k24
  have B24 := F24.binds (ps := ["_law_letters_here", "_law_other_here"]) fun _ _ _ _ _ _ us hl => match us, hl with | [_, _], _ => rfl
  have F25 := fun_mk (st := s_law_other) l25 c25 k25
  have B25 := F25.binds (ps := ["_law_hand_here", "_law_route"]) fun _ _ _ _ _ _ us hl => match us, hl with | [_, _], _ => rfl
  have F26 := fun_mk (st := s_law_joined) l26 c26 k26
  have B26 := F26.binds (ps := ["_law_routes"]) fun _ _ _ _ _ _ us hl => match us, hl with | [_], _ => rfl
  have F27 := fun_mk (st := s_law) l27 c27 k27
  have B27 := F27.binds (ps := ["_law_script"]) fun _ _ _ _ _ _ us hl => match us, hl with | [_], _ => rfl
  let ad : Nat → Addr := fun n => ([fa, f1, f2, f3, fa, fa, f6, f7, f8, f9, f10, f11, f12, fa, f14, f15, f16, f17, fa, f19, f20, f21, f22, f23, f24, f25, f26, fa]).getD n fa
  let fdd : Nat → FuncData := fun n => ([PySem.W.fnOf "law" "law" (defArgs s_law) (defBody s_law) (defScope s_law) .none kV27 dc27 pm27 an27 cd27 ct27,
    PySem.W.fnOf "law" "law" (defArgs s_law) (defBody s_law) (defScope s_law) .none kV27 dc27 pm27 an27 cd27 ct27,
    PySem.W.fnOf "law" "law" (defArgs s_law) (defBody s_law) (defScope s_law) .none kV27 dc27 pm27 an27 cd27 ct27,
    PySem.W.fnOf "law" "law" (defArgs s_law) (defBody s_law) (defScope s_law) .none kV27 dc27 pm27 an27 cd27 ct27,
    PySem.W.fnOf "law" "law" (defArgs s_law) (defBody s_law) (defScope s_law) .none kV27 dc27 pm27 an27 cd27 ct27,
    PySem.W.fnOf "law" "law" (defArgs s_law) (defBody s_law) (defScope s_law) .none kV27 dc27 pm27 an27 cd27 ct27,
    PySem.W.fnOf "is_route" "is_route" (defArgs s_is_route) (defBody s_is_route) (defScope s_is_route) .none kV6 dc6 pm6 an6 cd6 ct6,
    PySem.W.fnOf "reduced" "reduced" (defArgs s_reduced) (defBody s_reduced) (defScope s_reduced) .none kV7 dc7 pm7 an7 cd7 ct7,
    PySem.W.fnOf "joined" "joined" (defArgs s_joined) (defBody s_joined) (defScope s_joined) .none kV8 dc8 pm8 an8 cd8 ct8,
    PySem.W.fnOf "reduce_letters" "reduce_letters" (defArgs s_reduce_letters) (defBody s_reduce_letters) (defScope s_reduce_letters) .none kV9 dc9 pm9 an9 cd9 ct9,
    PySem.W.fnOf "is_name" "is_name" (defArgs s_is_name) (defBody s_is_name) (defScope s_is_name) .none kV10 dc10 pm10 an10 cd10 ct10,
    PySem.W.fnOf "need_route" "need_route" (defArgs s_need_route) (defBody s_need_route) (defScope s_need_route) .none kV11 dc11 pm11 an11 cd11 ct11,
    PySem.W.fnOf "_is_letter" "_is_letter" (defArgs s_is_letter) (defBody s_is_letter) (defScope s_is_letter) .none kV12 dc12 pm12 an12 cd12 ct12,
    PySem.W.fnOf "law" "law" (defArgs s_law) (defBody s_law) (defScope s_law) .none kV27 dc27 pm27 an27 cd27 ct27,
    PySem.W.fnOf "never_later" "never_later" (defArgs s_never_later) (defBody s_never_later) (defScope s_never_later) .none kV14 dc14 pm14 an14 cd14 ct14,
    PySem.W.fnOf "spelled_at" "spelled_at" (defArgs s_spelled_at) (defBody s_spelled_at) (defScope s_spelled_at) .none kV15 dc15 pm15 an15 cd15 ct15,
    PySem.W.fnOf "spell" "spell" (defArgs s_spell) (defBody s_spell) (defScope s_spell) .none kV16 dc16 pm16 an16 cd16 ct16,
    PySem.W.fnOf "_need_routes" "_need_routes" (defArgs s_need_routes) (defBody s_need_routes) (defScope s_need_routes) .none kV17 dc17 pm17 an17 cd17 ct17,
    PySem.W.fnOf "law" "law" (defArgs s_law) (defBody s_law) (defScope s_law) .none kV27 dc27 pm27 an27 cd27 ct27,
    PySem.W.fnOf "_law_hand" "_law_hand" (defArgs s_law_hand) (defBody s_law_hand) (defScope s_law_hand) .none kV19 dc19 pm19 an19 cd19 ct19,
    PySem.W.fnOf "_law_draw" "_law_draw" (defArgs s_law_draw) (defBody s_law_draw) (defScope s_law_draw) .none kV20 dc20 pm20 an20 cd20 ct20,
    PySem.W.fnOf "_law_letters" "_law_letters" (defArgs s_law_letters) (defBody s_law_letters) (defScope s_law_letters) .none kV21 dc21 pm21 an21 cd21 ct21,
    PySem.W.fnOf "_law_reduced" "_law_reduced" (defArgs s_law_reduced) (defBody s_law_reduced) (defScope s_law_reduced) .none kV22 dc22 pm22 an22 cd22 ct22,
    PySem.W.fnOf "_law_choices" "_law_choices" (defArgs s_law_choices) (defBody s_law_choices) (defScope s_law_choices) .none kV23 dc23 pm23 an23 cd23 ct23,
    PySem.W.fnOf "_law_spelled" "_law_spelled" (defArgs s_law_spelled) (defBody s_law_spelled) (defScope s_law_spelled) .none kV24 dc24 pm24 an24 cd24 ct24,
    PySem.W.fnOf "_law_other" "_law_other" (defArgs s_law_other) (defBody s_law_other) (defScope s_law_other) .none kV25 dc25 pm25 an25 cd25 ct25,
    PySem.W.fnOf "_law_joined" "_law_joined" (defArgs s_law_joined) (defBody s_law_joined) (defScope s_law_joined) .none kV26 dc26 pm26 an26 cd26 ct26,
    PySem.W.fnOf "law" "law" (defArgs s_law) (defBody s_law) (defScope s_law) .none kV27 dc27 pm27 an27 cd27 ct27]).getD n (PySem.W.fnOf "law" "law" (defArgs s_law) (defBody s_law) (defScope s_law) .none kV27 dc27 pm27 an27 cd27 ct27)
  have T : Tx K mg ad fdd := {
    m_MOST_LETTERS := ⟨_, PySem.W.mg_of X G z_MOST_LETTERS, ⟨_, rfl⟩⟩
    m_abs := PySem.W.mg_none_of X G z_abs
    m_all := PySem.W.mg_none_of X G z_all
    m_bool := PySem.W.mg_none_of X G z_bool
    m_enumerate := PySem.W.mg_none_of X G z_enumerate
    m_int := PySem.W.mg_none_of X G z_int
    m_isinstance := PySem.W.mg_none_of X G z_isinstance
    m_len := PySem.W.mg_none_of X G z_len
    m_list := PySem.W.mg_none_of X G z_list
    m_max := PySem.W.mg_none_of X G z_max
    m_min := PySem.W.mg_none_of X G z_min
    m_range := PySem.W.mg_none_of X G z_range
    m_str := PySem.W.mg_none_of X G z_str
    m_tuple := PySem.W.mg_none_of X G z_tuple
    F_is_name := F10
    g_is_name := PySem.W.mg_of X G a10
    b_is_name := B10
    F_is_letter := F12
    g_is_letter := PySem.W.mg_of X G a12
    b_is_letter := B12
    F_is_route := F6
    g_is_route := PySem.W.mg_of X G a6
    b_is_route := B6
    F_need_route := F11
    g_need_route := PySem.W.mg_of X G a11
    b_need_route := B11
    F_reduce_letters := F9
    g_reduce_letters := PySem.W.mg_of X G a9
    b_reduce_letters := B9
    F_reduced := F7
    g_reduced := PySem.W.mg_of X G a7
    b_reduced := B7
    F_joined := F8
    g_joined := PySem.W.mg_of X G a8
    b_joined := B8
    F_need_routes := F17
    g_need_routes := PySem.W.mg_of X G a17
    b_need_routes := B17
    F_spell := F16
    g_spell := PySem.W.mg_of X G a16
    b_spell := B16
    F_never_later := F14
    g_never_later := PySem.W.mg_of X G a14
    b_never_later := B14
    F_spelled_at := F15
    g_spelled_at := PySem.W.mg_of X G a15
    b_spelled_at := B15
    F_law_hand := F19
    g_law_hand := PySem.W.mg_of X G a19
    b_law_hand := B19
    F_law_draw := F20
    g_law_draw := PySem.W.mg_of X G a20
    b_law_draw := B20
    F_law_letters := F21
    g_law_letters := PySem.W.mg_of X G a21
    b_law_letters := B21
    F_law_reduced := F22
    g_law_reduced := PySem.W.mg_of X G a22
    b_law_reduced := B22
    F_law_choices := F23
    g_law_choices := PySem.W.mg_of X G a23
    b_law_choices := B23
    F_law_spelled := F24
    g_law_spelled := PySem.W.mg_of X G a24
    b_law_spelled := B24
    F_law_other := F25
    g_law_other := PySem.W.mg_of X G a25
    b_law_other := B25
    F_law_joined := F26
    g_law_joined := PySem.W.mg_of X G a26
    b_law_joined := B26
    F_law := F27
    g_law := PySem.W.mg_of X G a27
    b_law := B27
    x_BadRoute := ⟨PySem.W.mg_of X G a2, x2, k2, b2, t2⟩
    x_PaperError := ⟨PySem.W.mg_of X G a1, x1, k1, b1, t1⟩
    x_TooMany := ⟨PySem.W.mg_of X G a3, x3, k3, b3, t3⟩
    n_TooMany := PySem.W.mg_of X G a3
    i_TooMany := fun n b cls hn hm => by
      unfold itab_TooMany at hn
      by_cases c2 : n = "BadRoute"
      · rw [if_pos c2] at hn; rw [c2] at hm; have e := hm.symm.trans (PySem.W.mg_of X G a2); cases e; cases hn; exact ⟨f2, rfl, ⟨ea2, eb2, b2, ed2, ec2, en, et, em2⟩, kit_own ne2_3 d3 t3 s2_3⟩
      rw [if_neg c2] at hn
      by_cases c3 : n = "TooMany"
      · rw [if_pos c3] at hn; rw [c3] at hm; have e := hm.symm.trans (PySem.W.mg_of X G a3); cases e; cases hn; exact ⟨f3, rfl, ⟨ea3, eb3, b3, ed3, ec3, en, et, em3⟩, kit_same⟩
      rw [if_neg c3] at hn
      cases hn
    h_PaperError := hx_PaperError X G a2 a3 b1 d1 t1 e2_1 e3_1
    kb_reduced_0_route := kbp_kb_reduced_0_route (PySem.W.fnOf "reduced" "reduced" (defArgs s_reduced) (defBody s_reduced) (defScope s_reduced) .none kV7 dc7 pm7 an7 cd7 ct7) fun s w0 => .of_eq rfl
    kb_spelled_at_0_other_route := kbp_kb_spelled_at_0_other_route (PySem.W.fnOf "spelled_at" "spelled_at" (defArgs s_spelled_at) (defBody s_spelled_at) (defScope s_spelled_at) .none kV15 dc15 pm15 an15 cd15 ct15) fun s w0 w1 => .of_eq rfl
    kb_never_later_0_other_route := kbp_kb_never_later_0_other_route (PySem.W.fnOf "never_later" "never_later" (defArgs s_never_later) (defBody s_never_later) (defScope s_never_later) .none kV14 dc14 pm14 an14 cd14 ct14) fun s w0 w1 => .of_eq rfl }
  exact ⟨PySem.W.fnOf "law" "law" (defArgs s_law) (defBody s_law) (defScope s_law) .none kV27 dc27 pm27 an27 cd27 ct27, fun s v => .of_eq rfl, fun base _ _ => by
    have G_is_name := ok_is_name (P := l.prog) (w := w) (base := base) T 
    have G_is_letter := ok_is_letter (P := l.prog) (w := w) (base := base) T G_is_name
    have G_is_route := ok_is_route (P := l.prog) (w := w) (base := base) T G_is_letter
    have G_need_route := ok_need_route (P := l.prog) (w := w) (base := base) T G_is_route
    have G_reduce_letters := ok_reduce_letters (P := l.prog) (w := w) (base := base) T 
    have G_reduced := ok_reduced (P := l.prog) (w := w) (base := base) T G_need_route G_reduce_letters
    have G_joined := ok_joined (P := l.prog) (w := w) (base := base) T G_reduce_letters G_need_route
    have G_need_routes := ok_need_routes (P := l.prog) (w := w) (base := base) T G_need_route
    have G_spell := ok_spell (P := l.prog) (w := w) (base := base) T 
    have G_never_later := ok_never_later (P := l.prog) (w := w) (base := base) T G_need_routes G_spell G_reduce_letters
    have G_spelled_at := ok_spelled_at (P := l.prog) (w := w) (base := base) T G_need_routes G_spell G_reduce_letters
    have G_law_hand := FnOk.toG (J.ok_law_hand (P := l.prog) (w := w) (base := base) T)
    have G_law_draw := FnOk.toG (J.ok_law_draw (P := l.prog) (w := w) (base := base) T)
    have G_law_letters := ok_law_letters (P := l.prog) (w := w) (base := base) T G_law_draw
    have G_law_reduced := ok_law_reduced (P := l.prog) (w := w) (base := base) T 
    have G_law_choices := ok_law_choices (P := l.prog) (w := w) (base := base) T 
    have G_law_spelled := ok_law_spelled (P := l.prog) (w := w) (base := base) T G_law_choices
    have G_law_other := ok_law_other (P := l.prog) (w := w) (base := base) T G_law_draw
    have G_law_joined := ok_law_joined (P := l.prog) (w := w) (base := base) T G_joined
    have G_law := ok_law (P := l.prog) (w := w) (base := base) T G_law_hand G_law_letters G_law_reduced G_law_draw G_law_spelled G_never_later G_law_joined G_joined G_spelled_at G_law_other G_reduced
    refine G_law.imp fun vs H Q E ⟨a, ns, e, hs, hl, hq⟩ => ?_
    subst e
    have hh : hide [] H = H := by funext b; unfold hide; rw [if_neg (by simp)]
    refine ⟨rfl, [], [], [scrD ns], 576460752303423488, ⟨fun a m => (by cases m), fun a m => (by cases m), fun a o e _ => e, fun a e => e, fun a m => (by cases m), fun a m => (by cases m), fun a m => (by cases m), fun a m => (by cases m), fun a m => (by cases m), fun _ _ _ _ _ hf e h => DPh.mono hf e h, by show (576460752303423488 : Nat) ≤ 1152921504606846976; decide⟩, .cons (.scr (by rw [hh]; exact hs)) .nil, R.wp_mono (law_true ns hl) (fun fu d e v w' _ _ _ r => ?_) fun _ _ h => h.elim⟩
    subst e
    rw [r.isBl]; exact hq w'.H⟩
end
end DL
open PySem PySem.W PyProof.Rows
set_option maxHeartbeats 0 in
theorem PySem.Challenge.cw_officepapers_k08_routes_reduced_and_spel_holds : PySem.Challenge.rw_officepapers_k08_routes_reduced_and_spel.Holds := by
  w_on; o_law; k_head; (case hw => w_witness2)
  k_fill
  refine DL.walk_ofG (l := PySem.Challenge.rw_officepapers_k08_routes_reduced_and_spel) (n := 63) (k := 7) (x := "_law_script") (CX := fun w => L2.CX PySem.Challenge.rw_officepapers_k08_routes_reduced_and_spel.prog w) (sp := fun w => DL.spLaw _) rfl (by decide) rfl ⟨rfl, by decide, by decide⟩ (fun w h Y => PySem.W.kIn_of Y) ?F (fun _ _ a ns hl _ hS => ⟨a, ns, rfl, hS, hl, fun _ => rfl⟩) (fun _ _ _ _ _ h => DL.cx_no h)
  case F =>
    intro w mg fa h KX G hmg
    refine' DL.all_mk KX G hmg ?a10 ?l10 ?c10 ?k10 ?a12 ?l12 ?c12 ?k12 ?a6 ?l6 ?c6 ?k6 ?a11 ?l11 ?c11 ?k11 ?a9 ?l9 ?c9 ?k9 ?a7 ?l7 ?c7 ?k7 ?a8 ?l8 ?c8 ?k8 ?a17 ?l17 ?c17 ?k17 ?a16 ?l16 ?c16 ?k16 ?a14 ?l14 ?c14 ?k14 ?a15 ?l15 ?c15 ?k15 ?a19 ?l19 ?c19 ?k19 ?a20 ?l20 ?c20 ?k20 ?a21 ?l21 ?c21 ?k21 ?a22 ?l22 ?c22 ?k22 ?a23 ?l23 ?c23 ?k23 ?a24 ?l24 ?c24 ?k24 ?a25 ?l25 ?c25 ?k25 ?a26 ?l26 ?c26 ?k26 ?a27 ?l27 ?c27 ?k27 ?a2 ?x2 ?k2 ?b2 ?t2 ?a1 ?x1 ?k1 ?b1 ?t1 ?a3 ?x3 ?k3 ?b3 ?t3 ?ea2 ?eb2 ?ed2 ?ec2 ?em2 ?s2_3 ?ne2_3 ?ea3 ?eb3 ?ed3 ?ec3 ?em3 ?d3 ?en ?et ?d1 ?e2_1 ?e3_1 ?z_MOST_LETTERS ?z_abs ?z_all ?z_bool ?z_enumerate ?z_int ?z_isinstance ?z_len ?z_list ?z_max ?z_min ?z_range ?z_str ?z_tuple
    (case a10 => k_is); (case l10 => k_is); (case c10 => k_is); (case k10 => k_is); (case a12 => k_is); (case l12 => k_is); (case c12 => k_is); (case k12 => k_is); (case a6 => k_is); (case l6 => k_is); (case c6 => k_is); (case k6 => k_is); (case a11 => k_is); (case l11 => k_is); (case c11 => k_is); (case k11 => k_is); (case a9 => k_is); (case l9 => k_is); (case c9 => k_is); (case k9 => k_is); (case a7 => k_is); (case l7 => k_is); (case c7 => k_is); (case k7 => k_is); (case a8 => k_is); (case l8 => k_is); (case c8 => k_is); (case k8 => k_is); (case a17 => k_is); (case l17 => k_is); (case c17 => k_is); (case k17 => k_is); (case a16 => k_is); (case l16 => k_is); (case c16 => k_is); (case k16 => k_is); (case a14 => k_is); (case l14 => k_is); (case c14 => k_is); (case k14 => k_is); (case a15 => k_is); (case l15 => k_is); (case c15 => k_is); (case k15 => k_is); (case a19 => k_is); (case l19 => k_is); (case c19 => k_is); (case k19 => k_is); (case a20 => k_is); (case l20 => k_is); (case c20 => k_is); (case k20 => k_is); (case a21 => k_is); (case l21 => k_is); (case c21 => k_is); (case k21 => k_is); (case a22 => k_is); (case l22 => k_is); (case c22 => k_is); (case k22 => k_is); (case a23 => k_is); (case l23 => k_is); (case c23 => k_is); (case k23 => k_is); (case a24 => k_is); (case l24 => k_is); (case c24 => k_is); (case k24 => k_is); (case a25 => k_is); (case l25 => k_is); (case c25 => k_is); (case k25 => k_is); (case a26 => k_is); (case l26 => k_is); (case c26 => k_is); (case k26 => k_is); (case a27 => k_is); (case l27 => k_is); (case c27 => k_is); (case k27 => k_is); (case a2 => k_is); (case x2 => k_exc); (case k2 => k_is); (case b2 => k_is); (case t2 => k_is); (case a1 => k_is); (case x1 => k_exc); (case k1 => k_is); (case b1 => k_is); (case t1 => k_is); (case a3 => k_is); (case x3 => k_exc); (case k3 => k_is); (case b3 => k_is); (case t3 => k_is); (case ea2 => k_is); (case eb2 => k_is); (case ed2 => k_is); (case ec2 => k_is); (case em2 => k_is); (case s2_3 => k_is); (case ne2_3 => rfl); (case ea3 => k_is); (case eb3 => k_is); (case ed3 => k_is); (case ec3 => k_is); (case em3 => k_is); (case d3 => k_is); (case en => k_is); (case et => k_is); (case d1 => k_is); (case e2_1 => k_is); (case e3_1 => k_is); (case z_MOST_LETTERS => k_is); (case z_abs => k_is); (case z_all => k_is); (case z_bool => k_is); (case z_enumerate => k_is); (case z_int => k_is); (case z_isinstance => k_is); (case z_len => k_is); (case z_list => k_is); (case z_max => k_is); (case z_min => k_is); (case z_range => k_is); (case z_str => k_is); (case z_tuple => k_is)
