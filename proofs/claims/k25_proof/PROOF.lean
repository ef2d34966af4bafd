import PyProof.Rows.All
import Wide.All
import OpenK.AllK
import Wide.FinOn
import HandS.ForMost
import HandS.ForExc
import HandS.IsInst
import HandS.Wide
import HandS.CallLocal
import HandS.Defaults
import HandS.ExcInit
import HandS.ExcIs
import HandS.ExcField
import HandS.ExcValue
import HandS.RaiseMore
import HandS.Lambda
import HandS.EndTab
import PyProof.ReprRoads
import HandS.Comp
import KE.KDflt
import HandS.Property
import HandS.MakeKwOnly
import HandS.Star
import HandS.Flow
import HandS.Head0
import HandS.Head1
import HandS.Head2
import HandS.HeadEnd
import HandS.HeadHook1
import HandS.HeadHook2
import HandS.HeadHook3
import HandS.HeadHook4
import HandS.Iter
import HandS.Zip
import HandS.MakeKw
import HandS.More
import HandS.Style
import HandS.TupLe
import HandS.IterVal
import HandS.OwnIter
import HandS.TupMul
import HandS.Dict
import HandS.Small
import PySem.Challenge.RW_fairweather_k25_whole_an_own_computer
set_option Elab.async false
set_option linter.all false
set_option maxRecDepth 100000
set_option maxHeartbeats 4000000
/-! fair weather: the ground that all laws stand on -/
namespace FW
open PySem L2 PyProof.Rows

/-! ### readings, a step each -/
section
variable {σ : L2.St} {H : Hp} {D : Ends} {Q : VK} {ta tb te : TE} {t u : TS} {g : TG} {i : Nat} {v x y : V} {r : R2} {tt tu : TT} {QT : Bool → Hp → Prop}
theorem w_seq (h : t { D with nx := u D } σ H) : tSeq t u D σ H := h
theorem w_asg (h : te σ H fun x H1 => g x σ H1 D.nx) : tAsg te g D σ H := h
theorem w_name {QG : L2.St → Hp → Prop} (h : QG (σ.set i (some v)) H) : gName i v σ H QG := h
theorem w_ret (h : te σ H D.rt) : tRet te D σ H := h
theorem w_drop (h : te σ H fun _ H1 => D.nx σ H1) : tDrop te D σ H := h
theorem w_next (h : D.nx σ H) : tNext D σ H := h
theorem w_var (e : σ[i]? = some (some v)) (h : Q v H) : tVar i σ H Q := ⟨v, e, h⟩
theorem w_c (h : Q v H) : tC v σ H Q := h
theorem w_op (h : ta σ H fun x H1 => tb σ H1 fun y H2 => r x y H2 Q) : tOp r ta tb σ H Q := h
theorem w_un {ru : V → Hp → VK → Prop} (h : ta σ H fun x H1 => ru x H1 Q) : tUn ru ta σ H Q := h
theorem w_I0 {f : Int → Int → V} {a b : Int} (h : Q (f a b) H) : rI0 f (.int a) (.int b) H Q := ⟨a, b, rfl, rfl, h⟩
theorem w_I {C : Int → Int → Prop} {f : Int → Int → V} {a b : Int} (c : C a b) (h : Q (f a b) H) : rI C f (.int a) (.int b) H Q := ⟨a, b, rfl, rfl, c, h⟩
theorem w_U {f : Int → V} {a : Int} (h : Q (f a) H) : rU f (.int a) H Q := ⟨a, rfl, h⟩
theorem w_eq (s : scal x y = true) (h : Q (.bl (decide (x = y))) H) : rEq x y H Q := ⟨s, h⟩
theorem w_ne (s : scal x y = true) (h : Q (.bl (!decide (x = y))) H) : rNe x y H Q := ⟨s, h⟩
theorem w_test (h : ta σ H fun x H1 => ∃ c, x = .bl c ∧ QT c H1) : tTest ta σ H QT := h
theorem w_B (h : ta σ H fun x H1 => ∃ c, x = .bl c ∧ QT c H1) : tB ta σ H QT := h
theorem w_bl {b : Bool} {R : Bool → Prop} (h : R b) : ∃ c, V.bl b = .bl c ∧ R c := ⟨b, rfl, h⟩
theorem w_not (h : tt σ H fun c H1 => QT (!c) H1) : tNot tt σ H QT := h
theorem w_and (h : tt σ H fun c H1 => if c = true then tu σ H1 QT else QT false H1) : tAnd tt tu σ H QT := h
theorem w_or (h : tt σ H fun c H1 => if c = true then QT true H1 else tu σ H1 QT) : tOr tt tu σ H QT := h
theorem w_andV (h : ta σ H fun x H1 => ∃ c, x = .bl c ∧ if c = true then tb σ H1 Q else Q (.bl false) H1) : tAndV ta tb σ H Q := h
theorem w_orV (h : ta σ H fun x H1 => ∃ c, x = .bl c ∧ if c = true then Q (.bl true) H1 else tb σ H1 Q) : tOrV ta tb σ H Q := h
theorem w_notV (h : ta σ H fun x H1 => ∃ c, x = .bl c ∧ Q (.bl (!c)) H1) : tNotV ta σ H Q := h
theorem w_if (h : tt σ H fun c H1 => if c = true then t D σ H1 else u D σ H1) : tIfS tt t u D σ H := h
theorem w_ifE (h : tt σ H fun c H1 => if c = true then ta σ H1 Q else tb σ H1 Q) : tIf tt ta tb σ H Q := h
theorem w_ite {c : Bool} {A B : Prop} (h1 : c = true → A) (h2 : c = false → B) : if c = true then A else B := by
  cases c with
  | true => exact h1 rfl
  | false => exact h2 rfl
theorem w_iteD {p : Prop} [Decidable p] {A B : Prop} (h1 : p → A) (h2 : ¬ p → B) : if decide p = true then A else B := by
  by_cases h : p
  · rw [if_pos (decide_eq_true h)]; exact h1 h
  · rw [if_neg (by simp [h])]; exact h2 h
theorem w_iteN {p : Prop} [Decidable p] {A B : Prop} (h1 : ¬ p → A) (h2 : p → B) : if (!decide p) = true then A else B := by
  by_cases h : p
  · rw [if_neg (by simp [h])]; exact h2 h
  · rw [if_pos (by simp [h])]; exact h1 h
theorem w_rfl {A : Prop} (h : A) : V.non = V.non ∧ A := ⟨rfl, h⟩
theorem w_tr {A : Prop} (h : A) : True ∧ A := ⟨trivial, h⟩
theorem w_nyes {A B : Prop} (h : B) : if (!true) = true then A else B := h
theorem w_nno {A B : Prop} (h : A) : if (!false) = true then A else B := h
theorem w_T {A B : Prop} (h : A) : if True then A else B := by rw [if_pos trivial]; exact h
theorem w_F {A B : Prop} (h : B) : if False then A else B := by rw [if_neg not_false]; exact h
theorem w_yes {A B : Prop} (h : A) : if true = true then A else B := h
theorem w_no {A B : Prop} (h : B) : if false = true then A else B := h
theorem w_nil {QA : List V → Hp → Prop} (h : QA [] H) : tNil σ H QA := h
theorem w_cons {ta : TE} {tr : TA} {QA : List V → Hp → Prop} (h : ta σ H fun x H1 => tr σ H1 fun xs H2 => QA (x :: xs) H2) : tCons ta tr σ H QA := h
theorem w_cb {rc : List V → Hp → VK → Prop} {t : TA} (h : t σ H fun vs H1 => rc vs H1 Q) : tCB rc t σ H Q := h
theorem w_call {sp : Sp} {dvs : List V} {E : XK} {t : TA} (h : t σ H fun vs H1 => sp (vs ++ dvs) H1 Q E) : tCall sp dvs E t σ H Q := h
theorem w_lst {t : TA} (h : t σ H fun xs H1 => xs.length ≤ sizeLine ∧ ∀ p, H1 p = none → Q (.ref p) (upd H1 p (.lst xs))) : tLst t σ H Q := h
theorem w_tup {t : TA} (h : t σ H fun xs H1 => xs.length ≤ sizeLine ∧ ∀ p, H1 p = none → Q (.ref p) (upd H1 p (.tup xs))) : tTup t σ H Q := h
theorem w_ixL {K : PySem.W.Frag} {p : Addr} {xs : List V} {k : Int} (s : SqL K H p xs) (e : atI xs k = some v) (h : Q v H) : rIxL K (.ref p) (.int k) H Q := ⟨p, xs, k, v, rfl, rfl, s, e, h⟩
theorem w_sub {ti to : TE} {ts : TSet} {QG : L2.St → Hp → Prop} (h : to σ H fun o H1 => ti σ H1 fun i H2 => ts o i v H2 fun H3 => QG σ H3) : gSub to ti ts v σ H QG := h
theorem w_setL {p : Addr} {xs : List V} {k : Int} {j : Nat} {QH : Hp → Prop} (e : H p = some (.lst xs)) (ej : ixN xs.length k = some j) (h : QH (upd H p (.lst (xs.set j v)))) : rSetL (.ref p) (.int k) v H QH := ⟨p, xs, k, j, rfl, rfl, e, ej, h⟩
end

/-- `int` of an int or of a truth -/
def rInt1 : List V → Hp → VK → Prop := fun xs H Q => match xs with
  | [.int i] => Q (.int i) H
  | [.bl b] => Q (.int (if b then 1 else 0)) H
  | _ => False
theorem call_intA {X : Cx} : CallR X (.type "int") rInt1 := by
  intro pins s σ H xs us Q I r h
  refine call_int1 pins s σ H xs us Q I r ?_
  unfold rInt1 at h
  split at h
  · exact Or.inl ⟨_, rfl, h⟩
  · exact Or.inr ⟨_, rfl, h⟩
  · exact h.elim
theorem w_int {i : Int} {H : Hp} {Q : VK} (h : Q (.int i) H) : rInt1 [.int i] H Q := h
theorem w_intB {b : Bool} {H : Hp} {Q : VK} (h : Q (.int (if b then 1 else 0)) H) : rInt1 [.bl b] H Q := h
def rAbs : List V → Hp → VK → Prop := fun xs H Q => ∃ i, xs = [.int i] ∧ Q (.int (if i < 0 then -i else i)) H
theorem call_absA {X : Cx} : CallR X (.builtin "abs") rAbs := call_abs
theorem w_abs {i : Int} {H : Hp} {Q : VK} (h : Q (.int (if i < 0 then -i else i)) H) : rAbs [.int i] H Q := ⟨i, rfl, h⟩
def rLen (K : PySem.W.Frag) : List V → Hp → VK → Prop := fun xs H Q => ∃ x n, xs = [x] ∧ LenV K x H n ∧ Q (.int n) H
theorem call_lenA {X : Cx} : CallR X (.builtin "len") (rLen X.K) := call_len
theorem w_lenL {K : PySem.W.Frag} {H : Hp} {Q : VK} {p : Addr} {xs : List V} (s : SqL K H p xs) (h : Q (.int xs.length) H) : rLen K [.ref p] H Q := ⟨.ref p, xs.length, rfl, Or.inl ⟨xs, s, rfl⟩, h⟩

/-! ### the cloud: what a law draws from -/
/-- at c a list of the cells (at another place), how many were begun (n), what is left of a great one -/
def Cloud (K : PySem.W.Frag) (H : Hp) (c : Addr) (n : Nat) : Prop :=
  ∃ (l : Addr) (cells : List Int) (rest : Int), H c = some (.lst [.ref l, .int n, .int rest]) ∧ SqL K H l (cells.map V.int) ∧ l ≠ c
/-- all but c is as it was -/
def Ext (c : Addr) (H H' : Hp) : Prop := ∀ b o, b ≠ c → H b = some o → H' b = some o
theorem Ext.refl (c : Addr) (H : Hp) : Ext c H H := fun _ _ _ h => h
theorem Ext.trans {c : Addr} {H H1 H2 : Hp} (a : Ext c H H1) (b : Ext c H1 H2) : Ext c H H2 := fun x o n h => b x o n (a x o n h)
theorem Ext.upd {c : Addr} {H : Hp} {o : HO} : Ext c H (upd H c o) := fun b u n h => by rw [upd_ne n]; exact h
theorem Ext.new {c p : Addr} {H : Hp} {o : HO} (h : H p = none) : Ext c H (L2.upd H p o) := fun b u _ e => by rw [upd_ne (ne_of_none e h)]; exact e
theorem Ext.sqL {c a : Addr} {K : PySem.W.Frag} {H H' : Hp} {xs : List V} (e : Ext c H H') (n : a ≠ c) (h : SqL K H a xs) : SqL K H' a xs := by
  rcases h with (h | ⟨o, h⟩) | h
  · exact .inl (.inl (e _ _ n h))
  · exact .inl (.inr ⟨o, e _ _ n h⟩)
  · exact .inr h
theorem Ext.sqT {c a : Addr} {K : PySem.W.Frag} {H H' : Hp} {xs : List V} (e : Ext c H H') (n : a ≠ c) (h : SqT K H a xs) : SqT K H' a xs := by
  rcases h with (h | ⟨o, h⟩) | h
  · exact .inl (.inl (e _ _ n h))
  · exact .inl (.inr ⟨o, e _ _ n h⟩)
  · exact .inr h
/-- a draw: an int from 0 below many; one cell more was begun at most -/
def spDrop (K : PySem.W.Frag) : Sp := fun vs H Q _ => ∃ (c : Addr) (n : Nat) (many : Int), vs = [.ref c, .int many] ∧ Cloud K H c n ∧ n < 1000000 ∧ 0 < many ∧ many < 1073741824 ∧
  ∀ (r : Int) (n' : Nat) (H' : Hp), 0 ≤ r → r < many → n' ≤ n + 1 → Cloud K H' c n' → Ext c H H' → Q (.int r) H'
/-! ### arithmetic of great ints -/
def CDivA (_ j : Int) : Prop := j ≠ 0 ∧ j.natAbs.log2 < 9000
theorem op_fdivA {X : Cx} : OpR X (binaryOp .FloorDiv) (rI CDivA fun i j => .int (i.fdiv j)) := opI fun _ _ _ _ _ _ _ hc q => floordiv_int hc.1 q (.inl (PyProof.noPylong_of_log2 hc.2))
theorem log2_lt {n k : Nat} (h : n < 2 ^ k) (h0 : 0 < k) : n.log2 < k := PySem.Flt.log2_lt_of h0 h

/-! ### lists of ints as data -/
theorem dpAll_ints (K : PySem.W.Frag) (H : Hp) : ∀ ns : List Int, DpAll K H (ns.map V.int) (ns.map PyData.int)
  | [] => .nil
  | n :: ns => .cons (.int n) (dpAll_ints K H ns)
theorem canLay_ints : ∀ ns : List Int, PyData.canLayAll0 (ns.map PyData.int) = true
  | [] => by simp [PyData.canLayAll0]
  | n :: ns => by simp [PyData.canLayAll0, PyData.canLay0, canLay_ints ns]
theorem shaped_ints (ns : List Int) : SeqAt.shaped (.list (ns.map PyData.int)) = true := by
  have h1 : PyData.canLay0 (.list (ns.map PyData.int)) = true := by simp [PyData.canLay0, canLay_ints]
  have h2 : PyData.depth (.list (ns.map PyData.int)) ≤ 64 := by
    have := depthAll_ints ns
    simp only [PyData.depth]
    omega
  unfold SeqAt.shaped
  rw [h1, decide_eq_true h2]
  rfl
theorem shaped_nil : SeqAt.shaped (.list []) = true := shaped_ints []
/-- xs != [] for a list of ints -/
theorem w_neNil {K : PySem.W.Frag} {H : Hp} {Q : VK} {a p : Addr} {ns : List Int} (h1 : SqL K H a (ns.map V.int)) (h2 : SqL K H p []) (h : Q (.bl (!ns.isEmpty)) H) : rNeD K (.ref a) (.ref p) H Q := by
  refine ⟨_, _, .lst h1 (dpAll_ints K H ns), .lst h2 .nil, shaped_ints ns, shaped_nil, ?_⟩
  have e : PyData.eqv (.list (ns.map PyData.int)) (.list []) = ns.isEmpty := by
    cases ns with
    | nil => simp [PyData.eqv, PyData.eqvAll]
    | cons n ns => simp [PyData.eqv, PyData.eqvAll]
  rw [e]
  exact h
theorem atI_map {ns : List Int} {i : Int} (h0 : 0 ≤ i) (h1 : i < ns.length) : ∃ z, ns[i.toNat]? = some z ∧ atI (ns.map V.int) i = some (.int z) := by
  obtain ⟨j, rfl⟩ : ∃ j : Nat, i = (j : Int) := ⟨i.toNat, by omega⟩
  have hj : j < ns.length := by omega
  refine ⟨ns[j], by simp [hj], at_of rfl (by simp [hj])⟩
theorem sqL_new {K : PySem.W.Frag} {H : Hp} {a p : Addr} {xs : List V} {o : HO} (h : H p = none) (q : SqL K H a xs) : SqL K (upd H p o) a xs := by
  rcases q with (q | ⟨u, q⟩) | q
  · exact .inl (.inl (by rw [upd_ne (ne_of_none q h)]; exact q))
  · exact .inl (.inr ⟨u, by rw [upd_ne (ne_of_none q h)]; exact q⟩)
  · exact .inr q
theorem sqT_new {K : PySem.W.Frag} {H : Hp} {a p : Addr} {xs : List V} {o : HO} (h : H p = none) (q : SqT K H a xs) : SqT K (upd H p o) a xs := by
  rcases q with (q | ⟨u, q⟩) | q
  · exact .inl (.inl (by rw [upd_ne (ne_of_none q h)]; exact q))
  · exact .inl (.inr ⟨u, by rw [upd_ne (ne_of_none q h)]; exact q⟩)
  · exact .inr q
theorem sqL_ne {K : PySem.W.Frag} {H : Hp} {a p : Addr} {xs : List V} {o : HO} (n : a ≠ p) (q : SqL K H a xs) : SqL K (upd H p o) a xs := by
  rcases q with (q | ⟨u, q⟩) | q
  · exact .inl (.inl (by rw [upd_ne n]; exact q))
  · exact .inl (.inr ⟨u, by rw [upd_ne n]; exact q⟩)
  · exact .inr q
theorem sqT_ne {K : PySem.W.Frag} {H : Hp} {a p : Addr} {xs : List V} {o : HO} (n : a ≠ p) (q : SqT K H a xs) : SqT K (upd H p o) a xs := by
  rcases q with (q | ⟨u, q⟩) | q
  · exact .inl (.inl (by rw [upd_ne n]; exact q))
  · exact .inl (.inr ⟨u, by rw [upd_ne n]; exact q⟩)
  · exact .inr q
theorem w_made {n : Nat} {H : Hp} {R : Addr → Prop} (hn : n ≤ sizeLine) (h : ∀ p, H p = none → R p) : n ≤ sizeLine ∧ ∀ p, H p = none → R p := ⟨hn, h⟩
theorem rd_new {H : Hp} {a p : Addr} {o u : HO} (h : H p = none) (q : H a = some u) : upd H p o a = some u := by rw [upd_ne (ne_of_none q h)]; exact q
theorem rd_ne {H : Hp} {a p : Addr} {o u : HO} (n : a ≠ p) (q : H a = some u) : upd H p o a = some u := by rw [upd_ne n]; exact q
theorem mix2 {m n a b c : Int} (m0 : 0 ≤ m) (m1 : m < 2147483648) (n0 : 0 ≤ n) (n1 : n < 1000000) (a0 : 0 ≤ a) (a1 : a ≤ 10000) (b0 : 0 ≤ b) (b1 : b ≤ 1000000) (c0 : 0 ≤ c) (c1 : c ≤ 1000000) :
    CPow (m * (2 * n + a) + b * n * n + c) 3 := by
  refine ⟨by decide, by decide, ?_⟩
  have h1 : 0 ≤ m * (2 * n + a) := Int.mul_nonneg m0 (by omega)
  have h2 : m * (2 * n + a) ≤ 2147483648 * 2010000 := Int.mul_le_mul (by omega) (by omega) (by omega) (by omega)
  have h3 : 0 ≤ b * n := Int.mul_nonneg b0 n0
  have h4 : b * n ≤ 1000000 * 1000000 := Int.mul_le_mul b1 (by omega) n0 (by omega)
  have h5 : 0 ≤ b * n * n := Int.mul_nonneg h3 n0
  have h6 : b * n * n ≤ (1000000 * 1000000) * 1000000 := Int.mul_le_mul h4 (by omega) n0 (by omega)
  omega
/-! ### kinds of values -/
def isInt : V → Bool
  | .int _ => true
  | _ => false
def isIntB : V → Bool
  | .int _ => true
  | .bl _ => true
  | _ => false
def isBl : V → Bool
  | .bl _ => true
  | _ => false
def isStr : V → Bool
  | .str _ => true
  | _ => false
/-- a value of a plain kind: a reference is to a list, a tuple or a dict -/
def Kn (K : PySem.W.Frag) (H : Hp) : V → Prop
  | .ref a => ∃ T, (T = "list" ∨ T = "tuple" ∨ T = "dict") ∧ TyX K H (.ref a) (.type T)
  | .non => True
  | .bl _ => True
  | .int _ => True
  | .str _ => True
  | _ => False
/-- how a value of a plain kind answers to a built-in class -/
theorem kn_ty {K : PySem.W.Frag} {H : Hp} {v : V} (h : Kn K H v) : ∃ T, TyX K H v (.type T) ∧ (T = "list" ∨ T = "tuple" ∨ T = "dict" ∨ T = "NoneType" ∨ T = "bool" ∨ T = "int" ∨ T = "str") ∧
    (isInt v = (T == "int")) ∧ (isBl v = (T == "bool")) ∧ (isStr v = (T == "str")) := by
  cases v with
  | ref a =>
    obtain ⟨T, e, t⟩ := h
    rcases e with rfl | rfl | rfl
    · exact ⟨_, t, by simp, by simp [isInt], by simp [isBl], by simp [isStr]⟩
    · exact ⟨_, t, by simp, by simp [isInt], by simp [isBl], by simp [isStr]⟩
    · exact ⟨_, t, by simp, by simp [isInt], by simp [isBl], by simp [isStr]⟩
  | non => exact ⟨"NoneType", .base .non, by simp, by simp [isInt], by simp [isBl], by simp [isStr]⟩
  | bl b => exact ⟨"bool", .base (.bl b), by simp, by simp [isInt], by simp [isBl], by simp [isStr]⟩
  | int i => exact ⟨"int", .base (.int i), by simp, by simp [isInt], by simp [isBl], by simp [isStr]⟩
  | str x => exact ⟨"str", .base (.str x), by simp, by simp [isInt], by simp [isBl], by simp [isStr]⟩
  | byt _ => exact h.elim
  | flt _ => exact h.elim
  | ty _ => exact h.elim
theorem w_isInt {K : PySem.W.Frag} {H : Hp} {Q : VK} {v : V} (h : Kn K H v) (q : Q (.bl (isIntB v)) H) : rIsi K [v, .ty "int"] H Q := by
  obtain ⟨T, t, e, e1, e2, e3⟩ := kn_ty h
  refine ⟨v, .ty "int", .type T, .type "int", isIntB v, rfl, .ty "int", t, ?_, q⟩
  have q1 : isIntB v = (isInt v || isBl v) := by cases v <;> rfl
  rw [q1, e1, e2]
  rcases e with rfl | rfl | rfl | rfl | rfl | rfl | rfl <;> exact kit_ty (by decide +kernel)
theorem w_isBl {K : PySem.W.Frag} {H : Hp} {Q : VK} {v : V} (h : Kn K H v) (q : Q (.bl (isBl v)) H) : rIsi K [v, .ty "bool"] H Q := by
  obtain ⟨T, t, e, e1, e2, e3⟩ := kn_ty h
  refine ⟨v, .ty "bool", .type T, .type "bool", isBl v, rfl, .ty "bool", t, ?_, q⟩
  rw [e2]
  rcases e with rfl | rfl | rfl | rfl | rfl | rfl | rfl <;> exact kit_ty (by decide +kernel)
theorem w_isStr {K : PySem.W.Frag} {H : Hp} {Q : VK} {v : V} (h : Kn K H v) (q : Q (.bl (isStr v)) H) : rIsi K [v, .ty "str"] H Q := by
  obtain ⟨T, t, e, e1, e2, e3⟩ := kn_ty h
  refine ⟨v, .ty "str", .type T, .type "str", isStr v, rfl, .ty "str", t, ?_, q⟩
  rw [e3]
  rcases e with rfl | rfl | rfl | rfl | rfl | rfl | rfl <;> exact kit_ty (by decide +kernel)

/-! ### a text in a row of texts -/
theorem inV_strs (x : Str) : ∀ ss : List Str, inV (.str x) (ss.map V.str) = ss.contains x
  | [] => rfl
  | s :: ss => by
    have ih := inV_strs x ss
    unfold inV at ih ⊢
    rw [List.map_cons, List.any_cons, ih, List.contains_cons]
    congr 1
    show eqV (.str s) (.str x) = (x == s)
    by_cases h : x = s
    · subst h; simp [eqV]
    · have h2 : ¬ s = x := fun e => h e.symm
      show (s == x) = (x == s)
      rw [beq_eq_false_iff_ne.mpr h, beq_eq_false_iff_ne.mpr h2]
theorem flat_strs : ∀ ss : List Str, (ss.map V.str).all flatV = true
  | [] => rfl
  | s :: ss => by rw [List.map_cons, List.all_cons, flat_strs ss]; rfl
theorem w_inT {K : PySem.W.Frag} {H : Hp} {Q : VK} {p : Addr} {x : Str} {ss : List Str} (s : SqT K H p (ss.map V.str)) (q : Q (.bl (ss.contains x)) H) : rIn K false (.str x) (.ref p) H Q :=
  ⟨p, _, rfl, .inr s, rfl, flat_strs ss, by rw [inV_strs]; exact q⟩
theorem w_notInT {K : PySem.W.Frag} {H : Hp} {Q : VK} {p : Addr} {x : Str} {ss : List Str} (s : SqT K H p (ss.map V.str)) (q : Q (.bl (!ss.contains x)) H) : rIn K true (.str x) (.ref p) H Q :=
  ⟨p, _, rfl, .inr s, rfl, flat_strs ss, by rw [inV_strs]; exact q⟩

/-! ### defs that may be called by their names -/
/-- a def of the text as it stands behind the top, under its name -/
structure DefOk (K : PySem.W.Frag) (mg : Str → Option Value) (x : Str) (st : Stmt) (ps : List Str) : Prop where
  ex : ∃ (f : Addr) (fd : FuncData), Fun K x x st f fd ∧ mg x = some (.ref f) ∧ Binds K fd ps []
structure Can (P : Program) (w : World) (K : PySem.W.Frag) (mg : Str → Option Value) (base : Heap) (CX : CXT) (k : Nat) (x : Str) (ps : List Str) (sp : Sp) : Prop where
  ex : ∃ (f : Addr) (fd : FuncData), FnOk P w K mg base CX k f fd ps sp ∧ mg x = some (.ref f) ∧ PySem.W.keepIn K (.ref f) = true ∧ Binds K fd ps []
theorem DefOk.can {P : Program} {w : World} {K : PySem.W.Frag} {mg : Str → Option Value} {base : Heap} {CX : CXT} {k : Nat} {x : Str} {st : Stmt} {ps : List Str} {sp : Sp} (d : DefOk K mg x st ps)
    (h : ∀ f fd, Fun K x x st f fd → FnOk P w K mg base CX k f fd ps sp) : Can P w K mg base CX k x ps sp := by
  obtain ⟨f, fd, F, m, b⟩ := d.ex
  exact ⟨f, fd, h f fd F, m, F.kp, b⟩
section
variable {X : Cx} {CX : CXT} {k j : Nat} {x : Str} {ps : List Str} {sp : Sp} {E : XK} {p pos : Pos} {e : Expr} {es : List Expr} {t : TA}
theorem pe_can (c : Can X.prog X.w X.K X.mg X.base CX k x ps sp) (hr : Room j X.A) (hk : k ≤ j) (hx : Passes CX X E) (hg : Gl X x) (ha : PA X (e :: es) t) (hdb : (x == ("__debug__" : Str)) = false := by decide)
    (he : starEach (e :: es) X.env = (false, eval e X.env) :: starEach es X.env := by rfl) (hpl : (backTo pos (starEach es X.env)).any (·.1) = false := by rfl) :
    PE X (.Call (.Name x p) (e :: es) [] pos) (tCall sp [] E t) := by
  obtain ⟨f, fd, F, m, kp, b⟩ := c.ex
  exact pe_call F (hr.mono hk) hg m kp b .nil hx ha hdb he hpl
/-- a constant of the text -/
theorem pe_gc {X : Cx} {x : Str} {v : V} {pos : Pos} (hg : Gl X x) (h : ∃ u, X.mg x = some u ∧ RelV v u) (hd : (x == ("__debug__" : Str)) = false := by decide) : PE X (.Name x pos) (tC v) := by
  obtain ⟨u, hm, r⟩ := h
  exact pe_glob hg hm r hd
/-! ### a local name that holds a def -/
def tHeld (P : Program) (w : World) (K : PySem.W.Frag) (mg : Str → Option Value) (base : Heap) (k i : Nat) (t : TA) : TE := fun σ H Q => ∃ f sp, σ[i]? = some (some (.ref f)) ∧ Held P w K mg base k f sp ∧ t σ H fun vs H1 => sp vs H1 Q (fun _ _ _ => False)
theorem pe_held {X : Cx} {k i : Nat} {x : Str} {p pos : Pos} {e : Expr} {es : List Expr} {t : TA} (hr : Room k X.A) (hN : X.N[i]? = some x) (hv : Vis X.env.scope x) (ha : PA X (e :: es) t)
    (hdb : (x == ("__debug__" : Str)) = false := by decide) (hcd : (x == ("__classdict__" : Str)) = false := by decide)
    (he : starEach (e :: es) X.env = (false, eval e X.env) :: starEach es X.env := by rfl) (hpl : (backTo pos (starEach es X.env)).any (·.1) = false := by rfl) : PE X (.Call (.Name x p) (e :: es) [] pos) (tHeld X.prog X.w X.K X.mg X.base k i t) := by
  refine ⟨fun pins s σ H Q I h => ?_⟩
  obtain ⟨f, sp, hs, hS, ht⟩ := h
  exact (pe_callA (p := p) (pos := pos) (S := fun a => if a = f then some sp else none) (fun g sg e => by
    by_cases hg : g = f
    · subst hg; simp at e; subst e; exact hS
    · simp [hg] at e) hr hN hv ha hdb hcd he hpl).run pins s σ H Q I ⟨f, sp, hs, by simp, ht⟩
theorem w_held {P : Program} {w : World} {K : PySem.W.Frag} {mg : Str → Option Value} {base : Heap} {k i : Nat} {t : TA} {σ : L2.St} {H : Hp} {Q : VK} {f : Addr} {sp : Sp} (e : σ[i]? = some (some (.ref f))) (h : Held P w K mg base k f sp)
    (q : t σ H fun vs H1 => sp vs H1 Q (fun _ _ _ => False)) : tHeld P w K mg base k i t σ H Q := ⟨f, sp, e, h, q⟩
end
/-! ### what grows -/
def Grow (H H' : Hp) : Prop := ∀ b o, H b = some o → H' b = some o
theorem Grow.refl (H : Hp) : Grow H H := fun _ _ e => e
theorem Grow.trans {H H1 H2 : Hp} (a : Grow H H1) (b : Grow H1 H2) : Grow H H2 := fun x o e => b x o (a x o e)
theorem Grow.new {H : Hp} {p : Addr} {o : HO} (n : H p = none) : Grow H (upd H p o) := fun b u e => by rw [upd_ne (ne_of_none e n)]; exact e
theorem Grow.ext {c : Addr} {H H' : Hp} (g : Grow H H') : Ext c H H' := fun b o _ e => g b o e
theorem Grow.sqL {K : PySem.W.Frag} {H H' : Hp} {a : Addr} {xs : List V} (g : Grow H H') (h : SqL K H a xs) : SqL K H' a xs := by
  rcases h with (h | ⟨o, h⟩) | h
  · exact .inl (.inl (g _ _ h))
  · exact .inl (.inr ⟨o, g _ _ h⟩)
  · exact .inr h
theorem Grow.sqT {K : PySem.W.Frag} {H H' : Hp} {a : Addr} {xs : List V} (g : Grow H H') (h : SqT K H a xs) : SqT K H' a xs := by
  rcases h with (h | ⟨o, h⟩) | h
  · exact .inl (.inl (g _ _ h))
  · exact .inl (.inr ⟨o, g _ _ h⟩)
  · exact .inr h
theorem Cloud.grow {K : PySem.W.Frag} {H H' : Hp} {c : Addr} {n : Nat} (g : Grow H H') (h : Cloud K H c n) : Cloud K H' c n := by
  obtain ⟨l, cells, rest, h1, h2, h3⟩ := h
  exact ⟨l, cells, rest, g _ _ h1, g.sqL h2, h3⟩
theorem Cloud.new {K : PySem.W.Frag} {H : Hp} {c p : Addr} {n : Nat} {o : HO} (e : H p = none) (h : Cloud K H c n) : Cloud K (upd H p o) c n := h.grow (Grow.new e)
theorem Cloud.some {K : PySem.W.Frag} {H : Hp} {c : Addr} {n : Nat} (h : Cloud K H c n) : ∃ o, H c = some o := by
  obtain ⟨l, cells, rest, h1, _⟩ := h
  exact ⟨_, h1⟩
theorem Cloud.ne {K : PySem.W.Frag} {H : Hp} {c p : Addr} {n : Nat} (h : Cloud K H c n) (e : H p = none) : p ≠ c := by
  obtain ⟨o, q⟩ := h.some
  exact fun z => ne_of_none q e z.symm
/-! ### targets -/
section
variable {K : PySem.W.Frag} {σ : L2.St} {H : Hp} {QG : L2.St → Hp → Prop} {v : V} {vs : List V}
theorem w_gtup {n : Nat} {t : TGs} {a : Addr} (s : SqT K H a vs) (l : vs.length = n) (h : t vs σ H QG) : gTup K n t (.ref a) σ H QG := ⟨a, vs, rfl, s, l, h⟩
theorem w_gcons {t : TG} {u : TGs} (h : t v σ H fun σ' H' => u vs σ' H' QG) : gCons t u (v :: vs) σ H QG := ⟨v, vs, rfl, h⟩
theorem w_gnil (h : QG σ H) : gNil [] σ H QG := ⟨rfl, h⟩
end
theorem w_par {σ : L2.St} {H : Hp} {D : Ends} {i j : Nat} {ta : TA} (h : ta σ H fun vs H1 => ∃ v w, vs = [v, w] ∧ D.nx ((σ.set i (some v)).set j (some w)) H1) : tPar i j ta D σ H := h
theorem w_par2 {v u : V} {R : V → V → Prop} (h : R v u) : ∃ x y, [v, u] = [x, y] ∧ R x y := ⟨v, u, rfl, h⟩
theorem w_inX {K : PySem.W.Frag} {H : Hp} {Q : VK} {p : Addr} {x : V} {vs : List V} (s : SqT K H p vs) (f1 : flatV x = true) (f : vs.all flatV = true) (q : Q (.bl (inV x vs)) H) : rIn K false x (.ref p) H Q := ⟨p, vs, rfl, .inr s, f1, f, q⟩
theorem w_chain {r r' : R2} {ta tb tc : TE} {σ : L2.St} {H : Hp} {Q : VK} (h : ta σ H fun x H1 => tb σ H1 fun y H2 => r x y H2 fun z H3 => ∃ k, z = .bl k ∧ (if k = true then tc σ H3 fun w' H4 => r' y w' H4 Q else Q (.bl false) H3)) : tChain r r' ta tb tc σ H Q := h
theorem w_dnew {σ : L2.St} {H : Hp} {Q : VK} (h : ∀ p, H p = none → Q (.ref p) (upd H p (.dK []))) : tDNewK σ H Q := h
theorem w_callNB {n m : Nat} {sp : Sp} {gV : List V → List V → List V} {E : XK} {t tk : TA} {σ : L2.St} {H : Hp} {Q : VK} (h : t σ H fun vs H1 => tk σ H1 fun zs H2 => vs.length = n ∧ zs.length = m ∧ sp (gV vs zs) H2 Q E) : tCallN n m sp gV E t tk σ H Q := h
end FW

set_option maxRecDepth 100000
set_option maxHeartbeats 4000000
/-! fair weather: exceptions that are kept -/
namespace PySem.W
open PySem PySem.Spec PySem.Calls PyProof.Rows
section
variable {prog : Program} {w : World} {A : Around} {E : Value → Shared → Prop} {s : Shared} {K : Frag} {x D : Addr} {ox : Obj} {od : Option Obj}
theorem fw_findClass (dct : hasDictIn K D = true) (ha : findIn K (.ref D) "__class__" = some (some (.builtin "object.__class__"))) (hn : specialIn K (.builtin "object.__class__") "__get__" = some (some (.builtin "getset_descriptor.__get__")))
    (htk : takesIn K (.builtin "object.__class__") = some true) : findObj K D od "__class__" = some (.bind (.builtin "getset_descriptor.__get__") (.builtin "object.__class__")) := by
  obtain ⟨cd, hc, _⟩ := any_some dct
  unfold findObj
  rw [hc, Option.bind_some, ha, Option.bind_some]
  simp [hn, htk]
/-- the class of an own exception, asked by isinstance: whether it has a dict or not -/
theorem fw_class {Q : Option Value → Shared → Prop} (C : L2.ExcC K D) (X : K.In s.heap) (I : InstAt s.heap x ox D od) (h : Q (some (.ref D)) { s with toks := s.toks + 1 }) : wpAny (model prog w) A (getAttr? (.ref x) "__class__") Q E s := by
  have hf := fw_findClass (od := od) C.hd C.ha C.hn C.ht
  obtain ⟨hp, gs, dr, tk, os⟩ := s
  have l0 := I.type (M := model prog w)
  have l1 := looks_findIn (M := model prog w) X C.hg
  have l2 := looks_findIn (M := model prog w) X C.hk
  have l3 := looks_find (M := model prog w) X I hf
  have ls : Looks (model prog w) hp (isInstance (.ref x) (.type "BaseException")) true := l0.andThen (looks_subIn X C.hs)
  have b0 : (false && onTheHeap (Value.builtin "BaseException.__getattribute__")) = false := rfl
  have b2 : (Value.builtin "BaseException.__getattribute__" == Value.builtin "object.__getattribute__") = false := by decide +kernel
  have b1 : (onTheHeap (Value.ref D) && Value.builtin "BaseException.__getattribute__" == Value.builtin "object.__getattribute__") = false := by rw [b2]; rfl
  unfold getAttr? getAttrBy? getAttrBy
  refine wpAny_bind (wpAny_mkText (wpAny_bind (wpAny_attempt (wpAny_holding (wpAny_bind (l0.at (wpAny_bind (l1.at ?_))))))))
  show wpAny _ _ (if (onTheHeap (Value.ref D) && Value.builtin "BaseException.__getattribute__" == Value.builtin "object.__getattribute__") = true then _ else _) _ _ _
  rw [b1, if_neg Bool.false_ne_true]; unfold getAttrByItsOwn hookBefore
  refine wpAny_bind ?_
  rw [if_pos (show onTheHeap (Value.ref D) = true from rfl)]
  refine l2.at ?_
  refine wpAny_bind (wpAny_attempt (wpAny_holding ?_))
  unfold callGetattribute; rw [b0, if_neg Bool.false_ne_true]; unfold boundAndCalled
  rw [PySem.F.excAttr_ValueError.ga.bind (.ref x)]
  refine wpAny_bind (wpAny_pure ?_)
  show wpAny _ _ (call (.builtin "BaseException.__getattribute__") [.ref x, .str "__class__" tk]) _ _ _
  refine wpAny_call (codeAny_call_builtin PySem.F.excAttr_ValueError.ga.plain PySem.F.entry_bexc_ga ?_)
  refine @check_slot (model prog w) _ _ ⟨hp, gs, dr, tk + 1, os⟩ "BaseException.__getattribute__" "BaseException" "__getattribute__" (.ref x) [.str "__class__" tk] [] _ (by decide +kernel) (by decide +kernel) ls (PySem.F.args_bexc_ga (.ref x) (.str "__class__" tk)) ?_
  unfold Builtin.«object.__getattribute__»
  refine wpAny_bind (wpAny_of_eq (a := ((Value.ref x : Value), [Value.str "__class__" tk])) (by first | rfl | (simp only [slotArgs]; rfl)) ?_)
  refine wpAny_bind (wpAny_pure (wpAny_bind (l0.at (wpAny_bind (l3.at ?_)))))
  show wpAny _ _ (holding [Value.builtin "object.__class__"] (call (.builtin "getset_descriptor.__get__") [.builtin "object.__class__", .ref x, .ref D]) >>= ret) _ _ _
  refine wpAny_bind (wpAny_holding (wpAny_call (class_get (s := ⟨hp, gs, dr, tk + 1, os⟩) (ox := ox) (od := od) X I C.hm ?_)))
  refine wpAny_pure ?_
  show wpAny _ _ (handedOut (.ref D)) _ _ _
  rw [handedOut_of (v := .ref D) rfl]
  first
    | exact wpAny_pure (wpAny_pure h)
    | exact wpAny_pure h
    | exact wpAny_pure (wpAny_bind (wpAny_pure (wpAny_pure h)))
theorem fw_kitx (C : L2.ExcC K D) : KitX K (.ref x) (.ref D) (fun h => InstAt h x ox D od) where
  ty := fun _ _ _ I => I.type
  it := fun _ _ X _ => by
    obtain ⟨cd, hc, _⟩ := any_some C.hd
    unfold clsIn at hc; split at hc
    · rename_i ho
      intro A Q E s k q; unfold isType loadHead
      exact wpAny_bind (wpAny_loadPart (k _ _ (X _ _ ho)) (wpAny_pure q))
    · exact nomatch hc
  ne := fun h tp dd its n sl X htp => (handS_kitx_exc (x := x) (ox := ox) C.hg C.hk C.hs C.hd C.ha C.hn C.ht C.hm).ne h tp dd its n sl X htp
  ca := fun X I k => fw_class C X I k
end
end PySem.W

namespace FW
open PySem L2 PyProof.Rows
/-- an exception that is kept, at a: its class, its dict -/
def ExT (a : Addr) (cls : Value) (d : Option Addr) : HO := .ext fun h => ∃ (oe : Obj) (vs : Array Value), h.get? a = some oe ∧ Zc cls d oe ∧ oe.data = .fields vs
theorem exT_ok {P : Program} {w : World} {H : Hp} {h : Heap} {a : Addr} {cls : Value} {d : Option Addr} {oe : Obj} {vs : Array Value} (e : h.get? a = some oe) (z : Zc cls d oe) (f : oe.data = .fields vs) : ObjOk P w H h a (ExT a cls d) :=
  ⟨⟨oe, vs, e, z, f⟩, ⟨oe, e⟩, fun _ _ ⟨o, v, q, r⟩ k => ⟨o, v, k o q, r⟩⟩
theorem exT_at {P : Program} {w : World} {H : Hp} {h : Heap} {a : Addr} {cls : Value} {d : Option Addr} (ok : HOk P w H h) (e : H a = some (ExT a cls d)) : ∃ (oe : Obj) (vs : Array Value), h.get? a = some oe ∧ Zc cls d oe ∧ oe.data = .fields vs := by
  have x : ObjOk P w H h a (.ext fun h => ∃ (oe : Obj) (vs : Array Value), h.get? a = some oe ∧ Zc cls d oe ∧ oe.data = .fields vs) := ok a _ e
  exact x.1
section
variable {X : Cx} {pins : List (Addr × Obj)} {σ : L2.St} {H : Hp} {sI s' : Shared} {B : Heap} {a : Addr} {cls : Value} {d : Option Addr} {oe : Obj} {vs : Array Value}
/-- an exception has landed, and is kept from now on -/
theorem landT (I : Inv X pins σ H sI) (nb : ∀ b o, sI.heap.get? b = some o → b ∉ frs X.stack → B.get? b = some o) (ba : B.get? a = none) (na : H a = none) (nfr : a ∉ frs X.stack) (st : B.StaysIn s'.heap) (up : sI.heap.UpToSlots s'.heap) (os : s'.os = sI.os)
    (ag : AllBare s'.gens) (e : s'.heap.get? a = some oe) (z : Zc cls d oe) (f : oe.data = .fields vs) : Inv X pins σ (upd H a (ExT a cls d)) s' := by
  have gone : sI.heap.get? a = none := by
    cases q : sI.heap.get? a with
    | none => rfl
    | some o => have := nb a o q nfr; rw [ba] at this; exact nomatch this
  have ne : ∀ b o, sI.heap.get? b = some o → b ≠ a := fun b o q y => by rw [y, gone] at q; exact nomatch q
  have slot : ∀ b ∈ frs X.stack, ∀ o, sI.heap.get? b = some o → ∃ sl, s'.heap.get? b = some { o with slots := sl } := fun b hb o q => by
    obtain ⟨_, o', q', hd⟩ := I.stack.mem hb
    rw [q] at q'; cases q'
    exact up b o q hd
  refine I.call' (ch := []) os ⟨fun b o q _ hb _ => st b o (nb b o q hb), fun b o q _ hb _ => slot b hb o q, fun b o q n _ => by rw [upd_ne (ne b o q)]; exact n, fun b o q _ => ?_, fun b xs q => by rw [upd_ne (ne_of_none q na)]; exact q,
    fun b o u q => by rw [upd_ne (ne_of_none q na)]; exact q, fun b ps q => ⟨#[], by rw [upd_ne (ne_of_none q na), q]; simp⟩⟩ ?_ ag (fun _ y => nomatch y)
  · by_cases hb : b ∈ frs X.stack
    · obtain ⟨sl, y⟩ := slot b hb o q
      exact ⟨_, y⟩
    · exact ⟨o, st b o (nb b o q hb)⟩
  · exact HOk.laidN ((I.inGround nb).kept st) (fun _ _ y => y) na (exT_ok e z f)
/-- into a suite whose exception is kept -/
theorem toSuite (I : Inv X pins σ H sI) : Inv (X.suite a (X.pn ++ pins)) [] σ H sI :=
  ⟨I.ok.suite _ _, I.os, I.bare, I.base, I.loc, I.cell, I.free, I.freeC, fun p hp => by rw [List.append_nil] at hp; exact I.pin p hp, I.hok, I.len⟩
theorem ofSuite {pn' : List (Addr × Obj)} (I : Inv (X.suite a (X.pn ++ pins)) pn' σ H sI) (ok : X.Ok) : Inv X pins σ H sI :=
  ⟨ok, I.os, I.bare, I.base, I.loc, I.cell, I.free, I.freeC, fun p hp => I.pin p (List.mem_append_left _ hp), I.hok, I.len⟩
end
/-- what is wished of an exception by «except c as n: y = n»: it is kept; slot i is n's, slot j is y's -/
def wKeep (K : PySem.W.Frag) (c : Value) (n i j : Nat) (D : Ends) : WX := fun cls d σ H => PySem.W.exmOne K cls c = some true ∧ ∀ a, H a = none → σ.length = n → D.nx (((σ.set i (some (.ref a))).set j (some (.ref a))).set i none) (upd H a (ExT a cls d))
section
variable {X : Cx} {x n y : Str} {c : Value} {i j : Nat} {body : List Stmt} {np py pn' pa pos pos' : Pos} {tb : WX → TS}
theorem ps_try_keep (hs : X.stack = X.env :: X.outer) (hf : X.env.frame = some X.env.locals) (hN : X.N.Nodup) (hi : X.N[i]? = some n) (hln : X.env.kindOf n = some .local) (hj : X.N[j]? = some y) (hly : X.env.kindOf y = some .local) (hij : i ≠ j) (hc : Names X x c)
    (hb : ∀ (W : WX) (pn : List (Addr × Obj)) (xe : Value → Shared → Prop), Takes (X.tr pn xe) W → PassesOwn (model X.prog X.w) X.A X.env xe → PSs (X.tr pn xe) body (tb W))
    (hsw : swapsWith (.Name n pn') (some (.Name y py)) pa.line X.env = pure false := by rfl) (hdn : (n == ("__debug__" : Str)) = false := by decide) (hcn : (n == ("__classdict__" : Str)) = false := by decide) :
    PS X (.Try body [.ExceptHandler (some (.Name x np)) (some n) [.Assign [.Name y py] (.Name n pn') pa] pos'] [] [] pos) (fun D σ H => i < σ.length ∧ tb (wKeep X.K c X.N.length i j D) D σ H) := by
  refine ⟨fun pins s σ H D I h => ?_⟩
  obtain ⟨hlen, h⟩ := h
  have ok := I.ok
  have hfr : X.A.frames = some (X.env :: X.outer) := by rw [ok.frames, hs]
  refine wpAny_Try_except ?_
  refine wpAny_mono ((hb (wKeep X.K c X.N.length i j D) (X.pn ++ pins) _ (fun u s1 xx => ?c1) PassesOwn.looking).run [] s σ H D (I.toTry _) h) (fun f s1 hsp => ?flow) (fun e s1 he => he)
  case flow =>
    cases f with
    | next => obtain ⟨σ1, H1, J, q⟩ := hsp; exact wpAny_execs_nil ⟨σ1, H1, J.ofTry ok, q⟩
    | brk => obtain ⟨σ1, H1, J, q⟩ := hsp; exact ⟨σ1, H1, J.ofTry ok, q⟩
    | cont => obtain ⟨σ1, H1, J, q⟩ := hsp; exact ⟨σ1, H1, J.ofTry ok, q⟩
    | ret u => obtain ⟨v, σ1, H1, J, r, q⟩ := hsp; exact ⟨v, σ1, H1, J.ofTry ok, r, q⟩
  case c1 =>
    obtain ⟨a, B, sI, pins1, σ1, H1, cls, d, rfl, J1, nb, up, sky, na, os, ag, hm, hyes⟩ := xx
    have J : Inv X pins σ1 H1 sI := J1.ofTry ok
    have sky1 : Sky B (X.env :: X.outer) a (Zc cls d) X.env.locals s1.heap := by rw [← hs]; exact sky
    show wpAny (model X.prog X.w) X.A (noteFrame (.ref a) X.env) _ _ _
    refine Sky.land Zc.steady hfr hf sky1 fun h3 fl3 up3 => ?_
    obtain ⟨oe3, vs3, he3, hz3, hd3⟩ := fl3.there
    have notFr : a ∉ frs X.stack := fun hmem => by
      rw [hs] at hmem
      obtain ⟨_, o', e', hnf⟩ := fl3.2.2.1.mem hmem
      rw [he3] at e'; cases e'
      exact hnf _ hd3
    have J3 : Inv X pins σ1 (upd H1 a (ExT a cls d)) { s1 with heap := h3 } := landT J nb fl3.2.1 na notFr fl3.1 (up.trans up3) os ag he3 hz3 hd3
    have S3 : Inv (X.suite a (X.pn ++ pins)) [] σ1 (upd H1 a (ExT a cls d)) { s1 with heap := h3 } := toSuite J3
    refine wpAny_handleBy_cons (codeAny_handlers_test ?_) (by intro q; cases q)
    have lt : PySem.W.Looks (model X.prog X.w) h3 (typeOf (.ref a)) cls := fun A Q E s k q => wpAny_typeOf_ref (k _ _ he3) (by rw [hz3.1]; exact q)
    have lm := PySem.W.exm_one (M := model X.prog X.w) J3.kIn lt hm
    have test : ∀ {Q : Value → Shared → Prop} {E : Value → Shared → Prop}, Q c { s1 with heap := h3 } → wpAny (model X.prog X.w) (X.A.mark (some (.ref a))) (eval (.Name x np) X.env) Q E { s1 with heap := h3 } := fun {Q E} q => by
      obtain ⟨g1, g2, g3 | ⟨g3, g4, g5⟩⟩ := hc
      · exact ld_glob (X := X.suite a (X.pn ++ pins)) S3 g1 g3 q g2
      · exact ld_blt (X := X.suite a (X.pn ++ pins)) S3 g1 g3 g4 q g5 g2
    refine test (lm.here ?_)
    refine codeAny_handlers_suite_as (HandSPX.lands_againZ fl3 fun h4 fl4 up4 => ?_)
    obtain ⟨oe4, vs4, he4, hz4, hd4⟩ := fl4.there
    have J4 : Inv X pins σ1 (upd H1 a (ExT a cls d)) { s1 with heap := h4 } := landT J nb fl4.2.1 na notFr fl4.1 ((up.trans up3).trans up4) os ag he4 hz4 hd4
    refine store_ok (X := X.suite a (X.pn ++ pins)) (v := .ref a) (toSuite J4) hN hi (.inl hln) rfl (fun s5 S5 => ?_) (.inr hln)
    have suite : PSs (X.suite a (X.pn ++ pins)) [.Assign [.Name y py] (.Name n pn') pa] (tAsg (tVar i) (gName j)) :=
      pss_one (ps_set hN hj (.inl hly) (pe_var hi (.inl hln) hdn hcn) hsw (.inr hly))
    refine wpAny_mono (suite.run [] s5 _ _ { nx := fun σ6 H6 => D.nx (σ6.set i none) H6, rt := fun _ _ => False } S5 ?_) (fun f s6 hsp => ?_) (fun _ _ z => z.elim)
    · refine ⟨.ref a, ?_, ?_⟩
      · have : i < σ1.length := by rw [J.len]; rw [I.len] at hlen; exact hlen
        rw [List.getElem?_set_self this]
      · exact hyes a na J.len
    · cases f with
      | next =>
        obtain ⟨σ6, H6, S6, q6⟩ := hsp
        exact gone_ok (ofSuite S6 ok) hN hi hln fun s7 J7 => ⟨_, _, J7, q6⟩
      | brk => obtain ⟨σ6, H6, S6, q6⟩ := hsp; exact q6.elim
      | cont => obtain ⟨σ6, H6, S6, q6⟩ := hsp; exact q6.elim
      | ret u => obtain ⟨v6, σ6, H6, S6, r6, q6⟩ := hsp; exact q6.elim
end

/-- isinstance(e, c), e an exception that is kept -/
def rIsX (K : PySem.W.Frag) : List V → Hp → VK → Prop := fun xs H Q => ∃ (a D : Addr) (d : Option Addr) (c : V) (cv : Value) (b : Bool), xs = [.ref a, c] ∧ H a = some (ExT a (.ref D) d) ∧ ExcC K D ∧
  (d = none ∨ ∃ (dd : Addr) (fs : List (Str × V)), d = some dd ∧ H dd = some (.xd fs)) ∧ ClsV c cv ∧ PySem.W.kitOne K (.ref D) cv = some b ∧ Q (.bl b) H
theorem inst_of {X : Cx} {pins : List (Addr × Obj)} {σ : L2.St} {H : Hp} {s : Shared} {a D : Addr} {d : Option Addr} (I : Inv X pins σ H s) (e : H a = some (ExT a (.ref D) d)) (hd : d = none ∨ ∃ (dd : Addr) (fs : List (Str × V)), d = some dd ∧ H dd = some (.xd fs)) :
    ∃ (ox : Obj) (od : Option Obj), PySem.W.InstAt s.heap a ox D od := by
  obtain ⟨oe, vs, h1, h2, h3⟩ := exT_at I.hok e
  obtain ⟨oc, ob, odt, osl⟩ := oe
  obtain ⟨z1, z2⟩ := h2
  dsimp only at z1 z2 h3
  subst z1 z2 h3
  rcases hd with rfl | ⟨dd, fs, rfl, hx⟩
  · exact ⟨_, none, h1, rfl, rfl, trivial⟩
  · obtain ⟨mA, ⟨o, es, ep, ho, _⟩, _⟩ := (show ObjOk X.prog X.w H s.heap dd (.xd fs) from I.hok dd _ hx)
    exact ⟨_, some o, h1, rfl, rfl, ho⟩
theorem call_isX {X : Cx} : CallR X (.builtin "isinstance") (rIsX X.K) := by
  intro pins s σ H xs us Q I r h
  obtain ⟨a, D, d, c, cv, b, rfl, e, C, hd, k, q1, q⟩ := h
  obtain ⟨u1, u2, rfl, r1, r2⟩ := vals2 r
  cases (show u1 = Value.ref a from r1)
  have e2 := k.eq r2
  subst e2
  obtain ⟨ox, od, J⟩ := inst_of I e hd
  exact PySem.W.kia_one (PySem.W.fw_kitx C) I.kIn J q1 (fun z => nomatch z) fun tk => ⟨.bl b, H, I.tok tk, rfl, q⟩
/-- isinstance of a plain value, or of an exception that is kept -/
def rIsA (K : PySem.W.Frag) : List V → Hp → VK → Prop := fun xs H Q => rIsi K xs H Q ∨ rIsX K xs H Q
theorem call_isA {X : Cx} : CallR X (.builtin "isinstance") (rIsA X.K) := by
  intro pins s σ H xs us Q I r h
  rcases h with h | h
  · exact call_isi pins s σ H xs us Q I r h
  · exact call_isX pins s σ H xs us Q I r h
theorem w_isIntA {K : PySem.W.Frag} {H : Hp} {Q : VK} {v : V} (h : Kn K H v) (q : Q (.bl (isIntB v)) H) : rIsA K [v, .ty "int"] H Q := Or.inl (w_isInt h q)
theorem w_isBlA {K : PySem.W.Frag} {H : Hp} {Q : VK} {v : V} (h : Kn K H v) (q : Q (.bl (isBl v)) H) : rIsA K [v, .ty "bool"] H Q := Or.inl (w_isBl h q)
theorem w_isStrA {K : PySem.W.Frag} {H : Hp} {Q : VK} {v : V} (h : Kn K H v) (q : Q (.bl (isStr v)) H) : rIsA K [v, .ty "str"] H Q := Or.inl (w_isStr h q)
/-- e.f, e an exception that is kept -/
def tXt (K : PySem.W.Frag) (f : Str) (te : TE) : TE := fun σ H Q => te σ H fun x H1 => ∃ (a C dd : Addr) (fs : List (Str × V)) (v : V), x = .ref a ∧ H1 a = some (ExT a (.ref C) (some dd)) ∧ H1 dd = some (.xd fs) ∧ XfC K C ∧
  PySem.W.findIn K (.ref C) f = some none ∧ fs.lookup f = some v ∧ Q v H1
theorem pe_xt {X : Cx} {e : Expr} {te : TE} {pos : Pos} {f : Str} (he : PE X e te) (hb : attributeBase e f X.env (eval e X.env) = eval e X.env := by rfl) : PE X (.Attribute e f pos) (tXt X.K f te) := by
  refine ⟨fun pins s σ H Q I h => attr_of hb (thn (he.run pins s σ H _ I h) fun u s1 ⟨x, H1, I1, rx, a, C, dd, fs, v, ex, ea, ed, T, hno, hl, q⟩ => ?_)⟩
  subst ex
  obtain rfl : u = Value.ref a := rx
  obtain ⟨oe, vs, h1, h2, h3⟩ := exT_at I1.hok ea
  obtain ⟨mA, hns, hr⟩ := (show ObjOk X.prog X.w H1 s1.heap dd (.xd fs) from I1.hok dd _ ed)
  obtain ⟨od, ho, l⟩ := lookIn_ns hns
  obtain ⟨z, hz, rz⟩ := RelO.some_of (v := v) (o := mA f) (by rw [← hl]; exact hr f)
  have J : PySem.W.InstAt s1.heap a oe C (some od) := ⟨h1, h2.1, by unfold PySem.W.notCls; rw [h3] <;> rfl, by rw [h2.2]; exact ho⟩
  exact HandSPX.exc_get I1.kIn J T.ga T.gg T.exC (PySem.W.findObj_own T.hdC hno rfl (by rw [l, hz])) (handed_of rz) ⟨v, H1, I1.tok _, rz, q⟩

/-! ### an own exception of one field, made and raised -/
/-- its __init__: self.f = v -/
def spInit1 (K : PySem.W.Frag) (C : Addr) (f : Str) : Sp := fun vs H Q _ => ∃ (a : Addr) (v : V), vs = [.ref a, v] ∧ OexC K C ∧ PySem.W.findIn K (.ref C) f = some none ∧ H a = some (exo a C none) ∧
  ∀ dx, H dx = none → dx ≠ a → Q .non (upd (upd H dx (exd dx [(f, v)])) a (exo a C (some dx)))
/-- what the text says of such a class -/
structure Exn (P : Program) (w : World) (K : PySem.W.Frag) (mg : Str → Option Value) (base : Heap) (cn f : Str) (C : Addr) : Prop where
  oex : OexC K C
  gC : mg cn = some (.ref C)
  no : PySem.W.findIn K (.ref C) f = some none
  xf : XfC K C
  exc : ExcC K C
  init : ∃ (fI : Addr) (fd : FuncData) (ps : List Str), PySem.W.findIn K (.ref C) "__init__" = some (some (.ref fI)) ∧ PySem.W.typeIn K (.ref fI) = some (.type "function") ∧ FnOk P w K mg base CX0 1 fI fd ps (spInit1 K C f) ∧ Binds K fd ps []
theorem del_upd {H : Hp} {a d : Addr} {o1 o2 o3 o4 : HO} (n : H a = none) (hne : d ≠ a) : upd (del (upd (upd (upd H a o1) d o2) a o3) a) d o4 = upd H d o4 := by
  funext b
  by_cases h1 : b = d
  · subst h1; rw [upd_same, upd_same]
  · rw [upd_ne h1, upd_ne h1]
    by_cases h2 : b = a
    · subst h2; rw [del_same, n]
    · rw [del_ne h2, upd_ne h2, upd_ne h1, upd_ne h2]
def rMk1 (K : PySem.W.Frag) (C : Addr) (f : Str) (Q : XK) : List V → Hp → Prop := fun vs H1 => vs.length ≤ 1000 ∧ ∀ a, H1 a = none → spInit1 K C f (.ref a :: (vs ++ [])) (upd H1 a (exo a C none))
  (fun v H2 => v = .non ∧ ∃ (d : Addr) (fs : List (Str × V)), H2 a = some (exo a C (some d)) ∧ H2 d = some (exd d fs) ∧ H1 d = none ∧ Q (.ref C) (some d) (upd (del H2 a) d (.xd fs))) (fun _ _ _ => False)
theorem w_mk1 {K : PySem.W.Frag} {C : Addr} {f : Str} {Q : XK} {v : V} {H1 : Hp} (T : OexC K C) (no : PySem.W.findIn K (.ref C) f = some none) (q : ∀ d, H1 d = none → Q (.ref C) (some d) (upd H1 d (.xd [(f, v)]))) : rMk1 K C f Q [v] H1 := by
  refine ⟨by simp, fun a na => ⟨a, v, rfl, T, no, upd_same, fun dx n1 n2 => ⟨rfl, dx, [(f, v)], upd_same, ?_, ?_, ?_⟩⟩⟩
  · rw [upd_ne n2, upd_same]
  · rw [upd_ne n2] at n1; exact n1
  · rw [del_upd na n2]; rw [upd_ne n2] at n1; exact q dx n1
def tRaise1 (K : PySem.W.Frag) (C : Addr) (f : Str) (W : WX) (ta : TA) : TS := fun _ σ H => ta σ H (rMk1 K C f fun cls d H' => W cls d σ H')
theorem ps_raise1 {X : Cx} {W : WX} {cn f : Str} {C : Addr} {e : Expr} {ta : TA} {p pos pos2 : Pos} (T : Exn X.prog X.w X.K X.mg X.base cn f C) (hc : X.calm = true) (hr : Room 2 X.A) (tk : Takes X W) (ha : PA X [e] ta) (hg : Gl X cn)
    (hdb : (cn == ("__debug__" : Str)) = false := by decide) (he : starEach (e :: []) X.env = (false, eval e X.env) :: starEach [] X.env := by rfl) (hpl : (backTo pos (starEach [] X.env)).any (·.1) = false := by rfl) :
    PS X (.Raise (some (.Call (.Name cn p) [e] [] pos)) none pos2) (tRaise1 X.K C f W ta) := by
  obtain ⟨fI, fd, ps, iC, tI, F, b⟩ := T.init
  exact ps_raise hc tk (pmk_oex (p := p) (dvs := []) (ds := []) T.oex iC tI F hr b .nil (fun _ _ _ _ _ _ _ z => z.elim) hg T.gC ha hdb he hpl)
theorem w_raise1 {K : PySem.W.Frag} {C : Addr} {f : Str} {W : WX} {ta : TA} {σ : L2.St} {H : Hp} {D : Ends} (h : ta σ H (rMk1 K C f fun cls d H' => W cls d σ H')) : tRaise1 K C f W ta D σ H := h
end FW

set_option maxRecDepth 100000
set_option maxHeartbeats 4000000
/-! fair weather: repr of what a law makes; defs that are promised where no repr is under way -/
namespace FW
open PySem L2 PyProof.Rows
/-- what repr shows of a value -/
def rShow (K : PySem.W.Frag) : List V → Hp → VK → Prop := fun xs H Q =>
  (∃ i, xs = [.int i] ∧ i.natAbs.log2 < 1920 ∧ Q (.str (PyData.shown (.int i))) H) ∨
  (∃ (a : Addr) (d : PyData), xs = [.ref a] ∧ Dp K H (.ref a) d ∧ d.showable = true ∧ d.hasDict = false ∧ d.depth ≤ 60 ∧ d.shown.length ≤ sizeLine ∧ Q (.str d.shown) H)
theorem call_show {X : Cx} (hg : X.A.guards = some []) (hu : X.A.units + 64 < cLine) : CallR X (.builtin "repr") (rShow X.K) := by
  intro pins s σ H xs us Q I r h
  rcases h with ⟨i, rfl, hz, q⟩ | ⟨a, d, rfl, hd, h1, h2, h3, h4, q⟩
  · exact SkE.call_repr_int pins s σ H [.int i] us Q I r ⟨i, rfl, hz, q⟩
  · obtain ⟨u, rfl, e⟩ := vals1 r
    obtain rfl : u = Value.ref a := e
    obtain ⟨as, rd⟩ := Dp.reads I d (.ref a) (.ref a) hd rfl
    exact repr_of_reads' rd h1 (PyData.noDict_hsm h2) hg (by omega) (fun _ _ e => e) (fun h' u tk hk => ⟨.str d.shown, H, I.kept hk, ⟨u, rfl⟩, q⟩) h4
/-- a def's promise, where no repr is under way -/
structure FnG (P : Program) (w : World) (K : PySem.W.Frag) (mg : Str → Option Value) (base : Heap) (CX : CXT) (k : Nat) (f : Addr) (fd : FuncData) (ps : List Str) (sp : Sp) : Prop where
  size : ∀ vs H Q E, sp vs H Q E → vs.length = ps.length
  goes : ∀ (A : Around) (outer : List Env) (s : Shared) (H : Hp) (args : Args) (us : List Value) (vs : List V) (Q : VK) (E : XK), A.guards = some [] → Room k A → Env0 P w K mg base A outer s H → BindsTo s fd args (ps.zip us) → Vals vs us →
    sp vs H Q E → codeAny (model P w) A (.call (.ref f) args) (CR CX outer P w H s Q E) s
section
variable {P : Program} {w : World} {K : PySem.W.Frag} {mg : Str → Option Value} {base : Heap} {CX : CXT}
theorem FnG.of {k : Nat} {f : Addr} {fd : FuncData} {ps : List Str} {sp : Sp} (F : FnOk P w K mg base CX k f fd ps sp) : FnG P w K mg base CX k f fd ps sp :=
  ⟨F.len, fun A outer s H args us vs Q E _ hr e0 hb hv hs => F.run A outer s H args us vs Q E hr e0 hb hv hs⟩
theorem guards_in {A : Around} {env : Env} (h : A.guards = some []) : (A.deeper env).guards = some [] := by
  exact h
theorem fun_okG {x qual : Str} {st : Stmt} {f : Addr} {fd : FuncData} {N ps : List Str} {k : Nat} {sp : Sp} (F : Fun K x qual st f fd) (S : FnScope N ps (defScope st)) (size : ∀ vs H Q E, sp vs H Q E → vs.length = ps.length)
    (walk : ∀ (cdv : Value) (A : Around) (outer : List Env) (s : Shared) (H : Hp) (vs : List V) (Q : VK) (E : XK), (A.deeper (envOfC qual (defScope st) s.heap.objs.size f cdv)).guards = some [] → Room k (A.deeper (envOfC qual (defScope st) s.heap.objs.size f cdv)) →
      (∀ oc od kV doc pm an ct osl, K.lookup f = some ⟨oc, od, .func (PySem.W.fnOf x qual (defArgs st) (defBody st) (defScope st) .none kV doc pm an cdv ct), osl⟩ → sp vs H Q E →
      ∃ t, PSs (cxOf CX P w K mg base N qual (defScope st) f cdv A outer s H E) (defBody st) t ∧ t { nx := fun _ H' => Q .non H', rt := Q } (L2.start N vs) H)) : FnG P w K mg base CX (k + 1) f fd ps sp := by
  obtain ⟨oc, od, kV, doc, pm, an, cdv, ct, osl, rfl, lk, hcd⟩ := F.ex
  exact ⟨size, fun A outer s H args us vs Q E hG hr e0 hb hv hs => LamX.run_ofS lk hcd S hr e0 hb hv (size _ _ _ _ hs) fun hr' => walk cdv A outer s H vs Q E (guards_in hG) hr' oc od kV doc pm an ct osl lk hs⟩
/-- a def under its name that is so promised -/
structure CanG (P : Program) (w : World) (K : PySem.W.Frag) (mg : Str → Option Value) (base : Heap) (CX : CXT) (k : Nat) (x : Str) (ps : List Str) (sp : Sp) : Prop where
  at_ : ∃ (f : Addr) (fd : FuncData), FnG P w K mg base CX k f fd ps sp ∧ mg x = some (.ref f) ∧ PySem.W.keepIn K (.ref f) = true ∧ Binds K fd ps []
theorem CanG.of {k : Nat} {x : Str} {ps : List Str} {sp : Sp} (c : Can P w K mg base CX k x ps sp) : CanG P w K mg base CX k x ps sp := by
  obtain ⟨f, fd, F, m, kp, b⟩ := c.ex
  exact ⟨f, fd, .of F, m, kp, b⟩
theorem canG_of {k : Nat} {x : Str} {st : Stmt} {ps : List Str} {sp : Sp} (d : DefOk K mg x st ps) (h : ∀ f fd, Fun K x x st f fd → FnG P w K mg base CX k f fd ps sp) : CanG P w K mg base CX k x ps sp := by
  obtain ⟨f, fd, F, m, b⟩ := d.ex
  exact ⟨f, fd, h f fd F, m, F.kp, b⟩
end
section
variable {X : Cx} {CX : CXT} {k j : Nat} {x : Str} {ps : List Str} {sp : Sp} {E : XK} {p pos : Pos} {e : Expr} {es : List Expr} {t : TA}
theorem pe_canG (c : CanG X.prog X.w X.K X.mg X.base CX k x ps sp) (hG : X.A.guards = some []) (hr : Room j X.A) (hk : k ≤ j) (hx : Passes CX X E) (hg : Gl X x) (ha : PA X (e :: es) t) (hdb : (x == ("__debug__" : Str)) = false := by decide)
    (he : starEach (e :: es) X.env = (false, eval e X.env) :: starEach es X.env := by rfl) (hpl : (backTo pos (starEach es X.env)).any (·.1) = false := by rfl) :
    PE X (.Call (.Name x p) (e :: es) [] pos) (tCall sp [] E t) := by
  obtain ⟨f, fd, F, m, kp, b⟩ := c.at_
  refine ⟨fun pins s σ H Q I h => wpAny_Call_Name_kw (ld_glob I hg m (PySem.W.callWith_K (h₀ := X.base) I.ok.mod.kin kp (thn (ha.run pos pins s σ H _ I h) fun us s1 y => ?_) he hpl) hdb)⟩
  obtain ⟨vs, H1, J, r, q⟩ := y
  rw [List.append_nil] at q
  have n : us.length = ps.length := by rw [← r.length]; exact F.size _ _ _ _ q
  have bind := b s1 us J.kIn (by rw [List.append_nil]; exact n)
  rw [List.append_nil] at bind
  refine ⟨J.kIn, wpAny_call (codeAny_mono (F.goes X.A X.stack s1 H1 ⟨us, []⟩ us vs Q E hG (hr.mono hk) J.env0 bind r q) fun z s2 hz => ?_)⟩
  match z, hz with
  | .error err, hz => exact hx pins σ H1 s1 err s2 J hz
  | .ok (.ret u), hz => exact J.after hz
  | .ok .next, hz => exact (show False from hz).elim
  | .ok .brk, hz => exact (show False from hz).elim
  | .ok .cont, hz => exact (show False from hz).elim
end
end FW

set_option maxRecDepth 100000
set_option maxHeartbeats 4000000
/-! fair weather: from the promise of a law's def to the row, where no repr is under way -/
namespace FW
open PySem L2 PyProof.Rows LamX
section
variable {P : Program} {w : World} {K : PySem.W.Frag} {mg mb : Str → Option Value} {a : Addr} {cs : List (Addr × Addr)} {vs : List Value} {ns : List Int} {s : Shared}
/-- what stands behind the top, when the law is called -/
structure Ready (K : PySem.W.Frag) (mg mb : Str → Option Value) (a : Addr) (cs : List (Addr × Addr)) (vs : List Value) (ns : List Int) (s : Shared) : Prop where
  kin : K.In s.heap
  glo : s.heap.Ns mainGlobals mg
  blt : s.heap.Ns builtinsNs mb
  same : ∀ x : Str, x ≠ "__name__" → mb x = bootBuiltins x
  lim : s.heap.NoLimit
  gens : s.gens = #[]
  tabs : ∀ p ∈ cs, s.heap.get? p.2 = some { cls := .none, data := .fields #[] }
  off : ∀ p ∈ cs, K.lookup p.2 = none
  heads : ∀ p ∈ cs, PySem.W.CodeHd s.heap p.1 p.2
  bmain : ∃ (bm : Addr) (ob : Obj), mg "__builtins__" = some (.ref bm) ∧ bm ≠ builtinsNs ∧ s.heap.get? bm = some ob ∧ ob.cls = .type "module" ∧ ob.dict = some builtinsNs ∧ ob.data = .plain
  list : s.heap.get? a = some { cls := .type "list", data := .seq vs.toArray }
  nums : IntsAre vs ns
  size : ns.length ≤ sizeLine
/-- what an abstract heap may track then -/
structure Tracks (K : PySem.W.Frag) (a : Addr) (cs : List (Addr × Addr)) (H : Hp) : Prop where
  all : ∀ b u, H b = some u → (b = a ∧ K.lookup a = none ∧ ∃ o xs, u = .frz o (.lst xs)) ∨ ∃ p ∈ cs, b = p.2 ∧ u = .tbl #[]
  tab : ∀ p ∈ cs, H p.2 = some (.tbl #[])
variable {H : Hp}
theorem Ready.lone (R : Ready K mg mb a cs vs ns s) {p : Addr × Addr} (hp : p ∈ cs) : p.2 ≠ a := fun z => by
  have q := R.tabs p hp
  rw [z, R.list] at q
  cases q
/-- an object that is no list and no table is not tracked -/
theorem Ready.other (R : Ready K mg mb a cs vs ns s) (T : Tracks K a cs H) {b : Addr} {o : Obj} (e : s.heap.get? b = some o) (h1 : ∀ us n, o.data ≠ .seq us n) (h2 : o.data ≠ .fields #[]) : H b = none := by
  match q : H b with
  | none => rfl
  | some u =>
    rcases T.all b u q with ⟨rfl, _⟩ | ⟨p, hp, rfl, _⟩
    · rw [R.list] at e; cases e; exact (h1 _ _ rfl).elim
    · rw [R.tabs p hp] at e; cases e; exact (h2 rfl).elim
theorem Ready.under (R : Ready K mg mb a cs vs ns s) (T : Tracks K a cs H) {b : Addr} {m : Str → Option Value} (h : s.heap.Ns b m) : (hidT s.heap H).Ns b m := by
  obtain ⟨o, es, ep, e, d, r⟩ := h
  refine ⟨o, es, ep, hidT_get e (R.other T e (fun us n z => ?_) (fun z => ?_)), d, r⟩ <;> (rw [d] at z; cases z)
theorem Ready.kbase (R : Ready K mg mb a cs vs ns s) (T : Tracks K a cs H) : K.In (hidT s.heap H) := by
  intro b o e
  refine hidT_get (R.kin b o e) ?_
  match q : H b with
  | none => rfl
  | some u =>
    rcases T.all b u q with ⟨rfl, n, _⟩ | ⟨p, hp, rfl, _⟩
    · rw [n] at e; cases e
    · rw [R.off p hp] at e; cases e
theorem Ready.tabB (R : Ready K mg mb a cs vs ns s) (T : Tracks K a cs H) {p : Addr × Addr} (hp : p ∈ cs) : TabB (hidT s.heap H) mg p.1 p.2 := by
  have tb := R.tabs p hp
  constructor
  · obtain ⟨o, us, file, tf, flags, tg, inF, text, tt, e, r1, r2, r3, rest⟩ := R.heads p hp
    refine ⟨o, us, file, tf, flags, tg, inF, text, tt, hidT_get e (R.other T e (fun _ _ z => ?_) (fun z => ?_)), r1, r2, r3, rest⟩ <;> (rw [r2] at z; cases z)
    simp at r3
  · obtain ⟨bm, ob, b1, b2, b3, b4, b5, b6⟩ := R.bmain
    have plain : H bm = none := R.other T b3 (fun _ _ z => by rw [b6] at z; cases z) (fun z => by rw [b6] at z; cases z)
    refine ⟨bm, ob, b1, b2, fun q => ?_, fun q => ?_, hidT_get b3 plain, b4, b5, b6⟩
    · obtain ⟨o, es, ep, e, d, _⟩ := R.glo
      rw [q, e] at b3; cases b3
      rw [d] at b6; cases b6
    · rw [q, tb] at b3; cases b3; cases b6
  · intro z
    obtain ⟨o, es, ep, e, d, _⟩ := R.glo
    rw [z, tb] at e; cases e; cases d
theorem Ready.env (R : Ready K mg mb a cs vs ns s) (T : Tracks K a cs H) (ok : HOk P w H s.heap) : Env0 P w K mg (hidT s.heap H) callerA [] s H where
  frames := rfl
  mod := ⟨R.kbase T, R.under T R.glo, ⟨mb, R.under T R.blt, R.same⟩, by obtain ⟨mc, h1, h2⟩ := R.lim; exact ⟨mc, R.under T h1, h2⟩⟩
  bs := fun b o e => of_hidT e
  bsz := Nat.le_of_eq (hidT_size _ _)
  funs := trivial
  frf := fun b hb => nomatch (show b ∈ ([] : List Addr) from hb)
  hok := ok
  bare := .of_eq R.gens
/-- the law's call, from such a heap -/
theorem Ready.call (R : Ready K mg mb a cs vs ns s) (T : Tracks K a cs H) (ok : HOk P w H s.heap) (sq : SqL K H a (ns.map V.int)) {CX : CXT} {k : Nat} {fa : Addr} {fd : FuncData} {x : Str} {sp : Sp} (hr : Room k callerA)
    (F : ∀ base : Heap, K.In base → base.Ns mainGlobals mg → (∀ p ∈ cs, TabB base mg p.1 p.2) → FnG P w K mg base CX k fa fd [x] sp) (bind : ∀ (s : Shared) (u : Value), BindsTo s fd ⟨[u], []⟩ [(x, u)])
    (hsp : sp [.ref a] H (fun v _ => v = .bl true) fun _ _ _ => False) (hCX : ∀ H e s', CX [] H s (fun _ _ _ => False) e s' → False) :
    codeAny (model P w) callerA (.call (.ref fa) ⟨[.ref a], []⟩) (fun r s' => r = .ok (.ret (.bool true)) ∧ OldK s.heap s'.heap ∧ s'.os = s.os ∧ AllBare s'.gens) s := by
  have G := F _ (R.kbase T) (R.under T R.glo) (fun p hp => R.tabB T hp)
  refine codeAny_mono (G.goes callerA [] s H ⟨[.ref a], []⟩ [.ref a] [.ref a] (fun v _ => v = .bl true) (fun _ _ _ => False) rfl hr (R.env T ok) (bind s (.ref a)) (.cons rfl .nil) hsp) fun z s' hz => ?_
  match z, hz with
  | .error err, hz => exact (hCX H err s' hz).elim
  | .ok .next, hz => exact (show False from hz).elim
  | .ok .brk, hz => exact (show False from hz).elim
  | .ok .cont, hz => exact (show False from hz).elim
  | .ok (.ret u), hz =>
    obtain ⟨v, H', os, bare, un, ok', rv, rfl⟩ := hz
    obtain rfl : u = Value.bool true := rv
    have old : ∀ b o, (∀ p ∈ cs, p.2 ≠ b) → s.heap.get? b = some o → s'.heap.get? b = some o := fun b o nb e => by
      match q : H b with
      | none => exact un.keep b o e q (fun z => nomatch (show b ∈ ([] : List Addr) from z)) (by simp)
      | some u =>
        rcases T.all b u q with ⟨rfl, _, ob, xs, rfl⟩ | ⟨p, hp, e2, _⟩
        · have e1 := (ok b _ q).1
          have e2 := (ok' b _ (un.frzs b ob _ q)).1
          rw [e] at e1; cases e1
          exact e2
        · exact (nb p hp e2.symm).elim
    have more : ∀ p ∈ cs, ∃ m : Array Value, s'.heap.get? p.2 = some { cls := .none, data := .fields m } := fun p hp => by
      obtain ⟨m, q⟩ := un.tbls p.2 #[] (T.tab p hp)
      exact ⟨_, ok' p.2 _ q⟩
    refine ⟨rfl, ⟨fun b o e => ?_, fun b o e => ?_⟩, os, bare⟩
    · by_cases hb : ∃ p ∈ cs, p.2 = b
      · obtain ⟨p, hp, rfl⟩ := hb
        obtain ⟨m, hm⟩ := more p hp
        have tb := R.tabs p hp
        rw [tb] at e; cases e
        exact .inr (.inl ⟨((R.heads p hp).tab tb).isCodeTable, rfl, #[], m, rfl, by rw [Array.empty_append]; exact hm⟩)
      · exact .inl (old b o (fun p hp z => hb ⟨p, hp, z⟩) e)
    · by_cases hb : ∃ p ∈ cs, p.2 = b
      · obtain ⟨p, hp, rfl⟩ := hb
        obtain ⟨m, hm⟩ := more p hp
        exact ⟨_, hm⟩
      · exact ⟨o, old b o (fun p hp z => hb ⟨p, hp, z⟩) e⟩
open Classical in
/-- the heap that tracks the tables, and the script where the text's part of the heap does not hold it -/
noncomputable def H0 (K : PySem.W.Frag) (a : Addr) (cs : List (Addr × Addr)) (vs : List Value) (ns : List Int) : Hp := fun b =>
  if ∃ p ∈ cs, p.2 = b then some (.tbl #[]) else if b = a ∧ K.lookup a = none then some (.frz { cls := .type "list", data := .seq vs.toArray } (.lst (ns.map V.int))) else none
theorem h0_tab {b : Addr} (h : ∃ p ∈ cs, p.2 = b) : H0 K a cs vs ns b = some (.tbl #[]) := by unfold H0; exact if_pos h
theorem h0_list (h : ¬ ∃ p ∈ cs, p.2 = a) (n : K.lookup a = none) : H0 K a cs vs ns a = some (.frz { cls := .type "list", data := .seq vs.toArray } (.lst (ns.map V.int))) := by
  unfold H0; rw [if_neg h]; exact if_pos ⟨rfl, n⟩
theorem Ready.tracks (R : Ready K mg mb a cs vs ns s) : Tracks K a cs (H0 K a cs vs ns) := by
  refine ⟨fun b u e => ?_, fun p hp => h0_tab ⟨p, hp, rfl⟩⟩
  unfold H0 at e
  split at e
  · rename_i h; obtain ⟨p, hp, e2⟩ := h; cases e
    exact .inr ⟨p, hp, e2.symm, rfl⟩
  · split at e
    · rename_i h; cases e
      exact .inl ⟨h.1, h.2, _, _, rfl⟩
    · cases e
theorem Ready.ok0 (R : Ready K mg mb a cs vs ns s) : HOk P w (H0 K a cs vs ns) s.heap := by
  intro b u e
  unfold H0 at e
  split at e
  · rename_i h; obtain ⟨p, hp, rfl⟩ := h; cases e
    exact R.tabs p hp
  · split at e
    · rename_i h; cases e
      obtain ⟨rfl, _⟩ := h
      exact ⟨R.list, by rw [List.length_map]; exact R.size, vs, _, vals_ints R.nums, R.list⟩
    · cases e
theorem Ready.sq0 (R : Ready K mg mb a cs vs ns s) : SqL K (H0 K a cs vs ns) a (ns.map V.int) := by
  have no : ¬ ∃ p ∈ cs, p.2 = a := fun ⟨p, hp, z⟩ => R.lone hp z
  match q : K.lookup a with
  | none => exact .inl (.inr ⟨_, h0_list no q⟩)
  | some o =>
    have e := R.kin a o q
    rw [R.list] at e; cases e
    exact .inr ⟨_, vs.toArray, _, q, rfl, rfl, rfl, by rw [List.size_toArray, R.nums.length]; exact R.size, by simpa using vals_ints R.nums⟩
end
/-- what is known of a law's promise behind the top -/
structure LawG (l : PySem.W.OpenLaw) (w : World) (K : PySem.W.Frag) (k n : Nat) (x : Str) (mg : Str → Option Value) (fa : Addr) (h : Heap) : Prop where
  ex : ∃ (fd : FuncData) (cs : List (Addr × Addr)) (sp : Sp), (∀ p ∈ cs, h.get? p.2 = some { cls := .none, data := .fields #[] }) ∧ (∀ p ∈ cs, K.lookup p.2 = none) ∧ (∀ p ∈ cs, PySem.W.CodeHd h p.1 p.2) ∧ (∀ (s : Shared) (u : Value), BindsTo s fd ⟨[u], []⟩ [(x, u)]) ∧
    (∀ (H : Hp) (a : Addr) (ns : List Int), ns.length ≤ n → (∀ z ∈ ns, Builtin.Int.intBits z ≤ 1048576) → (∀ p ∈ cs, H p.2 = some (.tbl #[])) → SqL K H a (ns.map V.int) → sp [.ref a] H (fun v _ => v = .bl true) fun _ _ _ => False) ∧
    ∀ base : Heap, K.In base → base.Ns mainGlobals mg → (∀ p ∈ cs, TabB base mg p.1 p.2) → FnG l.prog w K mg base L2.CX0 k fa fd [x] sp
theorem walkG {l : PySem.W.OpenLaw} {n k : Nat} {q : Program} {loose : List Str} {XP : (Str → Option Value) → Heap → Prop} {YP : World → Heap → Prop} {d : DefRec} {x : Str} (hn : l.most = some n) (hn2 : n ≤ sizeLine) (hdf : d.params.defaults = []) (hr : Room k callerA)
    (F : ∀ (w : World) (mg : Str → Option Value) (fa : Addr) (h : Heap), YP w h → h.Ns mainGlobals mg → mg d.name = some (.ref fa) → ∃ K : PySem.W.Frag, K.In h ∧ LawG l w K k n x mg fa h) : PySem.W.WalkO q loose XP YP l.row.toRowW d [] (fun f vs => PySem.call f vs) := by
  refine Att.attach_callB hn hdf fun w s₀ s mg mb fa o pm cd doc a vs ns G Y ho hd hcd hmg hobj hints hlen hbits hg => ?_
  obtain ⟨K, KX, ⟨fd, cs, sp, hT, nT, C, hb, hsp, hF⟩⟩ := F w mg fa s.heap Y G.T.g hmg
  have R : Ready K mg mb a cs vs ns s := ⟨KX, G.T.g, G.T.b, G.T.builtins, G.T.nolimit, hg, hT, nT, C, G.T.bmain, hobj, hints, Nat.le_trans hlen hn2⟩
  exact R.call R.tracks R.ok0 R.sq0 hr hF hb (hsp _ a ns hlen hbits R.tracks.tab R.sq0) fun H e s' z => z
end FW

set_option maxRecDepth 100000
set_option maxHeartbeats 4000000
/-! fair weather: what the laws have in common -/
namespace FW
open PySem L2 PyProof.Rows
/-! ### kinds of values, carried on -/
theorem TyX.grow {K : PySem.W.Frag} {c : Addr} {H H' : Hp} {a : Addr} {t : Value} (e : Ext c H H') (n : a ≠ c) (h : TyX K H (.ref a) t) : TyX K H' (.ref a) t := by
  cases h with
  | base b =>
    refine .base ?_
    cases b with
    | lst h => exact .lst (e _ _ n h)
    | frz h => exact .frz (e _ _ n h)
    | tup h => exact .tup (e _ _ n h)
    | dK h => exact .dK (e _ _ n h)
    | dT h => exact .dT (e _ _ n h)
    | ins h a1 a2 a3 a4 a5 => exact .ins (e _ _ n h) a1 a2 a3 a4 a5
  | set h => exact .set (e _ _ n h)
  | kList h k => exact .kList h k
  | kTuple h k => exact .kTuple h k
  | kDict h k => exact .kDict h k
  | fTuple h => exact .fTuple (e _ _ n h)
  | fDict h => exact .fDict (e _ _ n h)
theorem Kn.ext {K : PySem.W.Frag} {c : Addr} {H H' : Hp} {v : V} (e : Ext c H H') (n : v ≠ .ref c) (h : Kn K H v) : Kn K H' v := by
  cases v with
  | ref a =>
    obtain ⟨T, hT, t⟩ := h
    exact ⟨T, hT, TyX.grow e (fun z => n (by rw [z])) t⟩
  | _ => exact h
theorem kn_lst {K : PySem.W.Frag} {H : Hp} {p : Addr} {xs : List V} (e : H p = some (.lst xs)) : Kn K H (.ref p) := ⟨"list", .inl rfl, .base (.lst e)⟩
theorem kn_tup {K : PySem.W.Frag} {H : Hp} {p : Addr} {xs : List V} (e : H p = some (.tup xs)) : Kn K H (.ref p) := ⟨"tuple", .inr (.inl rfl), .base (.tup e)⟩
theorem kn_dK {K : PySem.W.Frag} {H : Hp} {p : Addr} {xs : List (Key × V)} (e : H p = some (.dK xs)) : Kn K H (.ref p) := ⟨"dict", .inr (.inr rfl), .base (.dK e)⟩
/-! ### a def whose code object is known -/
structure DefOkC (K : PySem.W.Frag) (mg : Str → Option Value) (x : Str) (st : Stmt) (ps : List Str) (c : Addr) : Prop where
  ex : ∃ (f : Addr) (fd : FuncData), Fun K x x st f fd ∧ mg x = some (.ref f) ∧ Binds K fd ps [] ∧ fd.code = .ref c
section
variable {P : Program} {w : World} {K : PySem.W.Frag} {mg : Str → Option Value} {base : Heap} {CX : CXT} {k : Nat} {x : Str} {st : Stmt} {ps N : List Str} {sp : Sp} {c : Addr}
theorem DefOkC.can (d : DefOkC K mg x st ps c) (h : ∀ f fd, Fun K x x st f fd → fd.code = .ref c → FnOk P w K mg base CX k f fd ps sp) : Can P w K mg base CX k x ps sp := by
  obtain ⟨f, fd, F, m, b, e⟩ := d.ex
  exact ⟨f, fd, h f fd F e, m, F.kp, b⟩
theorem fun_okC {f : Addr} {fd : FuncData} (F : Fun K x x st f fd) (hc : fd.code = .ref c) (S : FnScope N ps (defScope st)) (len : ∀ vs H Q E, sp vs H Q E → vs.length = ps.length)
    (walk : ∀ (A : Around) (outer : List Env) (s : Shared) (H : Hp) (vs : List V) (Q : VK) (E : XK), Room k (A.deeper (envOfC x (defScope st) s.heap.objs.size f (.ref c))) → sp vs H Q E →
      ∃ t, PSs (cxOf CX P w K mg base N x (defScope st) f (.ref c) A outer s H E) (defBody st) t ∧ t { nx := fun _ H' => Q .non H', rt := Q } (L2.start N vs) H) : FnOk P w K mg base CX (k + 1) f fd ps sp := by
  obtain ⟨oc, od, kV, doc, pm, an, cdv, ct, osl, rfl, lk, hcd⟩ := F.ex
  obtain rfl : cdv = .ref c := hc
  exact fn_of lk hcd S len walk
end
/-! ### what a lambda leaves as it was, tables of code objects -/
section
variable {K : PySem.W.Frag} {H H' : Hp} {c : Addr} {n : Nat} {T : List (Addr × Str)}
theorem ExtN.sqL {a : Addr} {xs : List V} (e : LamX.ExtN H H') (h : SqL K H a xs) : SqL K H' a xs := by
  rcases h with (h | ⟨o, h⟩) | h
  · exact .inl (.inl (e _ _ h nofun))
  · exact .inl (.inr ⟨o, e _ _ h nofun⟩)
  · exact .inr h
theorem ExtN.cloud (e : LamX.ExtN H H') (h : Cloud K H c n) : Cloud K H' c n := by
  obtain ⟨l, cells, rest, h1, h2, h3⟩ := h
  exact ⟨l, cells, rest, e _ _ h1 nofun, ExtN.sqL e h2, h3⟩
theorem ExtN.kn {v : V} (e : LamX.ExtN H H') (h : Kn K H v) : Kn K H' v := by
  cases v with
  | ref a =>
    obtain ⟨S, hS, t⟩ := h
    refine ⟨S, hS, ?_⟩
    cases t with
    | base b =>
      refine .base ?_
      cases b with
      | lst h => exact .lst (e _ _ h nofun)
      | frz h => exact .frz (e _ _ h nofun)
      | tup h => exact .tup (e _ _ h nofun)
      | dK h => exact .dK (e _ _ h nofun)
      | dT h => exact .dT (e _ _ h nofun)
    | set h => exact .set (e _ _ h nofun)
    | kList h k => exact .kList h k
    | kTuple h k => exact .kTuple h k
    | kDict h k => exact .kDict h k
    | fTuple h => exact .fTuple (e _ _ h nofun)
    | fDict h => exact .fDict (e _ _ h nofun)
  | _ => exact h
theorem tabs_ext (t : LamX.Tabs T H) (h : Cloud K H c n) (e : Ext c H H') : LamX.Tabs T H' := by
  obtain ⟨l, cells, rest, h1, _, _⟩ := h
  intro p hp
  obtain ⟨ps, t1, t2, t3⟩ := t p hp
  refine ⟨ps, e _ _ (fun z => by rw [z, h1] at t1; cases t1) t1, t2, fun pos cv hcv => ?_⟩
  obtain ⟨d, e1, e2⟩ := t3 pos cv hcv
  exact ⟨d, e1, e _ _ (fun z => by rw [z, h1] at e2; exact nomatch (show HO.lst _ = HO.ext _ from Option.some.inj e2)) e2⟩
end
/-- one value of two, by a test -/
theorem w_ifM {c : Bool} {Q : VK} {H : Hp} {x y : V} {A B : Prop} (ha : Q x H → A) (hb : Q y H → B) (h : Q (if c = true then x else y) H) : if c = true then A else B := by
  cases c with
  | true => exact ha h
  | false => exact hb h
theorem w_ifCC {c : Bool} {Q : VK} {σ : L2.St} {H : Hp} {x y : V} (h : Q (if c = true then x else y) H) : if c = true then tC x σ H Q else tC y σ H Q := by
  cases c with
  | true => exact h
  | false => exact h
theorem w_ifVC {c : Bool} {Q : VK} {σ : L2.St} {H : Hp} {i : Nat} {x y : V} (e : σ[i]? = some (some x)) (h : Q (if c = true then x else y) H) : if c = true then tVar i σ H Q else tC y σ H Q := by
  cases c with
  | true => exact ⟨x, e, h⟩
  | false => exact h
theorem Kn.grow {K : PySem.W.Frag} {H H' : Hp} {v : V} (g : Grow H H') (h : Kn K H v) : Kn K H' v := ExtN.kn (LamX.ExtN.of g) h
theorem w_neSelf {x : V} {H : Hp} {Q : VK} (s : scal x x = true) (q : Q (.bl false) H) : rNe x x H Q := ⟨s, by simp only [decide_true, Bool.not_true]; exact q⟩
theorem w_eqSelf {x : V} {H : Hp} {Q : VK} (s : scal x x = true) (q : Q (.bl true) H) : rEq x x H Q := ⟨s, by simp only [decide_true]; exact q⟩
/-! ### what repr shows of rows -/
theorem text_le (b : Nat) : ∀ (ts : List Str) (k : Nat) (acc : Str), (∀ t ∈ ts, t.length ≤ b) → (textFrom k acc ts).length ≤ acc.length + (b + 2) * ts.length
  | [], k, acc, _ => by show acc.length ≤ _; omega
  | t :: r, k, acc, h => by
    have ih := text_le b r (k + 1) (acc ++ (if k > 0 then ", " else "" : String) ++ t) (fun x hx => h x (List.mem_cons_of_mem _ hx))
    have ht := h t (List.mem_cons_self ..)
    have hs : ((if k > 0 then ", " else "" : String) : Str).length ≤ 2 := by split <;> decide
    show (textFrom (k + 1) (acc ++ (if k > 0 then ", " else "" : String) ++ t) r).length ≤ _
    rw [Str.length_append, Str.length_append] at ih
    rw [List.length_cons, Nat.mul_add]
    omega
theorem shownAll_ints : ∀ ns : List Int, PyData.shownAll (ns.map PyData.int) = ns.map fun n => PyData.shown (.int n)
  | [] => rfl
  | n :: ns => by show _ :: PyData.shownAll (ns.map PyData.int) = _; rw [shownAll_ints ns]; rfl
theorem showable_ints : ∀ ns : List Int, (∀ n ∈ ns, n.natAbs.log2 < 1920) → PyData.showableAll (ns.map PyData.int) = true
  | [], _ => rfl
  | n :: ns, h => by
    show (PyData.showable (.int n) && PyData.showableAll (ns.map PyData.int)) = true
    rw [showable_ints ns fun m hm => h m (List.mem_cons_of_mem _ hm), Bool.and_true]
    exact decide_eq_true (h n (List.mem_cons_self ..))
theorem noDict_ints : ∀ ns : List Int, PyData.hasDictAll (ns.map PyData.int) = false
  | [] => rfl
  | n :: ns => by show (PyData.hasDict (.int n) || PyData.hasDictAll (ns.map PyData.int)) = false; rw [noDict_ints ns]; rfl
theorem shown_ints {ns : List Int} (h : ∀ n ∈ ns, n.natAbs.log2 < 1920) (hl : ns.length ≤ 1000) : (PyData.shown (.list (ns.map PyData.int))).length ≤ sizeLine := by
  show (listText (PyData.shownAll (ns.map PyData.int))).length ≤ _
  rw [shownAll_ints, sizeLine_eq]
  unfold listText
  rw [Str.length_append]
  have z := text_le 1921 (ns.map fun n => PyData.shown (.int n)) 0 "[" (fun t ht => by
    obtain ⟨n, hn, rfl⟩ := List.mem_map.mp ht
    exact int_text_len_1921 (h n hn))
  rw [List.length_map] at z
  have e1 : (("[" : String) : Str).length = 1 := by decide
  have e2 : (("]" : String) : Str).length = 1 := by decide
  rw [e1] at z
  rw [e2]
  omega
theorem w_showI {K : PySem.W.Frag} {i : Int} {H : Hp} {Q : VK} (h : i.natAbs.log2 < 1920) (q : Q (.str (PyData.shown (.int i))) H) : rShow K [.int i] H Q := .inl ⟨i, rfl, h, q⟩
theorem w_showN {K : PySem.W.Frag} {a : Addr} {ns : List Int} {H : Hp} {Q : VK} (sq : SqL K H a (ns.map V.int)) (h : ∀ n ∈ ns, n.natAbs.log2 < 1920) (hl : ns.length ≤ 1000) (q : Q (.str (PyData.shown (.list (ns.map PyData.int)))) H) : rShow K [.ref a] H Q :=
  .inr ⟨a, .list (ns.map PyData.int), rfl, .lst sq (dpAll_ints K H ns), showable_ints ns h, noDict_ints ns, by have := depthAll_ints ns; simp only [PyData.depth]; omega, shown_ints h hl, q⟩
theorem dpAll_strs (K : PySem.W.Frag) (H : Hp) : ∀ ss : List Str, DpAll K H (ss.map V.str) (ss.map PyData.str)
  | [] => .nil
  | s :: ss => .cons (.str s) (dpAll_strs K H ss)
theorem w_showS {K : PySem.W.Frag} {a : Addr} {ss : List Str} {H : Hp} {Q : VK} (sq : SqT K H a (ss.map V.str)) (h : (PyData.tuple (ss.map PyData.str)).showable = true ∧ (PyData.tuple (ss.map PyData.str)).hasDict = false ∧ (PyData.tuple (ss.map PyData.str)).depth ≤ 60 ∧ (PyData.tuple (ss.map PyData.str)).shown.length ≤ sizeLine)
    (q : Q (.str (PyData.shown (.tuple (ss.map PyData.str)))) H) : rShow K [.ref a] H Q := .inr ⟨a, .tuple (ss.map PyData.str), rfl, .tup sq (dpAll_strs K H ss), h.1, h.2.1, h.2.2.1, h.2.2.2, q⟩
/-! ### calls by keywords alone -/
structure CanW (P : Program) (w : World) (K : PySem.W.Frag) (mg : Str → Option Value) (base : Heap) (CX : CXT) (k : Nat) (x : Str) (ks : List Str) (gV : List V → List V → List V) (sp : Sp) : Prop where
  at_ : ∃ (f : Addr) (fd : FuncData) (ps : List Str) (g : List Value → List Value → List Value), FnOk P w K mg base CX k f fd ps sp ∧ mg x = some (.ref f) ∧ PySem.W.keepIn K (.ref f) = true ∧ KBn K fd ps 0 ks g gV
theorem canW_of {P : Program} {w : World} {K : PySem.W.Frag} {mg : Str → Option Value} {base : Heap} {CX : CXT} {k : Nat} {x : Str} {st : Stmt} {ps ks : List Str} {sp : Sp} (π : {α : Type} → List α → List α) (d : DefOk K mg x st ps) (h : ∀ f fd, Fun K x x st f fd → FnOk P w K mg base CX k f fd ps sp)
    (rel : ∀ {zs : List V} {ws : List Value}, Vals zs ws → Vals (π zs) (π ws))
    (bind : ∀ (kV doc pm : Value) (an : Option Addr) (cdv ct : Value) (ws : List Value), ws.length = ks.length → bindArgs (PySem.W.fnOf x x (defArgs st) (defBody st) (defScope st) .none kV doc pm an cdv ct) ⟨[], ks.zip ws⟩ = pure (ps.zip (π ws))) :
    CanW P w K mg base CX k x ks (fun _ zs => π zs) sp := by
  obtain ⟨f, fd, F, m, _⟩ := d.ex
  have G := h f fd F
  have kp := F.kp
  obtain ⟨oc, od, kV, doc, pm, an, cdv, ct, osl, rfl, lk, hcd⟩ := F.ex
  refine ⟨f, _, ps, fun _ ws => π ws, G, m, kp, ⟨fun s us ws _ l1 l2 => ?_, fun _ r => rel r⟩⟩
  cases us with
  | nil => exact .of_eq (bind kV doc pm an cdv ct ws l2)
  | cons _ _ => cases l1
theorem pe_canW {X : Cx} {CX : CXT} {k j : Nat} {x : Str} {ks : List Str} {gV : List V → List V → List V} {sp : Sp} {E : XK} {p pos : Pos} {kws : List Keyword} {tk : TA} (c : CanW X.prog X.w X.K X.mg X.base CX k x ks gV sp) (hr : Room j X.A) (hk : k ≤ j) (hx : Passes CX X E) (hg : Gl X x) (hkw : PK X kws tk)
    (hall : (backToKw pos (keywordEach kws X.env)).all (·.1.isSome) = true := by rfl) (hks : (backToKw pos (keywordEach kws X.env)).filterMap (·.1) = ks := by rfl) (hdb : (x == ("__debug__" : Str)) = false := by decide)
    (hpl : ((backTo pos (starEach [] X.env)).any (·.1) || (backToKw pos (keywordEach kws X.env)).any (·.1.isNone)) = false := by rfl) : PE X (.Call (.Name x p) [] kws pos) (tCallN 0 ks.length sp gV E tNil tk) := by
  obtain ⟨f, fd, ps, g, F, m, kp, b⟩ := c.at_
  refine ⟨fun pins s σ H Q I h => wpAny_Call_Name_kw (ld_glob I hg m (PySem.W.callWith_KW0 (h₀ := X.base) I.ok.mod.kin kp hall (thn (hkw.run pos pins s σ H _ I h) fun ws s2 y => ?_) hpl) hdb)⟩
  obtain ⟨zs, H2, J, rz, l1, l2, q⟩ := y
  refine ⟨J.kIn, ?_⟩
  rw [hks]
  exact run_fnN (us := []) (vs := []) F (hr.mono hk) b hx J .nil rz l1 l2 q
theorem w_callN {n m : Nat} {sp : Sp} {gV : List V → List V → List V} {E : XK} {t tk : TA} {σ : L2.St} {H : Hp} {Q : VK} (h : t σ H fun vs H1 => tk σ H1 fun zs H2 => vs.length = n ∧ zs.length = m ∧ sp (gV vs zs) H2 Q E) : tCallN n m sp gV E t tk σ H Q := h
/-- one way or its opposite -/
theorem w_negV {c : Bool} {Q : VK} {σ : L2.St} {H : Hp} {i : Nat} {a : Int} (e : σ[i]? = some (some (.int a))) (h : Q (.int (if c = true then -a else a)) H) : if c = true then tUn (rU fun i => .int (-i)) (tVar i) σ H Q else tVar i σ H Q := by
  cases c with
  | true => exact ⟨_, e, a, rfl, h⟩
  | false => exact ⟨_, e, h⟩
/-! ### comprehensions: a value made of each item, the heap growing -/
section
variable {K : PySem.W.Frag} {te : TE} {i : Nat} {σ : L2.St} {H1 : Hp} {Q : VK} {a : Addr}
theorem pe_lc1 {X : Cx} {x : Str} {i : Nat} {elt tg iter : Expr} {ifs : List Expr} {scope : Scope} {pos : Pos} {wi : TI} {g : TG} {tt : TT} {te : TE} (hc : X.calm = true) (hN : X.N.Nodup) (hi : PI X tg iter wi) (ok : BlkOk X.N X.env.scope scope [(x, i)])
    (hg : ∀ (s : Shared) (H : Hp) (C : Addr) (cl : List (Str × Addr)) (fp : List Addr), PG (X.blk s H scope (compEnvC scope cl C X.env) fp) tg g) (ht : ∀ (s : Shared) (H : Hp) (C : Addr) (cl : List (Str × Addr)) (fp : List Addr), PTs (X.blk s H scope (compEnvC scope cl C X.env) fp) ifs tt)
    (he : ∀ (s : Shared) (H : Hp) (C : Addr) (cl : List (Str × Addr)) (fp : List Addr), PE (X.blk s H scope (compEnvC scope cl C X.env) fp) elt te) (hs : ∀ x, foldedSetIterable iter X.env x = pure x := by intro _; rfl) : PE X (.ListComp elt [⟨tg, iter, ifs, 0⟩] scope pos) (tLc wi g tt te [i]) :=
  pe_lc (own := [(x, i)]) hc hN hi ok hg ht he hs
theorem ps_setLc1 {X : Cx} {k i : Nat} {x y : Str} {py : Pos} {elt tg iter : Expr} {ifs : List Expr} {scope : Scope} {pos spos : Pos} {wi : TI} {g : TG} {tt : TT} {te : TE} (hc : X.calm = true) (hN : X.N.Nodup) (hy : X.N[i]? = some y) (hyl : X.env.scope.names.lookup y = some .local)
    (hsw : swapsWith (.ListComp elt [⟨tg, iter, ifs, 0⟩] scope pos) (some (.Name y py)) spos.line X.env = pure true) (hi : PI X tg iter wi) (ok : BlkOk X.N X.env.scope scope [(x, k)])
    (hg : ∀ (s : Shared) (H : Hp) (C : Addr) (cl : List (Str × Addr)) (fp : List Addr), PG (X.blk s H scope (compEnvC scope cl C X.env) fp) tg g) (ht : ∀ (s : Shared) (H : Hp) (C : Addr) (cl : List (Str × Addr)) (fp : List Addr), PTs (X.blk s H scope (compEnvC scope cl C X.env) fp) ifs tt)
    (he : ∀ (s : Shared) (H : Hp) (C : Addr) (cl : List (Str × Addr)) (fp : List Addr), PE (X.blk s H scope (compEnvC scope cl C X.env) fp) elt te) (hs : ∀ x, foldedSetIterable iter X.env x = pure x := by intro _; rfl) :
    PS X (.Assign [.Name y py] (.ListComp elt [⟨tg, iter, ifs, 0⟩] scope pos) spos) (tAsg (tLc wi g tt te [k]) (gName i)) := ps_setLc (own := [(x, k)]) hc hN hy hyl hsw hi ok hg ht he hs
/-- a turn: of the j-th item the j-th value is made -/
def Turns (te : TE) (i : Nat) (σ : L2.St) (H1 : Hp) (xs ys : List V) : Prop := ∀ (j : Nat) (x y : V) (H' : Hp) (R : VK), xs[j]? = some x → ys[j]? = some y → Grow H1 H' → (∀ H2, Grow H' H2 → R y H2) → te ((wipe σ [i]).set i (some x)) H' R
theorem lc_turn {xs ys : List V} {D : Addr} (hw : ∀ x, wipe ((wipe σ [i]).set i (some x)) [i] = wipe σ [i]) (hl : ys.length = xs.length) (hs : xs.length < sizeLine) (turn : Turns te i σ H1 xs ys) (nD : H1 D = none)
    (j : Nat) (x : V) (H' : Hp) (ex : xs[j]? = some x) (p : H' D = some (.lst (ys.take j)) ∧ Grow H1 H') :
    gName i x (wipe σ [i]) H' fun σ2 H2 => wipe σ2 [i] = wipe σ [i] ∧ tYes σ2 H2 fun b H3 => if b = true then te σ2 H3 fun y H4 => ∃ acc, H4 D = some (.lst acc) ∧ acc.length < sizeLine ∧
      (upd H4 D (.lst (acc ++ [y])) D = some (.lst (ys.take (j + 1))) ∧ Grow H1 (upd H4 D (.lst (acc ++ [y])))) else (H3 D = some (.lst (ys.take (j + 1))) ∧ Grow H1 H3) := by
  refine ⟨hw x, ?_⟩
  unfold tYes
  refine w_yes ?_
  have hj : j < ys.length := by rw [hl]; exact (List.getElem?_eq_some_iff.mp ex).1
  refine turn j x ys[j] H' _ ex (by simp [hj]) p.2 fun H2 g => ⟨ys.take j, g _ _ p.1, by rw [List.length_take]; omega, ?_, fun b o e => ?_⟩
  · rw [upd_same, List.take_succ_eq_append_getElem hj]
  · rw [upd_ne (ne_of_none e nD)]; exact g _ _ (p.2 _ _ e)
theorem lcL {Qd : Addr → Hp → Prop} {xs ys : List V} (hw : ∀ x, wipe ((wipe σ [i]).set i (some x)) [i] = wipe σ [i]) (hl : ys.length = xs.length) (hs : xs.length < sizeLine) (sq : SqL K H1 a xs) (turn : Turns te i σ H1 xs ys)
    (done : ∀ D H', H1 D = none → H' D = some (.lst ys) → Grow H1 H' → Qd D H') (D : Addr) (nD : H1 D = none) :
    ∃ W : Nat → Nat → Hp → Prop, (∃ m, W 0 m (upd H1 D (.lst []))) ∧ ∀ j m H, W j m H →
      ((Itl K a).stop j H ∧ Qd D H) ∨ ((Itl K a).go j H ∧ ∃ Nx : Hp → Prop, (∀ H', Nx H' → ∃ m', m' < m ∧ W (j + 1) m' H') ∧ ∀ x H', (Itl K a).yld j H x H' → gName i x (wipe σ [i]) H' fun σ2 H2 => wipe σ2 [i] = wipe σ [i] ∧ tYes σ2 H2 fun b H3 =>
        if b = true then te σ2 H3 fun y H4 => ∃ acc, H4 D = some (.lst acc) ∧ acc.length < sizeLine ∧ Nx (upd H4 D (.lst (acc ++ [y]))) else Nx H3) :=
  lc_list (xs := xs) (fun j H' => H' D = some (.lst (ys.take j)) ∧ Grow H1 H') ⟨upd_same, Grow.new nD⟩ (fun j H' _ p => p.2.sqL sq) (lc_turn hw hl hs turn nD) (fun H' p => done D H' nD (by rw [← hl, List.take_length] at p; exact p.1) p.2)
theorem lcT {Qd : Addr → Hp → Prop} {xs ys : List V} (hw : ∀ x, wipe ((wipe σ [i]).set i (some x)) [i] = wipe σ [i]) (hl : ys.length = xs.length) (hs : xs.length < sizeLine) (sq : SqT K H1 a xs) (turn : Turns te i σ H1 xs ys)
    (done : ∀ D H', H1 D = none → H' D = some (.lst ys) → Grow H1 H' → Qd D H') (D : Addr) (nD : H1 D = none) :
    ∃ W : Nat → Nat → Hp → Prop, (∃ m, W 0 m (upd H1 D (.lst []))) ∧ ∀ j m H, W j m H →
      ((Itt K a).stop j H ∧ Qd D H) ∨ ((Itt K a).go j H ∧ ∃ Nx : Hp → Prop, (∀ H', Nx H' → ∃ m', m' < m ∧ W (j + 1) m' H') ∧ ∀ x H', (Itt K a).yld j H x H' → gName i x (wipe σ [i]) H' fun σ2 H2 => wipe σ2 [i] = wipe σ [i] ∧ tYes σ2 H2 fun b H3 =>
        if b = true then te σ2 H3 fun y H4 => ∃ acc, H4 D = some (.lst acc) ∧ acc.length < sizeLine ∧ Nx (upd H4 D (.lst (acc ++ [y]))) else Nx H3) :=
  lc_tup (xs := xs) (fun j H' => H' D = some (.lst (ys.take j)) ∧ Grow H1 H') ⟨upd_same, Grow.new nD⟩ (fun j H' _ p => p.2.sqT sq) (lc_turn hw hl hs turn nD) (fun H' p => done D H' nD (by rw [← hl, List.take_length] at p; exact p.1) p.2)
end
/-- a part of a list of ints -/
theorem cut_ints (ns : List Int) (lo hi : Option Int) : ∃ ms : List Int, cutV (ns.map V.int) lo hi = ms.map V.int ∧ ms.length ≤ ns.length := by
  refine ⟨(ns.drop (HT.sIx (ns.map V.int).length 0 lo)).take (HT.sIx (ns.map V.int).length (ns.map V.int).length hi - HT.sIx (ns.map V.int).length 0 lo), ?_, ?_⟩
  · unfold cutV
    rw [List.map_take, List.map_drop]
  · rw [List.length_take, List.length_drop]; omega
/-! ### promises that all laws have -/
/-- the cloud of a script -/
def spBegin (K : PySem.W.Frag) : Sp := fun vs H Q _ => ∃ (a : Addr) (ns : List Int), vs = [.ref a] ∧ SqL K H a (ns.map V.int) ∧ ns.length ≤ 63 ∧ ∀ c H', H c = none → Grow H H' → Cloud K H' c 0 → Q (.ref c) H'
/-- one of some -/
def spOneOf (K : PySem.W.Frag) : Sp := fun vs H Q _ => ∃ (c : Addr) (n : Nat) (p : Addr) (xs : List V), vs = [.ref c, .ref p] ∧ Cloud K H c n ∧ n < 999990 ∧ SqL K H p xs ∧ p ≠ c ∧ 0 < xs.length ∧ xs.length < 1000000 ∧
  ∀ (x : V) (n' : Nat) (H' : Hp), x ∈ xs → n' ≤ n + 1 → Cloud K H' c n' → Ext c H H' → Q x H'
end FW

set_option maxRecDepth 100000
set_option maxHeartbeats 4000000
/-! fair weather: a lambda with one parameter that has a default, handed to a def -/
namespace FW
open PySem PySem.Spec PyProof.Rows L2 LamX
/-- its names: one parameter p, captured ones, globals; N: the names of the def that makes it -/
structure LamP (N : List Str) (sc scope : Scope) (p : Str) : Prop where
  kind : scope.kind = .function
  co : scope.isCoroutine = false
  gen : scope.isGenerator = false
  par : scope.names.lookup p = some .local
  nocell : ∀ z ∈ scope.names, z.2 ≠ .cell
  apart : ∀ z ∈ scope.names, z.2 = .local → z.1 ∉ N
  up : ∀ z ∈ scope.names, z.2 = .free → sc.names.lookup z.1 = some .cell ∨ sc.names.lookup z.1 = some .free
def lamPB (N : List Str) (sc scope : Scope) (p : Str) : Bool :=
  decide (scope.kind = .function) && (!scope.isCoroutine && (!scope.isGenerator && (decide (scope.names.lookup p = some .local) && scope.names.all fun z =>
    !decide (z.2 = .cell) && ((!decide (z.2 = .local) || !decide (z.1 ∈ N)) && (!decide (z.2 = .free) || (decide (sc.names.lookup z.1 = some .cell) || decide (sc.names.lookup z.1 = some .free)))))))
theorem lamP_by {N : List Str} {sc scope : Scope} {p : Str} (h : lamPB N sc scope p = true) : LamP N sc scope p := by
  unfold lamPB at h
  simp only [Bool.and_eq_true, Bool.or_eq_true, Bool.not_eq_true', decide_eq_true_eq, decide_eq_false_iff_not, List.all_eq_true] at h
  obtain ⟨k1, k2, k3, k4, k5⟩ := h
  refine ⟨k1, k2, k3, k4, fun z hz => (k5 z hz).1, fun z hz e => ?_, fun z hz e => ?_⟩
  · rcases (k5 z hz).2.1 with q | q
    · exact absurd e q
    · exact q
  · rcases (k5 z hz).2.2 with q | q
    · exact absurd e q
    · exact q
section
variable {X : Cx} {pins : List (Addr × Obj)} {σ : L2.St} {H HZ : Hp} {s s1 : Shared} {scope : Scope} {p : Str}
theorem LamP.cells (L : LamP X.N X.env.scope scope p) (ok : X.Ok) : ∀ z ∈ scope.names, z.2 = .free → ∃ c, X.env.cells.lookup z.1 = some c := fun z hz e => by
  rcases L.up z hz e with q | q
  · exact ok.has _ (.inl q)
  · exact ok.has _ (.inr q)
/-- its body begins -/
theorem startP {A : Around} {outer : List Env} {E : XK} {f c' : Addr} {g : Heap} {tk : Nat} {u : Value} (I : Inv X pins σ H s) (L : LamP X.N X.env.scope scope p) (en : Env0 X.prog X.w X.K X.mg X.base A outer s1 HZ) (calm : A.handled = none)
    (un : Un (frs X.stack) [] H HZ s.heap s1.heap) (ns : g.Ns s1.heap.objs.size fun y => ([(p, u)] : List (Str × Value)).reverse.lookup y) (kp : ∀ b o, s1.heap.get? b = some o → g.get? b = some o) :
    Inv (lamCx X A outer s1 HZ E scope f c') [] σ HZ { s1 with heap := g, toks := tk } := by
  have has := L.cells I.ok
  have mine : ∀ {y c}, (cloFrom X.env.cells scope.names []).lookup y = some c → X.env.cells.lookup y = some c := fun {y c} e => by
    rcases cloFrom_mem (PySem.mem_of_lookup e) with hm | ⟨m1, m2⟩
    · cases hm
    · obtain ⟨d, hd⟩ := has _ m1 rfl
      have hd' : X.env.cells.lookup y = some d := hd
      obtain rfl : c = d := by rw [m2, hd'] <;> rfl
      exact hd'
  have there : ∀ {y}, scope.names.lookup y = some .free → ∃ c, (cloFrom X.env.cells scope.names []).lookup y = some c := fun {y} hl =>
    mem_lookup (cloFrom_has (cells := X.env.cells) (acc := []) (show (y, NameKind.free) ∈ scope.names from PySem.mem_of_lookup hl))
  have still : ∀ {c : Addr} {v : Option Value}, H c = none → s.heap.IsCell c v → g.IsCell c v := fun {c v} n ⟨o, ho, hv⟩ => by
    obtain ⟨sl, q⟩ := un.any ho n (by simp)
    exact ⟨_, kp _ _ q, hv⟩
  have none_ : ∀ b : Addr, b ∉ (lamCx X A outer s1 HZ E scope f c').ex := fun b z => absurd (show b ∈ ([] : List Addr) from z) (by simp)
  have okL : (lamCx X A outer s1 HZ E scope f c').Ok := by
    refine ⟨en.mod, L.kind, rfl, rfl, Nat.le_refl _, ?i1, ?i2, ?i3, fun _ => calm, Around.frames_deeper en.frames, .inr ⟨rfl, rfl⟩, ?i4, en.bs, en.bsz, ?i5, ?i6, en.funs, en.frf⟩
    case i1 => exact fun y z c e1 e2 => I.ok.inj y z c (mine e1) (mine e2)
    case i2 =>
      intro y hy
      rcases (show scope.names.lookup y = some .cell ∨ scope.names.lookup y = some .free from hy) with q | q
      · exact absurd rfl (L.nocell _ (PySem.mem_of_lookup q))
      · exact there q
    case i3 => exact fun y c z _ => nomatch (show false = true from z)
    case i4 => exact fun b z => absurd z (none_ b)
    case i5 => exact fun b _ _ => none_ b
    case i6 => exact fun b z => absurd z (none_ b)
  refine ⟨okL, rfl, en.bare, Un.kept kp, ⟨_, ns, ?j1⟩, ?j2, en.hok.fresh (Nat.le_refl _), ?j3, ?j4, en.hok.kept kp, I.len⟩
  case j1 =>
    intro i y v e1 e2 e3
    rcases (show Vis scope y from e3) with q | q | q
    · exact absurd (List.mem_of_getElem? (show X.N[i]? = some y from e1)) (L.apart _ (PySem.mem_of_lookup q) rfl)
    · exact absurd rfl (L.nocell _ (PySem.mem_of_lookup q))
    · obtain ⟨m, hn, hl⟩ := I.loc
      have up := L.up _ (PySem.mem_of_lookup q) rfl
      obtain ⟨u', r, w'⟩ := hl i y v e1 e2 (up.elim (fun k => .inr (.inl k)) (fun k => .inr (.inr k)))
      obtain ⟨d, hd⟩ := there q
      refine ⟨u', r, .inr ⟨.inr q, d, hd, ?_⟩⟩
      have md := mine hd
      rcases w' with ⟨kl, _⟩ | ⟨_, d2, ed, hc⟩
      · have kl' : X.env.scope.names.lookup y = some .local := kl
        rcases up with k | k <;> rw [show X.env.scope.names.lookup y = _ from k] at kl' <;> cases kl'
      · rw [md] at ed; cases ed
        exact still (I.freeC y _ md) hc
  case j2 =>
    intro y c e
    obtain ⟨v, hv⟩ := I.cell y c (mine e)
    exact ⟨v, still (I.freeC y c (mine e)) hv⟩
  case j3 =>
    intro y c e
    obtain ⟨v, o, ho, hv⟩ := I.cell y c (mine e)
    exact un.free c o ho (I.freeC y c (mine e)) (by simp)
  case j4 => exact fun q hq => absurd (show q ∈ ([] : List (Addr × Obj)) ++ [] from hq) (by simp)
end
abbrev lamPF (q : Str) (params : Arguments) (body : Expr) (scope : Scope) (cl : List (Str × Addr)) (t : Addr) (doc pm cv ct : Value) : FuncData := PySem.W.kdv_fn "<lambda>" q params (.expr body) scope cl (.ref t) doc pm cv ct
section
variable {X : Cx} {pins : List (Addr × Obj)} {σ : L2.St} {H : Hp} {s : Shared}
/-- it is made: a tuple of its default, a code object that is new or found in the table, the def itself -/
theorem makeP {T : List (Addr × Str)} {c P : Addr} {params : Arguments} {body d0 : Expr} {v0 : V} {scope : Scope} {pos : Pos} {Q : Value → Shared → Prop} (I : Inv X pins σ H s) (TB : TabB X.base X.mg c P) (hcode : X.env.code = .ref c)
    (hm : (P, X.env.qual ++ "<lambda>") ∈ T) (hu : ∀ b ∈ T, b.1 = P → b.2 = X.env.qual ++ "<lambda>") (hT : Tabs T H) (hd : params.defaults = [d0]) (hk : params.kw_defaults = []) (he : PE X d0 (tC v0)) (cells : ∀ z ∈ scope.names, z.2 = .free → ∃ c, X.env.cells.lookup z.1 = some c)
    (go : ∀ (f t c' : Addr) (u pm ctv doc : Value) (H1 : Hp) (s' : Shared), Inv X pins σ H1 s' → ExtN H H1 → Tabs T H1 →
      s'.heap.get? f = some ⟨.type "function", none, .func (lamPF (X.env.qual ++ "<lambda>") params body scope (cloFrom X.env.cells scope.names []) t doc pm (.ref c') ctv), #[]⟩ → s'.heap.get? t = some (PySem.W.kdv_tup [u]) →
      H1 f = none → f ∉ frs X.stack → H1 t = none → t ∉ frs X.stack → H1 c' = some (CodeO c' (X.env.qual ++ "<lambda>")) → Q (.ref f) s') :
    wpAny (model X.prog X.w) X.A (eval (.Lambda params body scope pos) X.env) Q X.xe s := by
  obtain ⟨ps, hP, ht, ha⟩ := hT _ hm
  refine PySem.W.kdv_lam (by rw [hd]; rfl) hk ?_
  rw [hd]
  refine PySem.W.kdv_all1 (thn (he.run pins s σ H (fun _ K1 => K1 = H) I rfl) fun u sa ⟨va, Ha, Ia, _, ea⟩ => ?_)
  subst ea
  refine PySem.W.kdv_all0 ?_
  rw [makeFunction_eq]
  simp only [List.zip_nil_right, List.filterMap_nil, List.isEmpty_nil, List.isEmpty_cons, if_true, pure_bind, Bool.false_eq_true, if_false]
  refine wpAny_bind (wpAny_newTextTuple ?_)
  have nt : Ha sa.heap.objs.size = none := Ia.hok.fresh (Nat.le_refl _)
  have off : ∀ f, sa.heap.objs.size ≤ f → f ∉ frs X.stack := fun f hf z => by
    rcases List.mem_cons.mp (Ia.stkSub _ z) with e | e
    · have lt := Ia.lt
      rw [← e] at lt
      exact Nat.lt_irrefl _ (Nat.lt_of_lt_of_le lt hf)
    · exact Ia.nofs hf e
  have offt := off _ (Nat.le_refl _)
  have Ib : Inv X pins σ Ha { sa with heap := sa.heap.push (PySem.W.kdv_tup [u]) } := Ia.kept fun b o e => Heap.get?_push_of_some _ e
  have tt : (sa.heap.push (PySem.W.kdv_tup [u])).get? sa.heap.objs.size = some (PySem.W.kdv_tup [u]) := Heap.get?_push_size _ rfl
  have grown : sa.heap.objs.size ≤ (sa.heap.push (PySem.W.kdv_tup [u])).objs.size := by rw [Heap.size_push]; omega
  have less : sa.heap.objs.size < (sa.heap.push (PySem.W.kdv_tup [u])).objs.size := by rw [Heap.size_push]; omega
  revert tt Ib grown less
  generalize sa.heap.push (PySem.W.kdv_tup [u]) = hb
  intro Ib tt grown less
  generalize hsb : ({ sa with heap := hb } : Shared) = sb at Ib ⊢
  have hbs : sb.heap = hb := by rw [← hsb]
  rw [← hbs] at tt grown less
  have bt : sb.heap.BuiltinsAt X.mg P := TB.bm.keeps Ib.bk
  have pt : sb.heap.get? P = some { cls := .none, data := .fields ps } := Ib.hok P _ hP
  cases found : codeAmong pos ps.toList with
  | none =>
    refine PySem.W.kdv_makeTail (mg := X.mg) (c := c) (P := P) (ps := ps) (closure_ok cells) Ib.ok.glob (Ib.mod.glob.keeps Ib.bk) hcode (TB.code.keeps Ib.bk) pt ht found TB.gP bt fun c' ctv doc hc tk keep ge lt rec_ tab => ?_
    obtain ⟨c2, oc, vs, tq, ec, hoc, hdc, hv⟩ := rec_
    cases ec
    have szs : sb.heap.objs.size ≤ hc.objs.size := Nat.le_trans ge (Nat.le_of_lt lt)
    have nC : Ha c' = none := Ib.hok.fresh ge
    have If := inv_table (t' := tk) (more := #[rawInt pos.line, rawInt pos.col, .ref c']) (h' := hc.push (PySem.W.kdv_obj "<lambda>" (X.env.qual ++ "<lambda>") params (.expr body) scope (cloFrom X.env.cells scope.names []) (.ref sa.heap.objs.size) doc ((X.mg "__name__").getD .none) c' ctv)) Ib hP
      (fun b o nb e => Heap.get?_push_of_some _ (keep b o nb e)) (Heap.get?_push_of_some _ tab) ge ⟨oc, vs, tq, Heap.get?_push_of_some _ hoc, hdc, hv⟩
    have eN : ExtN Ha (upd (upd Ha P (.tbl (ps ++ #[rawInt pos.line, rawInt pos.col, .ref c']))) c' (CodeO c' (X.env.qual ++ "<lambda>"))) := fun b o e n => by
      have n1 : b ≠ c' := ne_of_none e nC
      have n2 : b ≠ P := fun z => n ps (Option.some.inj (e.symm.trans (by rw [z]; exact hP)))
      rw [upd_ne n1, upd_ne n2]
      exact e
    have asL : (ps ++ #[rawInt pos.line, rawInt pos.col, .ref c']).toList = ps.toList ++ [rawInt pos.line, rawInt pos.col, .ref c'] := by simp
    have tP : sa.heap.objs.size ≠ P := fun z => by rw [← z, nt] at hP; cases hP
    have tC' : sa.heap.objs.size ≠ c' := Nat.ne_of_lt (Nat.lt_of_lt_of_le less ge)
    refine go hc.objs.size sa.heap.objs.size c' u ((X.mg "__name__").getD .none) ctv doc _ _ If eN ?t1 (Heap.get?_push_size _ rfl) (Heap.get?_push_of_some _ (keep _ _ tP tt)) ?t2 (off _ (Nat.le_trans grown szs)) ?t3 offt upd_same
    case t1 =>
      intro b hb'
      by_cases same : b.1 = P
      · rw [hu b hb' same, same]
        refine ⟨_, by rw [upd_ne (ne_of_none hP nC), upd_same], by rw [asL]; exact PySem.TriplesOk_snoc _ _ _ _ ht, fun pq cv hcv => ?_⟩
        rw [asL] at hcv
        rcases among_app _ ht hcv with z | z
        · obtain ⟨c0, e1, e2⟩ := ha pq cv z
          exact ⟨c0, e1, eN _ _ e2 codeO_ne⟩
        · exact ⟨c', z, upd_same⟩
      · obtain ⟨qs, a1, a2, a3⟩ := hT b hb'
        refine ⟨qs, ?_, a2, fun pq cv hcv => ?_⟩
        · rw [upd_ne (ne_of_none a1 nC), upd_ne same]; exact a1
        · obtain ⟨c0, e1, e2⟩ := a3 pq cv hcv
          exact ⟨c0, e1, eN _ _ e2 codeO_ne⟩
    case t2 =>
      have m1 : hc.objs.size ≠ c' := Nat.ne_of_gt lt
      have m2 : hc.objs.size ≠ P := Nat.ne_of_gt (Nat.lt_of_lt_of_le (Heap.lt_size pt) szs)
      rw [upd_ne m1, upd_ne m2]
      exact Ib.hok.fresh szs
    case t3 =>
      rw [upd_ne tC', upd_ne tP]
      exact nt
  | some cv =>
    obtain ⟨c', ec, hco⟩ := ha pos cv found
    subst ec
    refine PySem.W.kdv_makeTailHit (mg := X.mg) (c := c) (P := P) (ps := ps) (closure_ok cells) Ib.ok.glob (Ib.mod.glob.keeps Ib.bk) hcode (TB.code.keeps Ib.bk) pt ht found bt fun ctv doc hc tk keep szs => ?_
    have If : Inv X pins σ Ha { sb with heap := hc.push ⟨.type "function", none, .func (lamPF (X.env.qual ++ "<lambda>") params body scope (cloFrom X.env.cells scope.names []) sa.heap.objs.size doc ((X.mg "__name__").getD .none) (.ref c') ctv), #[]⟩, toks := tk } :=
      Ib.kept fun b o e => Heap.get?_push_of_some _ (keep b o e)
    exact go hc.objs.size sa.heap.objs.size c' u ((X.mg "__name__").getD .none) ctv doc Ha _ If (ExtN.refl Ha) hT (Heap.get?_push_size _ rfl) (Heap.get?_push_of_some _ (keep _ _ tt)) (Ib.hok.fresh szs) (off _ (Nat.le_trans grown szs)) nt offt hco
end
section
variable {X : Cx} {pins : List (Addr × Obj)} {σ : L2.St} {H : Hp} {s : Shared}
/-- it is called, in the def that got it -/
theorem actP {CXg : CXT} {Eg : XK} {Ng : List Str} {qg : Str} {sg : Scope} {g f t c' : Addr} {cdg pm ctv doc u : Value} {params : Arguments} {body : Expr} {scope : Scope} {k i : Nat} {a p : Str} {pn : List (Addr × Obj)} {xe : Value → Shared → Prop} {W : WX} {E : XK} {tb : TE} {q1 q2 : Pos}
    (I : Inv X pins σ H s) (L : LamP X.N X.env.scope scope p) (hf : s.heap.get? f = some ⟨.type "function", none, .func (lamPF (X.env.qual ++ "<lambda>") params body scope (cloFrom X.env.cells scope.names []) t doc pm (.ref c') ctv), #[]⟩)
    (ht : s.heap.get? t = some (PySem.W.kdv_tup [u])) (nf : H f = none) (rf : f ∉ frs X.stack) (nt : H t = none) (rt : t ∉ frs X.stack)
    (bind : ∀ z : Shared, z.heap.get? t = some (PySem.W.kdv_tup [u]) → BindsTo z (lamPF (X.env.qual ++ "<lambda>") params body scope (cloFrom X.env.cells scope.names []) t doc pm (.ref c') ctv) ⟨[], []⟩ [(p, u)])
    (tk : Takes ((cxOf CXg X.prog X.w X.K X.mg X.base Ng qg sg g cdg X.A X.stack s H Eg).tr pn xe) W) (hW : ∀ cls d σ' H', E cls d H' → W cls d σ' H') (hr : Room (k + 1) (X.A.deeper (envOfC qg sg s.heap.objs.size g cdg)))
    (inner : ∀ (A : Around) (outer : List Env) (s : Shared) (H : Hp), Room k (A.deeper (lamEnv X scope s.heap.objs.size f c')) → PE (lamCx X A outer s H E scope f c') body tb)
    (hN : Ng[i]? = some a) (hv : Vis sg a) (hd : (a == ("__debug__" : Str)) = false := by decide) (hcd : (a == ("__classdict__" : Str)) = false := by decide) :
    PE ((cxOf CXg X.prog X.w X.K X.mg X.base Ng qg sg g cdg X.A X.stack s H Eg).tr pn xe) (.Call (.Name a q1) [] [] q2)
      (fun σZ HZ Q => σZ[i]? = some (some (.ref f)) ∧ HZ c' = some (CodeO c' (X.env.qual ++ "<lambda>")) ∧ tb σ HZ Q) := by
  refine ⟨fun pinsZ sZ σZ HZ Q IZ ⟨hs, hc, hq⟩ => ?_⟩
  refine wpAny_Call_Name_kw (thn ((pe_var (pos := q1) (i := i) hN hv hd hcd).run pinsZ sZ σZ HZ (fun v K1 => v = .ref f ∧ K1 = HZ) IZ ⟨.ref f, hs, rfl, rfl⟩) fun uf sa ⟨v, Ha, Ia, ra, ev, eH⟩ => ?_)
  subst ev eH
  obtain rfl : uf = Value.ref f := ra
  have nob : ∀ b : Addr, b ∉ ([] : List Addr) := fun b z => nomatch z
  have fa := Ia.base.keep f _ hf nf rf (nob f)
  have ta := Ia.base.keep t _ ht nt rt (nob t)
  refine PySem.W.callWith_F0 ⟨_, _, _, _, fa⟩ ?_
  have un : Un (frs X.stack) [] H Ha s.heap sa.heap := Ia.base
  obtain ⟨⟨oc, vs, tq, hoc, hdc, hvc⟩, _, _⟩ := Ia.hok c' _ hc
  have runs : codeAny (model X.prog X.w) (X.A.deeper (envOfC qg sg s.heap.objs.size g cdg)) (.call (.ref f) ⟨[], []⟩) (CR (L2.CX X.prog X.w) (envOfC qg sg s.heap.objs.size g cdg :: X.stack) X.prog X.w Ha sa Q E) sa := by
    refine PySem.W.kla_callFunE hr.depth fa rfl L.co L.gen rfl ⟨c', oc, vs, tq, rfl, hoc, hdc, hvc⟩ (bind sa ta _ _ _ _ ?_)
    refine wpAny_newFunctionEnv L.nocell ?b1 (fun hz ns sb => ⟨Ia.nolimit.fresh _ sb, ?b2⟩) L.kind
    case b1 =>
      intro y hy
      rw [List.mem_singleton.mp hy]
      exact L.par
    case b2 =>
      show codeAny _ _ (.expr body (lamEnv X scope sa.heap.objs.size f c')) _ _
      have kp : ∀ b o, sa.heap.get? b = some o → hz.get? b = some o := fun b o e => sb.extBut b o (Nat.ne_of_lt (Heap.lt_size e)) (Heap.get?_push_of_some _ e)
      have J : Inv (lamCx X (X.A.deeper (envOfC qg sg s.heap.objs.size g cdg)) (envOfC qg sg s.heap.objs.size g cdg :: X.stack) sa Ha E scope f c') [] σ Ha { sa with heap := hz, toks := sa.toks + ([(p, u)] : List (Str × Value)).length } :=
        startP I L Ia.env0 hr.hd un ns kp
      refine PySem.W.kla_codeExpr (wpAny_mono ((inner _ _ sa Ha (hr.deeper _)).run [] _ _ Ha Q J hq) ?b3 fun _ _ z => z)
      case b3 => exact fun v s' ⟨w', H', J', rv, q⟩ => ⟨w', H', J'.os, J'.bare, J'.base, J'.hok, rv, q⟩
  have out : Passes (L2.CX X.prog X.w) ((cxOf CXg X.prog X.w X.K X.mg X.base Ng qg sg g cdg X.A X.stack s H Eg).tr pn xe) E := passes_call tk hW
  refine wpAny_call (codeAny_mono runs fun r s' z => ?_)
  match r, z with
  | .error e, z => exact out pinsZ σZ Ha sa e s' Ia z
  | .ok (.ret _), z => exact Ia.after z
  | .ok .next, z => exact z.elim
  | .ok .brk, z => exact z.elim
  | .ok .cont, z => exact z.elim
/-- x(lambda p=d: body) -/
theorem pe_lamcallP {T : List (Addr × Str)} {TT : (XK → Hp → VK → Prop) → Hp → VK → Prop} {x a p : Str} {g c P : Addr} {k : Nat} {pg : Arguments} {bg : List Stmt} {sg : Scope} {dV kV doc pm cdv ct oc : Value} {an od : Option Addr} {osl : Array (Option Value)} {Ng : List Str}
    {params : Arguments} {body d0 : Expr} {v0 : V} {scope : Scope} {t : XK → TE} {q1 q2 q3 : Pos} (hg : Gl X x) (hm : X.mg x = some (.ref g)) (hk : PySem.W.keepIn X.K (.ref g) = true)
    (lk : X.K.lookup g = some ⟨oc, od, .func (PySem.W.fnOf x x pg bg sg dV kV doc pm an cdv ct), osl⟩) (hcg : PySem.W.codeIn X.K cdv x = true) (hb : L2.Binds X.K (PySem.W.fnOf x x pg bg sg dV kV doc pm an cdv ct) [a] []) (Sg : FnScope Ng [a] sg) (hNg : Ng[0]? = some a) (hva : Vis sg a)
    (hG : GivesTo X Ng x sg g cdv bg a (X.env.qual ++ "<lambda>") TT) (TB : TabB X.base X.mg c P) (hcode : X.env.code = .ref c) (hmT : (P, X.env.qual ++ "<lambda>") ∈ T) (hu : ∀ b ∈ T, b.1 = P → b.2 = X.env.qual ++ "<lambda>") (hr : Room (k + 2) X.A)
    (L : LamP X.N X.env.scope scope p) (hd : params.defaults = [d0]) (hkd : params.kw_defaults = []) (he : PE X d0 (tC v0))
    (bind : ∀ (q : Str) (cl : List (Str × Addr)) (t : Addr) (u doc pm cv ctv : Value) (z : Shared), z.heap.get? t = some (PySem.W.kdv_tup [u]) → BindsTo z (lamPF q params body scope cl t doc pm cv ctv) ⟨[], []⟩ [(p, u)])
    (inner : ∀ (A : Around) (outer : List Env) (s : Shared) (H : Hp) (E : XK) (f c' : Addr), Room k (A.deeper (lamEnv X scope s.heap.objs.size f c')) → PE (lamCx X A outer s H E scope f c') body (t E))
    (n1 : (x == ("__debug__" : Str)) = false := by decide) (n2 : (a == ("__debug__" : Str)) = false := by decide) (n3 : (a == ("__classdict__" : Str)) = false := by decide) :
    PE X (.Call (.Name x q1) [.Lambda params body scope q2] [] q3) (tLam T TT t) := by
  refine ⟨fun pins s σ H Q I ⟨hT, h⟩ => ?_⟩
  refine wpAny_Call_Name_kw (ld_glob I hg hm (PySem.W.callWith_K (h₀ := X.base) I.ok.mod.kin hk ?_ (by rfl) (by rfl)) n1)
  show wpAny _ _ (spliced ((false, eval (.Lambda params body scope q2) X.env) :: backTo q3 (starEach [] X.env))) _ _ s
  refine Calls.spliced_cons (makeP I TB hcode hmT hu hT hd hkd he (L.cells I.ok) fun f t1 c' u pm' ctv doc' H1 s' J eN T1 hf ht nf rf nt rt hco => ?_)
  refine Calls.spliced_nil ⟨J.kIn, ?_⟩
  have runs : codeAny (model X.prog X.w) X.A (.call (.ref g) ⟨[.ref f], []⟩) (CR C8.CX0 X.stack X.prog X.w H1 s' Q C8.E0) s' := by
    refine run_ofS (N := Ng) (ps := [a]) (us := [.ref f]) (vs := [.ref f]) lk hcg Sg hr J.env0 (hb s' [.ref f] J.kIn rfl) (.cons rfl .nil) rfl fun hr' => ?_
    obtain ⟨td, hp, hq⟩ := hG f c' s' H1 Q (fun E H' Q' => t E σ H' Q') (fun W pn xe E p1 p2 tk hW => actP (i := 0) J L hf ht nf rf nt rt (fun z => bind _ _ _ _ _ _ _ _ z) tk hW hr' (fun A outer s H hr2 => inner A outer s H E f c' hr2) hNg hva n2 n3) hco (h H1 eN T1)
    exact ⟨td, hp.nox, hq⟩
  refine wpAny_call (codeAny_mono runs fun r s2 z => ?_)
  match r, z with
  | .error e, z => exact (show False from z).elim
  | .ok (.ret _), z => exact J.after z
  | .ok .next, z => exact z.elim
  | .ok .brk, z => exact z.elim
  | .ok .cont, z => exact z.elim
end
end FW

set_option maxRecDepth 100000
set_option maxHeartbeats 4000000
/-! fair weather: isinstance of rows of classes, repr of rows with nothing in them, comprehensions over ranges, draws in them -/
namespace FW
open PySem L2 PyProof.Rows
/-! ### isinstance(e, (c1, ..)) -/
/-- e an exception that is kept -/
def rIsXT (K : PySem.W.Frag) : List V → Hp → VK → Prop := fun xs H Q => ∃ (a tp D : Addr) (d : Option Addr) (cs : List V) (us : List Value) (b : Bool), xs = [.ref a, .ref tp] ∧ H tp = some (.tup cs) ∧ Paired ClsV cs us ∧ H a = some (ExT a (.ref D) d) ∧ ExcC K D ∧
  (d = none ∨ ∃ (dd : Addr) (fs : List (Str × V)), d = some dd ∧ H dd = some (.xd fs)) ∧ PySem.W.kitAny K (.ref D) us = some b ∧ Q (.bl b) H
theorem call_isXT {X : Cx} : CallR X (.builtin "isinstance") (rIsXT X.K) := by
  intro pins s σ H xs us Q I r h
  obtain ⟨a, tp, D, d, cs, ws, b, rfl, hT, pc, e, C, hd, q1, q⟩ := h
  obtain ⟨u1, u2, rfl, r1, r2⟩ := vals2 r
  cases (show u1 = Value.ref a from r1)
  cases (show u2 = Value.ref tp from r2)
  obtain ⟨ox, od, J⟩ := inst_of I e hd
  obtain ⟨_, its, rv, ob, k1, k2, n, k3⟩ := (show ObjOk X.prog X.w H s.heap tp (.tup cs) from I.hok tp _ hT)
  obtain rfl := ClsV.all pc rv
  obtain ⟨oc, odd, dt, sl⟩ := ob
  simp only at k2 k3
  subst k2 k3
  exact PySem.W.kia_tup (PySem.W.fw_kitx C) I.kIn J k1 q1 (fun z => nomatch z) fun tk => ⟨.bl b, H, I.tok tk, rfl, q⟩
def rIsAT (K : PySem.W.Frag) : List V → Hp → VK → Prop := fun xs H Q => rIsiT K xs H Q ∨ rIsXT K xs H Q
theorem call_isAT {X : Cx} : CallR X (.builtin "isinstance") (rIsAT X.K) := by
  intro pins s σ H xs us Q I r h
  rcases h with h | h
  · exact call_isiT pins s σ H xs us Q I r h
  · exact call_isXT pins s σ H xs us Q I r h
/-! ### repr where there may be nothing -/
def rShowA (K : PySem.W.Frag) : List V → Hp → VK → Prop := fun xs H Q => rShow K xs H Q ∨ (xs = [.non] ∧ Q (.str "None") H) ∨ ∃ b, xs = [.bl b] ∧ Q (.str (if b = true then "True" else "False")) H
theorem call_showA {X : Cx} (hg : X.A.guards = some []) (hu : X.A.units + 64 < cLine) : CallR X (.builtin "repr") (rShowA X.K) := by
  intro pins s σ H xs us Q I r h
  rcases h with h | ⟨rfl, q⟩ | ⟨b, rfl, q⟩
  · exact call_show hg hu pins s σ H xs us Q I r h
  · obtain ⟨u, rfl, e⟩ := vals1 r
    obtain rfl : u = Value.none := e
    exact PySem.P.repr_of_none ⟨.str _, H, I.tok _, ⟨_, rfl⟩, q⟩
  · obtain ⟨u, rfl, e⟩ := vals1 r
    obtain rfl : u = Value.bool b := e
    refine PySem.P.repr_of_bool ⟨.str _, H, I.tok _, ⟨_, rfl⟩, ?_⟩
    cases b <;> exact q
def vo : Option Int → V
  | none => .non
  | some n => .int n
def po : Option Int → PyData
  | none => .none
  | some n => .int n
theorem dpAll_os (K : PySem.W.Frag) (H : Hp) : ∀ os : List (Option Int), DpAll K H (os.map vo) (os.map po)
  | [] => .nil
  | none :: os => .cons .non (dpAll_os K H os)
  | some n :: os => .cons (.int n) (dpAll_os K H os)
theorem os_depth : ∀ os : List (Option Int), PyData.depthAll (os.map po) = 0
  | [] => rfl
  | none :: os => by simp only [List.map, po, PyData.depthAll, PyData.depth, os_depth os, Nat.max_self]
  | some n :: os => by simp only [List.map, po, PyData.depthAll, PyData.depth, os_depth os, Nat.max_self]
theorem os_noDict : ∀ os : List (Option Int), PyData.hasDictAll (os.map po) = false
  | [] => rfl
  | none :: os => by show (PyData.hasDict .none || PyData.hasDictAll (os.map po)) = false; rw [os_noDict os]; rfl
  | some n :: os => by show (PyData.hasDict (.int n) || PyData.hasDictAll (os.map po)) = false; rw [os_noDict os]; rfl
/-- small ones -/
def SmO (o : Option Int) : Prop := ∀ n, o = some n → n.natAbs.log2 < 1920
theorem os_show : ∀ os : List (Option Int), (∀ o ∈ os, SmO o) → PyData.showableAll (os.map po) = true
  | [], _ => rfl
  | none :: os, h => by
    show (PyData.showable .none && PyData.showableAll (os.map po)) = true
    rw [os_show os fun m hm => h m (List.mem_cons_of_mem _ hm), Bool.and_true]; rfl
  | some n :: os, h => by
    show (PyData.showable (.int n) && PyData.showableAll (os.map po)) = true
    rw [os_show os fun m hm => h m (List.mem_cons_of_mem _ hm), Bool.and_true]
    exact decide_eq_true (h _ (List.mem_cons_self ..) n rfl)
theorem os_shownAll : ∀ os : List (Option Int), PyData.shownAll (os.map po) = os.map fun o => PyData.shown (po o)
  | [] => rfl
  | o :: os => by show _ :: PyData.shownAll (os.map po) = _; rw [os_shownAll os]; rfl
theorem os_text {o : Option Int} (h : SmO o) : (PyData.shown (po o)).length ≤ 1921 := by
  cases o with
  | none => decide
  | some n => exact int_text_len_1921 (h n rfl)
theorem os_shown {os : List (Option Int)} (h : ∀ o ∈ os, SmO o) (hl : os.length ≤ 1000) : (PyData.shown (.list (os.map po))).length ≤ sizeLine := by
  show (listText (PyData.shownAll (os.map po))).length ≤ _
  rw [os_shownAll, sizeLine_eq]
  unfold listText
  rw [Str.length_append]
  have z := text_le 1921 (os.map fun o => PyData.shown (po o)) 0 "[" (fun t ht => by
    obtain ⟨o, ho, rfl⟩ := List.mem_map.mp ht
    exact os_text (h o ho))
  rw [List.length_map] at z
  have a1 : (("[" : String) : Str).length = 1 := by decide
  have a2 : (("]" : String) : Str).length = 1 := by decide
  rw [a1] at z
  rw [a2]
  omega
theorem w_showO {K : PySem.W.Frag} {a : Addr} {os : List (Option Int)} {H : Hp} {Q : VK} (sq : SqL K H a (os.map vo)) (h : ∀ o ∈ os, SmO o) (hl : os.length ≤ 1000) (q : Q (.str (PyData.shown (.list (os.map po)))) H) : rShow K [.ref a] H Q :=
  .inr ⟨a, .list (os.map po), rfl, .lst sq (dpAll_os K H os), os_show os h, os_noDict os, by have := os_depth os; simp only [PyData.depth]; omega, os_shown h hl, q⟩
theorem w_showo {K : PySem.W.Frag} {o : Option Int} {H : Hp} {Q : VK} (h : SmO o) (q : Q (.str (PyData.shown (po o))) H) : rShowA K [vo o] H Q := by
  cases o with
  | none => exact .inr (.inl ⟨rfl, q⟩)
  | some n => exact .inl (.inl ⟨n, rfl, h n rfl, q⟩)
/-! ### comprehensions over a range -/
section
variable {te : TE} {i : Nat} {σ : L2.St} {H1 : Hp}
/-- a turn: of the number j the j-th value is made -/
def TurnsR (te : TE) (i : Nat) (σ : L2.St) (H1 : Hp) (n : Nat) (ys : List V) : Prop := ∀ (j : Nat) (y : V) (H' : Hp) (R : VK), j < n → ys[j]? = some y → Grow H1 H' → (∀ H2, Grow H' H2 → R y H2) → te ((wipe σ [i]).set i (some (.int (0 + (j : Int))))) H' R
theorem lcR {Qd : Addr → Hp → Prop} {n : Nat} {ys : List V} (hw : ∀ x, wipe ((wipe σ [i]).set i (some x)) [i] = wipe σ [i]) (hl : ys.length = n) (hs : n < sizeLine) (turn : TurnsR te i σ H1 n ys)
    (done : ∀ D H', H1 D = none → H' D = some (.lst ys) → Grow H1 H' → Qd D H') (D : Addr) (nD : H1 D = none) :
    ∃ W : Nat → Nat → Hp → Prop, (∃ m, W 0 m (upd H1 D (.lst []))) ∧ ∀ j m H, W j m H →
      ((Itr 0 n).stop j H ∧ Qd D H) ∨ ((Itr 0 n).go j H ∧ ∃ Nx : Hp → Prop, (∀ H', Nx H' → ∃ m', m' < m ∧ W (j + 1) m' H') ∧ ∀ x H', (Itr 0 n).yld j H x H' → gName i x (wipe σ [i]) H' fun σ2 H2 => wipe σ2 [i] = wipe σ [i] ∧ tYes σ2 H2 fun b H3 =>
        if b = true then te σ2 H3 fun y H4 => ∃ acc, H4 D = some (.lst acc) ∧ acc.length < sizeLine ∧ Nx (upd H4 D (.lst (acc ++ [y]))) else Nx H3) := by
  refine lc_range (lo := 0) (n := n) (fun j H' => H' D = some (.lst (ys.take j)) ∧ Grow H1 H') ⟨upd_same, Grow.new nD⟩ (fun j H' hj p => ?_) (fun H' p => done D H' nD (by rw [← hl, List.take_length] at p; exact p.1) p.2)
  refine ⟨hw _, ?_⟩
  unfold tYes
  refine w_yes ?_
  have hj' : j < ys.length := by rw [hl]; exact hj
  refine turn j ys[j] H' _ hj (by simp [hj']) p.2 fun H2 g => ⟨ys.take j, g _ _ p.1, by rw [List.length_take]; omega, ?_, fun b o e => ?_⟩
  · rw [upd_same, List.take_succ_eq_append_getElem hj']
  · rw [upd_ne (ne_of_none e nD)]; exact g _ _ (p.2 _ _ e)
end
/-! ### draws, the place of the cells being told -/
def spDropL (K : PySem.W.Frag) : Sp := fun vs H Q _ => ∃ (c l : Addr) (n : Nat) (cells : List Int) (rest many : Int), vs = [.ref c, .int many] ∧ H c = some (.lst [.ref l, .int n, .int rest]) ∧ SqL K H l (cells.map V.int) ∧ l ≠ c ∧ n < 1000000 ∧ 0 < many ∧ many < 1073741824 ∧
  ∀ (r rest' : Int) (n' : Nat) (H' : Hp), 0 ≤ r → r < many → n' ≤ n + 1 → H' c = some (.lst [.ref l, .int n', .int rest']) → Ext c H H' → Q (.int r) H'
theorem dropL {K : PySem.W.Frag} (vs : List V) (H : Hp) (Q : VK) (E : XK) (h : spDrop K vs H Q E) : spDropL K vs H Q E := by
  obtain ⟨c, n, many, rfl, ⟨l, cells, rest, h1, h2, h3⟩, hn, m0, m1, k⟩ := h
  exact ⟨c, l, n, cells, rest, many, rfl, h1, h2, h3, hn, m0, m1, fun r rest' n' H' r0 r1 hn' hc he => k r n' H' r0 r1 hn' ⟨l, cells, rest', hc, he.sqL h3 h2, h3⟩ he⟩
/-- [draw(many) for _ in range(n)] -/
theorem lcDraw {K : PySem.W.Frag} {te : TE} {i : Nat} {σ : L2.St} {H1 : Hp} {Qd : Addr → Hp → Prop} {n n0 : Nat} {c : Addr} {many : Int} {E : XK} (hw : ∀ x, wipe ((wipe σ [i]).set i (some x)) [i] = wipe σ [i]) (hs : n < 100000) (hn0 : n0 < 850000) (m0 : 0 < many) (m1 : many < 1073741824)
    (hte : ∀ (x : V) (H : Hp) (R : VK), spDropL K [.ref c, .int many] H R E → te ((wipe σ [i]).set i (some x)) H R) (hc : Cloud K H1 c n0)
    (done : ∀ D H' (ns : List Int) (m : Nat), H1 D = none → H' D = some (.lst (ns.map V.int)) → ns.length = n → (∀ z ∈ ns, 0 ≤ z ∧ z < many) → Cloud K H' c m → m ≤ n0 + n → Ext c H1 H' → Qd D H') (D : Addr) (nD : H1 D = none) :
    ∃ W : Nat → Nat → Hp → Prop, (∃ m, W 0 m (upd H1 D (.lst []))) ∧ ∀ j m H, W j m H →
      ((Itr 0 n).stop j H ∧ Qd D H) ∨ ((Itr 0 n).go j H ∧ ∃ Nx : Hp → Prop, (∀ H', Nx H' → ∃ m', m' < m ∧ W (j + 1) m' H') ∧ ∀ x H', (Itr 0 n).yld j H x H' → gName i x (wipe σ [i]) H' fun σ2 H2 => wipe σ2 [i] = wipe σ [i] ∧ tYes σ2 H2 fun b H3 =>
        if b = true then te σ2 H3 fun y H4 => ∃ acc, H4 D = some (.lst acc) ∧ acc.length < sizeLine ∧ Nx (upd H4 D (.lst (acc ++ [y]))) else Nx H3) := by
  obtain ⟨l, cells, rest, h1, h2, h3⟩ := hc
  have cD : D ≠ c := Ne.symm (ne_of_none h1 nD)
  refine lc_range (lo := 0) (n := n) (fun j H' => ∃ (ns : List Int) (m : Nat) (r : Int), H' D = some (.lst (ns.map V.int)) ∧ ns.length = j ∧ (∀ z ∈ ns, 0 ≤ z ∧ z < many) ∧ H' c = some (.lst [.ref l, .int m, .int r]) ∧ m ≤ n0 + j ∧ Ext c H1 H')
    ⟨[], n0, rest, upd_same, rfl, (fun z hz => nomatch hz), (by rw [upd_ne (Ne.symm cD)]; exact h1), by omega, Ext.new nD⟩ (fun j H' hj p => ?_) (fun H' p => ?_)
  · obtain ⟨ns, m, r, p1, p2, p3, p4, p5, p6⟩ := p
    refine ⟨hw _, ?_⟩
    unfold tYes
    refine w_yes (hte _ H' _ ⟨c, l, m, cells, r, many, rfl, p4, p6.sqL h3 h2, h3, by omega, m0, m1, fun z r' m' H4 z0 z1 hm' hc' he' => ?_⟩)
    refine ⟨ns.map V.int, he' _ _ cD p1, by rw [List.length_map, sizeLine_eq]; omega, ns ++ [z], m', r', ?_, ?_, ?_, ?_, by omega, ?_⟩
    · rw [upd_same, List.map_append]; rfl
    · rw [List.length_append]; simp [p2]
    · intro y hy
      rcases List.mem_append.mp hy with hy | hy
      · exact p3 y hy
      · rw [List.mem_singleton.mp hy]; exact ⟨z0, z1⟩
    · rw [upd_ne (Ne.symm cD)]; exact hc'
    · intro b o nb e
      rw [upd_ne (ne_of_none e nD)]
      exact he' _ _ nb (p6 _ _ nb e)
  · obtain ⟨ns, m, r, p1, p2, p3, p4, p5, p6⟩ := p
    exact done D H' ns m nD p1 p2 p3 ⟨l, cells, r, p4, p6.sqL h3 h2, h3⟩ p5 p6
end FW

set_option maxRecDepth 100000
set_option maxHeartbeats 4000000
/-! fair weather: own classes -/
namespace FW
open PySem L2 PyProof.Rows
/-- a method of the text, under its class -/
structure MethOk (K : PySem.W.Frag) (C : Addr) (m qual : Str) (st : Stmt) (ps : List Str) : Prop where
  ex : ∃ (f : Addr) (fd : FuncData), Meth K C m f ∧ Fun K m qual st f fd ∧ Binds K fd ps []
structure CanM (P : Program) (w : World) (K : PySem.W.Frag) (mg : Str → Option Value) (base : Heap) (CX : CXT) (k : Nat) (C : Addr) (m : Str) (ps : List Str) (sp : Sp) : Prop where
  ex : ∃ (f : Addr) (fd : FuncData), Meth K C m f ∧ FnOk P w K mg base CX k f fd ps sp ∧ Binds K fd ps []
structure CanMW (P : Program) (w : World) (K : PySem.W.Frag) (mg : Str → Option Value) (base : Heap) (CX : CXT) (k : Nat) (C : Addr) (m : Str) (ks : List Str) (gV : List V → List V → List V) (sp : Sp) : Prop where
  ex : ∃ (f : Addr) (fd : FuncData) (ps : List Str) (g : List Value → List Value → List Value), Meth K C m f ∧ FnOk P w K mg base CX k f fd ps sp ∧ KBn K fd ps 1 ks g gV
section
variable {P : Program} {w : World} {K : PySem.W.Frag} {mg : Str → Option Value} {base : Heap} {CX : CXT} {k : Nat} {C : Addr} {m qual : Str} {st : Stmt} {ps : List Str} {sp : Sp}
theorem MethOk.can (d : MethOk K C m qual st ps) (h : ∀ f fd, Fun K m qual st f fd → FnOk P w K mg base CX k f fd ps sp) : CanM P w K mg base CX k C m ps sp := by
  obtain ⟨f, fd, M, F, b⟩ := d.ex
  exact ⟨f, fd, M, h f fd F, b⟩
/-- by one keyword -/
theorem MethOk.canW {y : Str} (d : MethOk K C m qual st ["self", y]) (h : ∀ f fd, Fun K m qual st f fd → FnOk P w K mg base CX k f fd ["self", y] sp)
    (bind : ∀ (kV doc pm : Value) (an : Option Addr) (cdv ct a b : Value), bindArgs (PySem.W.fnOf m qual (defArgs st) (defBody st) (defScope st) .none kV doc pm an cdv ct) ⟨[a], [(y, b)]⟩ = pure ([(("self" : Str), a), (y, b)] : List (Str × Value))) :
    CanMW P w K mg base CX k C m [y] (fun vs zs => vs ++ zs) sp := by
  obtain ⟨f, fd, M, F, _⟩ := d.ex
  have G := h f fd F
  obtain ⟨oc, od, kV, doc, pm, an, cdv, ct, osl, rfl, lk, hcd⟩ := F.ex
  refine ⟨f, _, ["self", y], fun us ws => us ++ ws, M, G, ⟨fun s us ws _ l1 l2 => ?_, fun r z => r.append z⟩⟩
  match us, ws, l1, l2 with
  | [a], [b], _, _ => exact .of_eq (bind kV doc pm an cdv ct a b)
end
section
variable {X : Cx} {CX : CXT} {k j : Nat} {C : Addr} {m : Str} {ps ks : List Str} {sp : Sp} {gV : List V → List V → List V} {E : XK} {o e : Expr} {es : List Expr} {kws : List Keyword} {apos pos : Pos} {to : TE} {ta tk : TA}
theorem pe_methC {pl : Sem Bool} (cl : Cls X.K C) (c : CanM X.prog X.w X.K X.mg X.base CX k C m ps sp) (hr : Room j X.A) (hk : k ≤ j) (hx : Passes CX X E) (ho : PE X o to) (ha : PA X (e :: es) ta)
    (hst : starEach (e :: es) X.env = (false, eval e X.env) :: starEach es X.env := by rfl) (hpl : (backTo pos (starEach es X.env)).any (·.1) = false := by rfl)
    (ht : eval (.Call (.Attribute o m apos) (e :: es) [] pos) X.env = (do let ov ← eval o X.env; standAt apos.atName; let (f, first) ← holding [ov] (getMethod ov m pl); callWith pos f first (backTo pos (starEach (e :: es) X.env)) (backToKw pos (keywordEach [] X.env))) := by rfl) :
    PE X (.Call (.Attribute o m apos) (e :: es) [] pos) (tMeth C m sp [] E to ta) := by
  obtain ⟨f, fd, M, F, b⟩ := c.ex
  exact pe_meth (pl := pl) ho cl M F (hr.mono hk) b .nil hx ha hst hpl ht
def tMethW (C : Addr) (m : Str) (n : Nat) (sp : Sp) (gV : List V → List V → List V) (E : XK) (to : TE) (tk : TA) : TE := fun σ H Q => to σ H fun x H1 => ∃ a dx fs, x = .ref a ∧ H1 a = some (.ins C dx fs) ∧ fs.lookup m = none ∧ tk σ H1 fun zs H2 => zs.length = n ∧ sp (gV [.ref a] zs) H2 Q E
/-- o.m(k=e) -/
theorem pe_methW {pl : Sem Bool} (cl : Cls X.K C) (c : CanMW X.prog X.w X.K X.mg X.base CX k C m ks gV sp) (hr : Room j X.A) (hk : k ≤ j) (hx : Passes CX X E) (ho : PE X o to) (ha : PK X kws tk)
    (hall : (backToKw pos (keywordEach kws X.env)).all (·.1.isSome) = true := by rfl) (hks : (backToKw pos (keywordEach kws X.env)).filterMap (·.1) = ks := by rfl)
    (hpl : ((backTo pos (starEach [] X.env)).any (·.1) || (backToKw pos (keywordEach kws X.env)).any (·.1.isNone)) = false := by rfl)
    (ht : eval (.Call (.Attribute o m apos) [] kws pos) X.env = (do let ov ← eval o X.env; standAt apos.atName; let (f, first) ← holding [ov] (getMethod ov m pl); callWith pos f first (backTo pos (starEach [] X.env)) (backToKw pos (keywordEach kws X.env))) := by rfl) :
    PE X (.Call (.Attribute o m apos) [] kws pos) (tMethW C m ks.length sp gV E to tk) := by
  obtain ⟨f, fd, ps, g, M, F, b⟩ := c.ex
  refine ⟨fun pins s σ H Q I h => ?_⟩
  refine PySem.W.methodCall_KW (pl := pl) (thn (ho.run pins s σ H _ I h) fun u s1 ⟨x, H1, I1, rx, a, dx, fs, ex, ea, l, q⟩ => ?_) ht
  subst ex
  obtain rfl : u = Value.ref a := rx
  refine getmeth_ok I1 ea cl M l ?_
  refine PySem.W.callWith_KW0 (first := [.ref a]) (h₀ := X.base) I.ok.mod.kin M.kp hall (thn (ha.run pos pins s1 σ H1 _ I1 q) fun ws s2 y => ?_) hpl
  obtain ⟨zs, H2, J, rz, l2, q2⟩ := y
  refine ⟨J.kIn, ?_⟩
  rw [hks]
  exact run_fnN (us := [.ref a]) (vs := [.ref a]) F (hr.mono hk) b hx J (.cons rfl .nil) rz rfl l2 q2
end
section
variable {K : PySem.W.Frag} {σ : L2.St} {H : Hp} {Q : VK} {D : Ends} {a C dx : Addr} {fs : List (Str × V)} {f m : Str} {v : V} {to tv : TE} {ta tk : TA} {sp : Sp} {E : XK} {i : Nat}
/-! ### readings -/
theorem w_fld (e : H a = some (.ins C dx fs)) (c : Cls K C) (n : NoAttr K C f) (l : fs.lookup f = some v) (hv : σ[i]? = some (some (.ref a))) (q : Q v H) : tFld K (tVar i) f σ H Q := ⟨.ref a, hv, a, C, dx, fs, v, rfl, e, c, n, l, q⟩
theorem w_setF (c : Cls K C) (n : NoAttr K C f) (hv : σ[i]? = some (some (.ref a))) (h : tv σ H fun y H1 => ∃ dx fs, H1 a = some (.ins C dx fs) ∧ fs.length < 1000 ∧ D.nx σ (upd H1 a (.ins C dx (putF f y fs)))) (mono : ∀ {R R' : VK}, (∀ x H', R x H' → R' x H') → tv σ H R → tv σ H R') : sFld K (tVar i) tv f D σ H :=
  mono (fun y H1 ⟨dx, fs, e, l, q⟩ => ⟨.ref a, hv, a, C, dx, fs, rfl, e, c, n, l, q⟩) h
end
end FW

set_option maxRecDepth 100000
set_option maxHeartbeats 4000000
/-! fair weather: «except c as n: y = e» ahead of other handlers -/
namespace FW
open PySem L2 PyProof.Rows
/-- what is wished of an exception by «except c as n: y = e», e told by te: it is kept; slot i is n's, slot j is y's -/
def wKeepE (K : PySem.W.Frag) (c : Value) (n i j : Nat) (te : TE) (D : Ends) : WX := fun cls d σ H => PySem.W.exmOne K cls c = some true ∧ ∀ a, H a = none → σ.length = n → te (σ.set i (some (.ref a))) (upd H a (ExT a cls d)) fun v H' => D.nx (((σ.set i (some (.ref a))).set j (some v)).set i none) H'
section
variable {X : Cx} {x n y : Str} {c : Value} {i j : Nat} {body : List Stmt} {np py pn' pa pos pos' : Pos} {tb : WX → TS}
theorem ps_try_keepE {ev : Expr} {te : TE} {hds : List ExceptHandler} (hs : X.stack = X.env :: X.outer) (hf : X.env.frame = some X.env.locals) (hN : X.N.Nodup) (hi : X.N[i]? = some n) (hln : X.env.kindOf n = some .local) (hj : X.N[j]? = some y) (hly : X.env.kindOf y = some .local) (hij : i ≠ j) (hc : Names X x c)
    (hb : ∀ (W : WX) (pn : List (Addr × Obj)) (xe : Value → Shared → Prop), Takes (X.tr pn xe) W → PassesOwn (model X.prog X.w) X.A X.env xe → PSs (X.tr pn xe) body (tb W))
    (hev : ∀ (a : Addr) (pn : List (Addr × Obj)), PE (X.suite a pn) ev te) (hsw : swapsWith ev (some (.Name y py)) pa.line X.env = pure false := by rfl) :
    PS X (.Try body (.ExceptHandler (some (.Name x np)) (some n) [.Assign [.Name y py] ev pa] pos' :: hds) [] [] pos) (fun D σ H => i < σ.length ∧ tb (wKeepE X.K c X.N.length i j te D) D σ H) := by
  refine ⟨fun pins s σ H D I h => ?_⟩
  obtain ⟨hlen, h⟩ := h
  have ok := I.ok
  have hfr : X.A.frames = some (X.env :: X.outer) := by rw [ok.frames, hs]
  refine wpAny_Try_except ?_
  refine wpAny_mono ((hb (wKeepE X.K c X.N.length i j te D) (X.pn ++ pins) _ (fun u s1 xx => ?c1) PassesOwn.looking).run [] s σ H D (I.toTry _) h) (fun f s1 hsp => ?flow) (fun e s1 he => he)
  case flow =>
    cases f with
    | next => obtain ⟨σ1, H1, J, q⟩ := hsp; exact wpAny_execs_nil ⟨σ1, H1, J.ofTry ok, q⟩
    | brk => obtain ⟨σ1, H1, J, q⟩ := hsp; exact ⟨σ1, H1, J.ofTry ok, q⟩
    | cont => obtain ⟨σ1, H1, J, q⟩ := hsp; exact ⟨σ1, H1, J.ofTry ok, q⟩
    | ret u => obtain ⟨v, σ1, H1, J, r, q⟩ := hsp; exact ⟨v, σ1, H1, J.ofTry ok, r, q⟩
  case c1 =>
    obtain ⟨a, B, sI, pins1, σ1, H1, cls, d, rfl, J1, nb, up, sky, na, os, ag, hm, hyes⟩ := xx
    have J : Inv X pins σ1 H1 sI := J1.ofTry ok
    have sky1 : Sky B (X.env :: X.outer) a (Zc cls d) X.env.locals s1.heap := by rw [← hs]; exact sky
    show wpAny (model X.prog X.w) X.A (noteFrame (.ref a) X.env) _ _ _
    refine Sky.land Zc.steady hfr hf sky1 fun h3 fl3 up3 => ?_
    obtain ⟨oe3, vs3, he3, hz3, hd3⟩ := fl3.there
    have notFr : a ∉ frs X.stack := fun hmem => by
      rw [hs] at hmem
      obtain ⟨_, o', e', hnf⟩ := fl3.2.2.1.mem hmem
      rw [he3] at e'; cases e'
      exact hnf _ hd3
    have J3 : Inv X pins σ1 (upd H1 a (ExT a cls d)) { s1 with heap := h3 } := landT J nb fl3.2.1 na notFr fl3.1 (up.trans up3) os ag he3 hz3 hd3
    have S3 : Inv (X.suite a (X.pn ++ pins)) [] σ1 (upd H1 a (ExT a cls d)) { s1 with heap := h3 } := toSuite J3
    refine wpAny_handleBy_cons (codeAny_handlers_test ?_) (by intro q; cases q)
    have lt : PySem.W.Looks (model X.prog X.w) h3 (typeOf (.ref a)) cls := fun A Q E s k q => wpAny_typeOf_ref (k _ _ he3) (by rw [hz3.1]; exact q)
    have lm := PySem.W.exm_one (M := model X.prog X.w) J3.kIn lt hm
    have test : ∀ {Q : Value → Shared → Prop} {E : Value → Shared → Prop}, Q c { s1 with heap := h3 } → wpAny (model X.prog X.w) (X.A.mark (some (.ref a))) (eval (.Name x np) X.env) Q E { s1 with heap := h3 } := fun {Q E} q => by
      obtain ⟨g1, g2, g3 | ⟨g3, g4, g5⟩⟩ := hc
      · exact ld_glob (X := X.suite a (X.pn ++ pins)) S3 g1 g3 q g2
      · exact ld_blt (X := X.suite a (X.pn ++ pins)) S3 g1 g3 g4 q g5 g2
    refine test (lm.here ?_)
    refine codeAny_handlers_suite_as (HandSPX.lands_againZ fl3 fun h4 fl4 up4 => ?_)
    obtain ⟨oe4, vs4, he4, hz4, hd4⟩ := fl4.there
    have J4 : Inv X pins σ1 (upd H1 a (ExT a cls d)) { s1 with heap := h4 } := landT J nb fl4.2.1 na notFr fl4.1 ((up.trans up3).trans up4) os ag he4 hz4 hd4
    refine store_ok (X := X.suite a (X.pn ++ pins)) (v := .ref a) (toSuite J4) hN hi (.inl hln) rfl (fun s5 S5 => ?_) (.inr hln)
    have suite : PSs (X.suite a (X.pn ++ pins)) [.Assign [.Name y py] ev pa] (tAsg te (gName j)) :=
      pss_one (ps_set hN hj (.inl hly) (hev a _) hsw (.inr hly))
    refine wpAny_mono (suite.run [] s5 _ _ { nx := fun σ6 H6 => D.nx (σ6.set i none) H6, rt := fun _ _ => False } S5 ?_) (fun f s6 hsp => ?_) (fun _ _ z => z.elim)
    · exact hyes a na J.len
    · cases f with
      | next =>
        obtain ⟨σ6, H6, S6, q6⟩ := hsp
        exact gone_ok (ofSuite S6 ok) hN hi hln fun s7 J7 => ⟨_, _, J7, q6⟩
      | brk => obtain ⟨σ6, H6, S6, q6⟩ := hsp; exact q6.elim
      | cont => obtain ⟨σ6, H6, S6, q6⟩ := hsp; exact q6.elim
      | ret u => obtain ⟨v6, σ6, H6, S6, r6, q6⟩ := hsp; exact q6.elim
end

end FW

set_option maxRecDepth 100000
set_option maxHeartbeats 4000000
/-! fair weather: how long what repr shows of tuples is; what stays but for one object -/
namespace FW
open PySem L2 PyProof.Rows
theorem piled_le (b : Nat) : ∀ ts : List Str, (∀ t ∈ ts, t.length ≤ b) → piled ts ≤ (b + 2) * ts.length
  | [], _ => by simp [piled]
  | t :: r, h => by
    have ih := piled_le b r fun x hx => h x (List.mem_cons_of_mem _ hx)
    have ht := h t (List.mem_cons_self ..)
    have hp : piled (t :: r) = t.length + 2 + piled r := by unfold piled; rw [List.map_cons, List.sum_cons]
    rw [hp, List.length_cons, Nat.mul_add]
    omega
theorem tuple_le {b : Nat} {ts : List Str} (h : ∀ t ∈ ts, t.length ≤ b) : (tupleText ts).length ≤ (b + 2) * ts.length + 4 := by
  have p := piled_le b ts h
  have z : (Str.join ", " ts).length ≤ piled ts := by
    cases ts with
    | nil => simp [Str.join, piled]; decide
    | cons t r => have := join_length_add (t :: r) (by simp); omega
  unfold tupleText
  rw [Str.length_append, Str.length_append]
  have a1 : (("(" : Str)).length = 1 := by decide
  have a2 : ((if ts.length == 1 then ",)" else ")" : String) : Str).length ≤ 2 := by split <;> decide
  rw [a1]
  omega
/-- tables of code objects stay where another object is changed -/
theorem tabs_extAt {T : List (Addr × Str)} {H H' : Hp} {x : Addr} {o : HO} (t : LamX.Tabs T H) (hx : H x = some o) (n1 : ∀ ps, o ≠ .tbl ps) (n2 : ∀ φ, o ≠ .ext φ) (e : Ext x H H') : LamX.Tabs T H' := by
  intro p hp
  obtain ⟨ps, t1, t2, t3⟩ := t p hp
  refine ⟨ps, e _ _ (fun z => n1 ps (by rw [z, hx] at t1; exact Option.some.inj t1)) t1, t2, fun pos cv hcv => ?_⟩
  obtain ⟨d, e1, e2⟩ := t3 pos cv hcv
  refine ⟨d, e1, e _ _ (fun z => ?_) e2⟩
  rw [z, hx] at e2
  exact n2 _ (Option.some.inj e2)
/-! ### what a law draws from, seen from a heap at its beginning -/
structure Pen (H0 : Hp) (c l : Addr) (n : Nat) (H : Hp) : Prop where
  cl : ∃ rest : Int, H c = some (.lst [.ref l, .int n, .int rest])
  ex : Ext c H0 H
structure Ink (K : PySem.W.Frag) (H0 : Hp) (c l : Addr) (cells : List Int) : Prop where
  sq : SqL K H0 l (cells.map V.int)
  ne : l ≠ c
  at_ : ∃ o, H0 c = some o
  nt : ∀ b ps, H0 b ≠ some (.tbl ps)
theorem Pen.grow {H0 H H' : Hp} {c l : Addr} {n : Nat} (p : Pen H0 c l n H) (g : Grow H H') : Pen H0 c l n H' := by
  obtain ⟨⟨r, h⟩, e⟩ := p
  exact ⟨⟨r, g _ _ h⟩, fun b o nb q => g _ _ (e b o nb q)⟩
theorem Pen.extN {H0 H H' : Hp} {c l : Addr} {n : Nat} (p : Pen H0 c l n H) (g : LamX.ExtN H H') (t : ∀ b ps, H0 b ≠ some (.tbl ps)) : Pen H0 c l n H' := by
  obtain ⟨⟨r, h⟩, e⟩ := p
  exact ⟨⟨r, g _ _ h nofun⟩, fun b o nb q => g _ _ (e b o nb q) (fun ps z => t b ps (by rw [q, z]))⟩
theorem Pen.at_new {H0 H H' : Hp} {c l x : Addr} {n : Nat} (p : Pen H0 c l n H) (hx : H0 x = none) (xc : c ≠ x) (g : Ext x H H') : Pen H0 c l n H' := by
  obtain ⟨⟨r, h⟩, e⟩ := p
  exact ⟨⟨r, g _ _ xc h⟩, fun b o nb q => g _ _ (ne_of_none q hx) (e b o nb q)⟩
theorem Pen.draw {H0 H H' : Hp} {c l : Addr} {n n' : Nat} {rest : Int} (p : Pen H0 c l n H) (h : H' c = some (.lst [.ref l, .int n', .int rest])) (g : Ext c H H') : Pen H0 c l n' H' := ⟨⟨rest, h⟩, p.ex.trans g⟩
theorem Pen.sq {K : PySem.W.Frag} {H0 H : Hp} {c l : Addr} {n : Nat} {cells : List Int} (p : Pen H0 c l n H) (i : Ink K H0 c l cells) : SqL K H l (cells.map V.int) := p.ex.sqL i.ne i.sq
theorem Pen.cloud {K : PySem.W.Frag} {H0 H : Hp} {c l : Addr} {n : Nat} {cells : List Int} (p : Pen H0 c l n H) (i : Ink K H0 c l cells) : Cloud K H c n := by
  obtain ⟨r, h⟩ := p.cl
  exact ⟨l, cells, r, h, p.sq i, i.ne⟩
theorem Pen.ne {H0 H : Hp} {c l x : Addr} {n : Nat} (p : Pen H0 c l n H) (hx : H x = none) : x ≠ c := by
  obtain ⟨r, h⟩ := p.cl
  exact Ne.symm (ne_of_none h hx)
theorem Ink.ne' {K : PySem.W.Frag} {H0 : Hp} {c l x : Addr} {cells : List Int} (i : Ink K H0 c l cells) (hx : H0 x = none) : c ≠ x := by
  obtain ⟨o, h⟩ := i.at_
  exact ne_of_none h hx
/-- a place that is free later was free at first -/
theorem Pen.free {K : PySem.W.Frag} {H0 H : Hp} {c l x : Addr} {n : Nat} {cells : List Int} (p : Pen H0 c l n H) (i : Ink K H0 c l cells) (hx : H x = none) : H0 x = none := by
  match z : H0 x with
  | none => rfl
  | some o => rw [p.ex x o (p.ne hx) z] at hx; cases hx
theorem pen_of {K : PySem.W.Frag} {H : Hp} {c : Addr} {n : Nat} (h : Cloud K H c n) : ∃ H0 l cells, Ink K H0 c l cells ∧ Pen H0 c l n H := by
  obtain ⟨l, cells, rest, h1, h2, h3⟩ := h
  have self : ∀ H0 : Hp, H0 c = H c → (∀ b, b ≠ c → H0 b = none ∨ H0 b = H b) → Pen H0 c l n H := fun H0 e1 e2 => ⟨⟨rest, h1⟩, fun b o nb q => by
    rcases e2 b nb with z | z
    · rw [z] at q; cases q
    · rw [← z]; exact q⟩
  rcases h2 with h2 | h2
  · refine ⟨fun b => if b = c then H c else if b = l then H l else none, l, cells, ⟨.inl ?_, h3, ⟨_, by rw [if_pos rfl]; exact h1⟩, fun b ps e => ?_⟩, self _ (if_pos rfl) fun b nb => ?_⟩
    · have e : (if l = c then H c else if l = l then H l else none) = H l := by rw [if_neg h3, if_pos rfl]
      rcases h2 with z | ⟨o, z⟩
      · exact .inl (e.trans z)
      · exact .inr ⟨o, e.trans z⟩
    · by_cases hb : b = c
      · simp only [hb, if_true, h1] at e; cases e
      · by_cases hl : b = l
        · simp only [if_neg hb, hl, if_neg h3, if_true] at e
          rcases h2 with z | ⟨o, z⟩ <;> (rw [z] at e; cases e)
        · simp only [if_neg hb, if_neg hl] at e; cases e
    · simp only [if_neg nb]
      by_cases hl : b = l
      · rw [if_pos hl, hl]; exact .inr rfl
      · rw [if_neg hl]; exact .inl rfl
  · refine ⟨fun b => if b = c then H c else none, l, cells, ⟨.inr h2, h3, ⟨_, by rw [if_pos rfl]; exact h1⟩, fun b ps e => ?_⟩, self _ (if_pos rfl) fun b nb => ?_⟩
    · by_cases hb : b = c
      · simp only [hb, if_true, h1] at e; cases e
      · simp only [if_neg hb] at e; cases e
    · simp only [if_neg nb]; exact .inl trivial
/-- a draw, so seen -/
def spDraw (K : PySem.W.Frag) (H0 : Hp) (c l : Addr) (cells : List Int) : Sp := fun vs H Q _ => ∃ (n : Nat) (many : Int), vs = [.ref c, .int many] ∧ Ink K H0 c l cells ∧ Pen H0 c l n H ∧ n < 1000000 ∧ 0 < many ∧ many < 1073741824 ∧
  ∀ (r : Int) (n' : Nat) (H' : Hp), 0 ≤ r → r < many → n' ≤ n + 1 → Pen H0 c l n' H' → Ext c H H' → Q (.int r) H'
theorem drawL {K : PySem.W.Frag} {H0 : Hp} {c l : Addr} {cells : List Int} (vs : List V) (H : Hp) (Q : VK) (E : XK) (h : spDraw K H0 c l cells vs H Q E) : spDropL K vs H Q E := by
  obtain ⟨n, many, rfl, i, p, hn, m0, m1, k⟩ := h
  obtain ⟨rest, hc⟩ := p.cl
  exact ⟨c, l, n, cells, rest, many, rfl, hc, p.sq i, i.ne, hn, m0, m1, fun r rest' n' H' r0 r1 hn' hc' he => k r n' H' r0 r1 hn' (p.draw hc' he) he⟩
/-- one of some, so seen -/
def spOneL (K : PySem.W.Frag) (H0 : Hp) (c l : Addr) (cells : List Int) : Sp := fun vs H Q _ => ∃ (n : Nat) (p : Addr) (xs : List V), vs = [.ref c, .ref p] ∧ Ink K H0 c l cells ∧ Pen H0 c l n H ∧ n < 999990 ∧ SqL K H p xs ∧ p ≠ c ∧ 0 < xs.length ∧ xs.length < 1000000 ∧
  ∀ (x : V) (n' : Nat) (H' : Hp), x ∈ xs → n' ≤ n + 1 → Pen H0 c l n' H' → Ext c H H' → Q x H'
end FW

set_option maxRecDepth 100000
set_option maxHeartbeats 4000000
/-! fair weather: what stands behind the top, by names -/
namespace FW
open PySem L2 PyProof.Rows
/-- a def of the top, no defaults -/
def dTop (x : Str) (st : Stmt) : He.DefD := ⟨(x, none), x, x, defArgs st, defBody st, defScope st, [], []⟩
/-- a method of a class of the top -/
def dIn (c m : Str) (st : Stmt) : He.DefD := ⟨(c, some m), m, c ++ "." ++ m, defArgs st, defBody st, defScope st, [], []⟩
theorem fun_of {K : PySem.W.Frag} {x qual : Str} {st : Stmt} {f : Addr} {fd : FuncData} (F : FunD K x qual (defArgs st) (defBody st) (defScope st) [] [] f fd) : Fun K x qual st f fd := by
  obtain ⟨oc, od, dV, kV, doc, pm, an, cdv, ct, osl, rfl, lk, hcd, hD, hK⟩ := F.ex
  have e : dV = .none := by
    rcases hD with ⟨_, e⟩ | ⟨e, _⟩
    · exact e
    · exact absurd rfl e
  subst e
  exact ⟨⟨oc, od, kV, doc, pm, an, cdv, ct, osl, rfl, lk, hcd⟩, F.kp⟩
/-! ### an own exception of one field -/
def oexB (K : PySem.W.Frag) (C : Addr) : Bool := match K.lookup C with
  | some ⟨.type t, _, .cls cd, sl⟩ => t == "type" && (cd.hasDict && (!cd.hasDel && (match cd.mro, sl.toList with
    | .ref c :: bm, [_, _, _, _, some (.builtin n), _] => c == C && (n == "ValueError.__new__" && PySem.HandSPX.refsVE bm)
    | _, _ => false)))
  | _ => false
theorem oexB_ok {K : PySem.W.Frag} {C : Addr} (h : oexB K C = true) : ∃ nm q N bs bm sn sub ab col dd k0 k1 k2 k3 k5, K.lookup C = some (excClassObj nm q C N bs bm true sn sub ab col dd k0 k1 k2 k3 k5 "ValueError.__new__") ∧ PySem.HandSPX.refsVE bm = true := by
  unfold oexB at h
  split at h
  · rename_i t dd cd sl ho
    simp only [Bool.and_eq_true, beq_iff_eq, Bool.not_eq_true'] at h
    obtain ⟨rfl, h1, h2, h3⟩ := h
    split at h3
    · rename_i c bm k0 k1 k2 k3 n k5 hm hs
      simp only [Bool.and_eq_true, beq_iff_eq] at h3
      obtain ⟨rfl, rfl, h4⟩ := h3
      obtain ⟨nm, bs, mro, ns, qn, hd, sn, sub, ab, col, del⟩ := cd
      dsimp only at hm h1 h2
      subst hm h1 h2
      have hsl : sl = #[k0, k1, k2, k3, some (.builtin "ValueError.__new__"), k5] := by
        obtain ⟨l⟩ := sl
        simp only at hs
        rw [hs]
      subst hsl
      exact ⟨nm, qn, ns, bs, bm, sn, sub, ab, col, dd, k0, k1, k2, k3, k5, ho, h4⟩
    · cases h3
  · cases h
def exnB (K : PySem.W.Frag) (x f : Str) : Bool :=
  oexB K (He.ga K x) && (decide (PySem.W.findIn K (.ref (He.ga K x)) "__setattr__" = some (some (.builtin "object.__setattr__"))) && (decide (PySem.W.typeIn K (.ref (He.ga K x)) = some (.type "type")) && (PySem.W.keepIn K (.ref (He.ga K x)) &&
  (decide (PySem.W.findIn K (.ref (He.ga K x)) f = some none) && (xfB K (He.ga K x) && (decide (PySem.W.findIn K (.ref (He.ga K x)) "__class__" = some (some (.builtin "object.__class__"))) &&
  (decide (PySem.W.specialIn K (.builtin "object.__class__") "__get__" = some (some (.builtin "getset_descriptor.__get__"))) && (decide (PySem.W.takesIn K (.builtin "object.__class__") = some true) && (decide (PySem.W.mroIn K (He.ga K x) (.type "object") = some true) &&
  (decide (PySem.W.findIn K (.ref (He.ga K x)) "__init__" = some (some (.ref (He.ma K (He.ga K x) "__init__")))) && decide (PySem.W.typeIn K (.ref (He.ma K (He.ga K x) "__init__")) = some (.type "function"))))))))))))
theorem exnB_ok {P : Program} {w : World} {K : PySem.W.Frag} {mg : Str → Option Value} {base : Heap} {x f : Str} (h : exnB K x f = true) (g : mg x = some (.ref (He.ga K x)))
    (init : ∃ (fd : FuncData) (ps : List Str), FnOk P w K mg base CX0 1 (He.ma K (He.ga K x) "__init__") fd ps (spInit1 K (He.ga K x) f) ∧ Binds K fd ps []) : Exn P w K mg base x f (He.ga K x) := by
  unfold exnB at h
  simp only [Bool.and_eq_true, decide_eq_true_eq] at h
  obtain ⟨h1, h2, h3, h4, h5, h6, h7, h8, h9, h10, h11, h12⟩ := h
  have xf := xfB_ok h6
  obtain ⟨fd, ps, F, b⟩ := init
  exact ⟨⟨oexB_ok h1, h2, xf.exC, h3, h4⟩, g, h5, xf, ⟨xf.ga, xf.gg, xf.exC, xf.hdC, h7, h8, h9, h10⟩, ⟨_, fd, ps, h11, h12, F, b⟩⟩
/-! ### the facts, one by one -/
section
variable {K : PySem.W.Frag} {h : Heap} {mg : Str → Option Value} {fa : List He.Fa} {fn : List He.DefD}
theorem glo_at (X : K.In h) (G : h.Ns mainGlobals mg) (c : He.SaysD fa fn K) (i : Nat) {x : Str} (e : fa[i]? = some (.glo x)) : mg x = some (.ref (He.ga K x)) := He.glo_ok X G (c.fact i e)
theorem free_at (X : K.In h) (G : h.Ns mainGlobals mg) (c : He.SaysD fa fn K) (i : Nat) {x : Str} (e : fa[i]? = some (.free x)) : mg x = none := He.free_ok X G (c.fact i e)
theorem int_at (X : K.In h) (G : h.Ns mainGlobals mg) (c : He.SaysD fa fn K) (i : Nat) {x : Str} {n : Int} (e : fa[i]? = some (.int x n)) : ∃ u, mg x = some u ∧ RelV (.int n) u := by
  obtain ⟨t, q⟩ := He.int_ok X G (c.fact i e)
  exact ⟨_, q, t, rfl⟩
theorem fun_at (c : He.SaysD fa fn K) (i : Nat) {x : Str} {st : Stmt} (e : fn[i]? = some (dTop x st)) : ∃ fd, Fun K x x st (He.ga K x) fd := by
  obtain ⟨fd, F⟩ := c.def_ i e
  exact ⟨fd, fun_of F⟩
theorem defOk_of (c : He.SaysD fa fn K) (i : Nat) {x : Str} {st : Stmt} {ps : List Str} (e : fn[i]? = some (dTop x st)) (g : mg x = some (.ref (He.ga K x)))
    (b : ∀ (kV doc pm : Value) (an : Option Addr) (cdv ct : Value) (us : List Value), us.length = ps.length → bindArgs (PySem.W.fnOf x x (defArgs st) (defBody st) (defScope st) .none kV doc pm an cdv ct) ⟨us, []⟩ = pure (ps.zip us)) : DefOk K mg x st ps := by
  obtain ⟨fd, F⟩ := fun_at c i e
  exact ⟨_, fd, F, g, F.binds b⟩
theorem defOkC_of (c : He.SaysD fa fn K) (i : Nat) {x : Str} {st : Stmt} {ps : List Str} (e : fn[i]? = some (dTop x st)) (g : mg x = some (.ref (He.ga K x)))
    (b : ∀ (kV doc pm : Value) (an : Option Addr) (cdv ct : Value) (us : List Value), us.length = ps.length → bindArgs (PySem.W.fnOf x x (defArgs st) (defBody st) (defScope st) .none kV doc pm an cdv ct) ⟨us, []⟩ = pure (ps.zip us)) : DefOkC K mg x st ps (He.codeOf K (x, none)) := by
  obtain ⟨fd, F⟩ := fun_at c i e
  have F2 := F
  obtain ⟨oc, od, kV, doc, pm, an, cdv, ct, osl, rfl, lk, hcd⟩ := F2.ex
  obtain ⟨cc, rfl⟩ := He.codeIn_ref hcd
  exact ⟨_, _, F, g, F.binds b, by rw [He.codeOf_eq (p := (x, none)) lk rfl]⟩
theorem kdct_of {w : World} {a : Addr} {es : Array DictEntry} {n : Nat} {kvs : List (Str × He.Dv)} (d : KDict K w a es n) (v : He.valsB K a kvs = true) {q : Str × He.Dv} (hq : q ∈ kvs) : KDct K w a q.1 (q.2.v K) := by
  obtain ⟨u, e1, e2⟩ := He.valsB_ok v hq
  exact ⟨es, n, u, d.at_, d.lit, e1, e2⟩
theorem init1_ok {P : Program} {w : World} {base : Heap} {qual f : Str} {st : Stmt} {a C : Addr} {fd : FuncData} {p : Str} (F : Fun K "__init__" qual st a fd) (S : FnScope [("self" : Str), p] [("self" : Str), p] (defScope st))
    (body : ∀ X : Cx, X.N = [("self" : Str), p] → X.env.scope = defScope st → PSs X (defBody st) (tOst X.K f (tVar 0) (tVar 1))) : FnOk P w K mg base CX0 1 a fd [("self" : Str), p] (spInit1 K C f) := by
  refine F.ok S (fun vs H Q E h => ?_) (fun cdv A outer s H vs Q E hr h => ⟨_, body _ rfl rfl, ?_⟩)
  · obtain ⟨a, v, rfl, _⟩ := h; rfl
  · obtain ⟨a, v, rfl, T, no, ha, k⟩ := h
    exact ⟨v, rfl, .ref a, rfl, a, C, rfl, T, no, .inl ⟨ha, fun dx n1 n2 => k dx n1 n2⟩⟩
end
end FW

set_option maxRecDepth 100000
set_option maxHeartbeats 4000000
/-! fair weather: what stands behind the top, with a property of an own class -/
namespace FW
open PySem L2 PyProof.Rows
/-- the function at a place, as written -/
def wrote (K : PySem.W.Frag) (a : Addr) : He.FnW := match (K.lookup a).map Obj.data with
  | some (.func z) => some (z.name, z.qualname, z.params, z.body, z.scope, z.globals, z.closure, z.builtins)
  | _ => none
def propP (K : PySem.W.Frag) (C : Addr) (f : Str) : Addr := match PySem.W.findIn K (.ref C) f with
  | some (some (.ref p)) => p
  | _ => 0
def propG (K : PySem.W.Frag) (C : Addr) (f : Str) : Addr := match PySem.W.recIn K (propP K C f) "property" with
  | some (.ref g :: _) => g
  | _ => 0
def gotB (K : PySem.W.Frag) (g : Addr) (q : Str) : Bool := match K.lookup g with
  | some o => (match o.data with
    | .func z => PySem.W.codeIn K z.code q && (decide (z.defaults = .none) && PySem.W.keepIn K (.ref g))
    | _ => false)
  | none => false
def propB (K : PySem.W.Frag) (C : Addr) (f q : Str) : Bool :=
  decide (PySem.W.findIn K (.ref C) f = some (some (.ref (propP K C f)))) && (decide (PySem.W.specialIn K (.ref (propP K C f)) "__get__" = some (some (.builtin "property.__get__"))) && (decide (PySem.W.takesIn K (.ref (propP K C f)) = some true) &&
  ((match PySem.W.recIn K (propP K C f) "property" with | some (x :: _) => decide (x = .ref (propG K C f)) | _ => false) && gotB K (propG K C f) q)))
theorem propB_ok {K : PySem.W.Frag} {C : Addr} {f q : Str} (h : propB K C f q = true) : PropOf K C f (propP K C f) (propG K C f) ∧ gotB K (propG K C f) q = true := by
  unfold propB at h
  simp only [Bool.and_eq_true, decide_eq_true_eq] at h
  obtain ⟨h1, h2, h3, h4, h5⟩ := h
  refine ⟨⟨h1, h2, h3, ?_⟩, h5⟩
  split at h4
  · rename_i x xs e
    rw [of_decide_eq_true h4] at e
    exact ⟨xs, e⟩
  · cases h4
theorem got_fun {K : PySem.W.Frag} {g : Addr} {x q : Str} {st : Stmt} (h : gotB K g q = true) (e : wrote K g = some (x, q, defArgs st, .stmts (defBody st), defScope st, mainGlobals, [], builtinsNs)) : ∃ fd, Fun K x q st g fd := by
  unfold gotB at h
  unfold wrote at e
  split at h
  · rename_i o lk
    obtain ⟨oc, od, dt, sl⟩ := o
    rw [lk] at e
    dsimp only [Option.map] at h e
    split at h
    · rename_i z
      obtain ⟨z1, z2, z3, z4, z5, z6, z7, z8, z9, z10, z11, z12, z13, z14, z15⟩ := z
      simp only [Option.some.injEq, Prod.mk.injEq, Bool.and_eq_true, decide_eq_true_eq] at h e
      obtain ⟨y1, y2, y3, y4, y5, y6, y7, y8⟩ := e
      obtain ⟨w1, w2, w3⟩ := h
      subst y1 y2 y3 y4 y5 y6 y7 y8 w2
      exact ⟨_, ⟨⟨oc, od, z9, z10, z11, z12, z13, z14, sl, rfl, lk, w1⟩, w3⟩⟩
    · cases h
  · cases h
/-- the hook of a text with one property of an own class -/
def hookP (n : Nat) (fa : List He.Fa) (fn : List He.DefD) (ts : List He.Tab) (tf : List He.Defn) (ex : PySem.W.Frag → Bool) (C f x q : Str) (st : Stmt) : PySem.W.Hook where
  α := He.AlX × He.FnW
  obs := fun s => (He.obsX n fa fn ts tf ex s.heap.get?, wrote (He.frT s.heap.get? (He.asD s.heap.get? n)) (propG (He.frT s.heap.get? (He.asD s.heap.get? n)) (He.ga (He.frT s.heap.get? (He.asD s.heap.get? n)) C) f))
  val := fun w => (He.valX fn ts w, some (x, q, defArgs st, .stmts (defBody st), defScope st, mainGlobals, [], builtinsNs))
  says := fun w h => ∃ K : PySem.W.Frag, K.In h ∧ He.SaysX fa fn ts tf ex w h K ∧ wrote K (propG K (He.ga K C) f) = some (x, q, defArgs st, .stmts (defBody st), defScope st, mainGlobals, [], builtinsNs)
  of := fun _ _ e => ⟨_, He.frT_in, He.saysX_of (congrArg (fun z => z.1) e), congrArg (fun z => z.2) e⟩
  keeps := fun _ _ _ ⟨K, i, c, d⟩ k => ⟨K, PySem.W.Frag.In.keeps i k, ⟨c.t, c.more, c.hd, c.out, fun p m => k _ _ (c.empty p m)⟩, d⟩
end FW

set_option maxRecDepth 100000
set_option maxHeartbeats 4000000
/-! fair weather: what stands behind the top, with properties of own classes -/
namespace FW
open PySem L2 PyProof.Rows
/-- a property: class, name, the getter's text -/
structure Pr where
  C : Str
  f : Str
  q : Str
  st : Stmt
def Pr.fw (p : Pr) : He.FnW := some (p.f, p.q, defArgs p.st, .stmts (defBody p.st), defScope p.st, mainGlobals, [], builtinsNs)
def prW (K : PySem.W.Frag) (ps : List Pr) : List He.FnW := ps.map fun p => wrote K (propG K (He.ga K p.C) p.f)
/-- the hook of a text with some properties of own classes -/
def hookQ (n : Nat) (fa : List He.Fa) (fn : List He.DefD) (ts : List He.Tab) (tf : List He.Defn) (ex : PySem.W.Frag → Bool) (ps : List Pr) : PySem.W.Hook where
  α := He.AlX × List He.FnW
  obs := fun s => (He.obsX n fa fn ts tf ex s.heap.get?, prW (He.frT s.heap.get? (He.asD s.heap.get? n)) ps)
  val := fun w => (He.valX fn ts w, ps.map Pr.fw)
  says := fun w h => ∃ K : PySem.W.Frag, K.In h ∧ He.SaysX fa fn ts tf ex w h K ∧ prW K ps = ps.map Pr.fw
  of := fun _ _ e => ⟨_, He.frT_in, He.saysX_of (congrArg (fun z => z.1) e), congrArg (fun z => z.2) e⟩
  keeps := fun _ _ _ ⟨K, i, c, d⟩ k => ⟨K, PySem.W.Frag.In.keeps i k, ⟨c.t, c.more, c.hd, c.out, fun p m => k _ _ (c.empty p m)⟩, d⟩
theorem prW_at {K : PySem.W.Frag} : ∀ {ps : List Pr} (i : Nat) {p : Pr}, prW K ps = ps.map Pr.fw → ps[i]? = some p → wrote K (propG K (He.ga K p.C) p.f) = p.fw
  | [], _, _, _, h => by simp at h
  | q :: ps, 0, p, e, h => by
    simp at h; subst h
    unfold prW at e
    rw [List.map_cons, List.map_cons] at e
    exact (List.cons.inj e).1
  | q :: ps, i + 1, p, e, h => by
    unfold prW at e
    rw [List.map_cons, List.map_cons] at e
    exact prW_at i (List.cons.inj e).2 (by simpa using h)
end FW

set_option maxRecDepth 100000
set_option maxHeartbeats 4000000
/-! fair weather: what stands behind the top, by one run of the machine off the tree: all objects up to the last one -/
namespace FW
open PySem L2 PyProof.Rows HandSHeadRun
def obsR (fa : List He.Fa) (fn : List He.DefD) (ts : List He.Tab) (ex : PySem.W.Frag → Bool) (ps : List Pr) (K : PySem.W.Frag) : (He.AlT × Bool) × List He.FnW := ((He.obsT fa fn ts K, ex K), prW K ps)
/-- the hook of a text with some properties of own classes, no code tables -/
def hookR (fa : List He.Fa) (fn : List He.DefD) (ts : List He.Tab) (ex : PySem.W.Frag → Bool) (ps : List Pr) : PySem.W.Hook where
  α := (He.AlT × Bool) × List He.FnW
  obs := fun s => obsR fa fn ts ex ps (He.frT s.heap.get? (List.range s.heap.objs.size))
  val := fun w => ((He.valT fn ts w, true), ps.map Pr.fw)
  says := fun w h => ∃ K : PySem.W.Frag, K.In h ∧ He.SaysX fa fn ts [] ex w h K ∧ prW K ps = ps.map Pr.fw
  of := fun w s e => by
    have e1 : He.obsT fa fn ts (He.frT s.heap.get? (List.range s.heap.objs.size)) = He.valT fn ts w := congrArg (fun z : (He.AlT × Bool) × List He.FnW => z.1.1) e
    have e2 : ex (He.frT s.heap.get? (List.range s.heap.objs.size)) = true := congrArg (fun z : (He.AlT × Bool) × List He.FnW => z.1.2) e
    exact ⟨_, He.frT_in, ⟨e1, e2, fun _ m => (nomatch m), fun _ m => (nomatch m), fun _ m => (nomatch m)⟩, congrArg (fun z : (He.AlT × Bool) × List He.FnW => z.2) e⟩
  keeps := fun _ _ _ ⟨K, i, c, d⟩ k => ⟨K, PySem.W.Frag.In.keeps i k, ⟨c.t, c.more, c.hd, c.out, fun p m => k _ _ (c.empty p m)⟩, d⟩
/-- what the hook looks at, off the tree -/
def obT (fa : List He.Fa) (fn : List He.DefD) (ts : List He.Tab) (ex : PySem.W.Frag → Bool) (ps : List Pr) (s : PySem.W.SharedT) : (He.AlT × Bool) × List He.FnW := obsR fa fn ts ex ps (He.frT (getT s) (List.range s.n))
theorem obT_eq (fa : List He.Fa) (fn : List He.DefD) (ts : List He.Tab) (ex : PySem.W.Frag → Bool) (ps : List Pr) (s : PySem.W.SharedT) : obT fa fn ts ex ps s = (hookR fa fn ts ex ps).obs s.abs := by
  have e : getT s = s.abs.heap.get? := funext fun a => getT_eq s a
  have e2 : s.abs.heap.objs.size = s.n := PySem.W.absHeap_size s.tree s.n s.life
  unfold obT hookR
  dsimp only
  rw [e, e2]
end FW

set_option maxRecDepth 100000
set_option maxHeartbeats 4000000
/-! fair weather: lambdas handed to a def, where no repr is under way -/
namespace FW
open PySem PySem.Spec PyProof.Rows L2 LamX
section
variable {X : Cx} {pins : List (Addr × Obj)} {σ : L2.St} {H : Hp} {s : Shared}
/-- it is called, in the def that got it -/
theorem actPG {CXg : CXT} {Eg : XK} {Ng : List Str} {qg : Str} {sg : Scope} {g f t c' : Addr} {cdg pm ctv doc u : Value} {params : Arguments} {body : Expr} {scope : Scope} {k i : Nat} {a p : Str} {pn : List (Addr × Obj)} {xe : Value → Shared → Prop} {W : WX} {E : XK} {tb : TE} {q1 q2 : Pos}
    (I : Inv X pins σ H s) (L : LamP X.N X.env.scope scope p) (hf : s.heap.get? f = some ⟨.type "function", none, .func (lamPF (X.env.qual ++ "<lambda>") params body scope (cloFrom X.env.cells scope.names []) t doc pm (.ref c') ctv), #[]⟩)
    (ht : s.heap.get? t = some (PySem.W.kdv_tup [u])) (nf : H f = none) (rf : f ∉ frs X.stack) (nt : H t = none) (rt : t ∉ frs X.stack)
    (bind : ∀ z : Shared, z.heap.get? t = some (PySem.W.kdv_tup [u]) → BindsTo z (lamPF (X.env.qual ++ "<lambda>") params body scope (cloFrom X.env.cells scope.names []) t doc pm (.ref c') ctv) ⟨[], []⟩ [(p, u)])
    (tk : Takes ((cxOf CXg X.prog X.w X.K X.mg X.base Ng qg sg g cdg X.A X.stack s H Eg).tr pn xe) W) (hW : ∀ cls d σ' H', E cls d H' → W cls d σ' H') (hr : Room (k + 1) (X.A.deeper (envOfC qg sg s.heap.objs.size g cdg))) (gd : X.A.guards = some [])
    (inner : ∀ (A : Around) (outer : List Env) (s : Shared) (H : Hp), (A.deeper (lamEnv X scope s.heap.objs.size f c')).guards = some [] → Room k (A.deeper (lamEnv X scope s.heap.objs.size f c')) → PE (lamCx X A outer s H E scope f c') body tb)
    (hN : Ng[i]? = some a) (hv : Vis sg a) (hd : (a == ("__debug__" : Str)) = false := by decide) (hcd : (a == ("__classdict__" : Str)) = false := by decide) :
    PE ((cxOf CXg X.prog X.w X.K X.mg X.base Ng qg sg g cdg X.A X.stack s H Eg).tr pn xe) (.Call (.Name a q1) [] [] q2)
      (fun σZ HZ Q => σZ[i]? = some (some (.ref f)) ∧ HZ c' = some (CodeO c' (X.env.qual ++ "<lambda>")) ∧ tb σ HZ Q) := by
  refine ⟨fun pinsZ sZ σZ HZ Q IZ ⟨hs, hc, hq⟩ => ?_⟩
  refine wpAny_Call_Name_kw (thn ((pe_var (pos := q1) (i := i) hN hv hd hcd).run pinsZ sZ σZ HZ (fun v K1 => v = .ref f ∧ K1 = HZ) IZ ⟨.ref f, hs, rfl, rfl⟩) fun uf sa ⟨v, Ha, Ia, ra, ev, eH⟩ => ?_)
  subst ev eH
  obtain rfl : uf = Value.ref f := ra
  have nob : ∀ b : Addr, b ∉ ([] : List Addr) := fun b z => nomatch z
  have fa := Ia.base.keep f _ hf nf rf (nob f)
  have ta := Ia.base.keep t _ ht nt rt (nob t)
  refine PySem.W.callWith_F0 ⟨_, _, _, _, fa⟩ ?_
  have un : Un (frs X.stack) [] H Ha s.heap sa.heap := Ia.base
  obtain ⟨⟨oc, vs, tq, hoc, hdc, hvc⟩, _, _⟩ := Ia.hok c' _ hc
  have runs : codeAny (model X.prog X.w) (X.A.deeper (envOfC qg sg s.heap.objs.size g cdg)) (.call (.ref f) ⟨[], []⟩) (CR (L2.CX X.prog X.w) (envOfC qg sg s.heap.objs.size g cdg :: X.stack) X.prog X.w Ha sa Q E) sa := by
    refine PySem.W.kla_callFunE hr.depth fa rfl L.co L.gen rfl ⟨c', oc, vs, tq, rfl, hoc, hdc, hvc⟩ (bind sa ta _ _ _ _ ?_)
    refine wpAny_newFunctionEnv L.nocell ?b1 (fun hz ns sb => ⟨Ia.nolimit.fresh _ sb, ?b2⟩) L.kind
    case b1 =>
      intro y hy
      rw [List.mem_singleton.mp hy]
      exact L.par
    case b2 =>
      show codeAny _ _ (.expr body (lamEnv X scope sa.heap.objs.size f c')) _ _
      have kp : ∀ b o, sa.heap.get? b = some o → hz.get? b = some o := fun b o e => sb.extBut b o (Nat.ne_of_lt (Heap.lt_size e)) (Heap.get?_push_of_some _ e)
      have J : Inv (lamCx X (X.A.deeper (envOfC qg sg s.heap.objs.size g cdg)) (envOfC qg sg s.heap.objs.size g cdg :: X.stack) sa Ha E scope f c') [] σ Ha { sa with heap := hz, toks := sa.toks + ([(p, u)] : List (Str × Value)).length } :=
        startP I L Ia.env0 hr.hd un ns kp
      refine PySem.W.kla_codeExpr (wpAny_mono ((inner _ _ sa Ha (guards_in (guards_in gd)) (hr.deeper _)).run [] _ _ Ha Q J hq) ?b3 fun _ _ z => z)
      case b3 => exact fun v s' ⟨w', H', J', rv, q⟩ => ⟨w', H', J'.os, J'.bare, J'.base, J'.hok, rv, q⟩
  have out : Passes (L2.CX X.prog X.w) ((cxOf CXg X.prog X.w X.K X.mg X.base Ng qg sg g cdg X.A X.stack s H Eg).tr pn xe) E := passes_call tk hW
  refine wpAny_call (codeAny_mono runs fun r s' z => ?_)
  match r, z with
  | .error e, z => exact out pinsZ σZ Ha sa e s' Ia z
  | .ok (.ret _), z => exact Ia.after z
  | .ok .next, z => exact z.elim
  | .ok .brk, z => exact z.elim
  | .ok .cont, z => exact z.elim
/-- x(lambda p=d: body) -/
theorem pe_lamcallPG {T : List (Addr × Str)} {TT : (XK → Hp → VK → Prop) → Hp → VK → Prop} {x a p : Str} {g c P : Addr} {k : Nat} {pg : Arguments} {bg : List Stmt} {sg : Scope} {dV kV doc pm cdv ct oc : Value} {an od : Option Addr} {osl : Array (Option Value)} {Ng : List Str}
    {params : Arguments} {body d0 : Expr} {v0 : V} {scope : Scope} {t : XK → TE} {q1 q2 q3 : Pos} (hg : Gl X x) (hm : X.mg x = some (.ref g)) (hk : PySem.W.keepIn X.K (.ref g) = true)
    (lk : X.K.lookup g = some ⟨oc, od, .func (PySem.W.fnOf x x pg bg sg dV kV doc pm an cdv ct), osl⟩) (hcg : PySem.W.codeIn X.K cdv x = true) (hb : L2.Binds X.K (PySem.W.fnOf x x pg bg sg dV kV doc pm an cdv ct) [a] []) (Sg : FnScope Ng [a] sg) (hNg : Ng[0]? = some a) (hva : Vis sg a)
    (hG : GivesTo X Ng x sg g cdv bg a (X.env.qual ++ "<lambda>") TT) (TB : TabB X.base X.mg c P) (hcode : X.env.code = .ref c) (hmT : (P, X.env.qual ++ "<lambda>") ∈ T) (hu : ∀ b ∈ T, b.1 = P → b.2 = X.env.qual ++ "<lambda>") (hr : Room (k + 2) X.A) (gd : X.A.guards = some [])
    (L : LamP X.N X.env.scope scope p) (hd : params.defaults = [d0]) (hkd : params.kw_defaults = []) (he : PE X d0 (tC v0))
    (bind : ∀ (q : Str) (cl : List (Str × Addr)) (t : Addr) (u doc pm cv ctv : Value) (z : Shared), z.heap.get? t = some (PySem.W.kdv_tup [u]) → BindsTo z (lamPF q params body scope cl t doc pm cv ctv) ⟨[], []⟩ [(p, u)])
    (inner : ∀ (A : Around) (outer : List Env) (s : Shared) (H : Hp) (E : XK) (f c' : Addr), (A.deeper (lamEnv X scope s.heap.objs.size f c')).guards = some [] → Room k (A.deeper (lamEnv X scope s.heap.objs.size f c')) → PE (lamCx X A outer s H E scope f c') body (t E))
    (n1 : (x == ("__debug__" : Str)) = false := by decide) (n2 : (a == ("__debug__" : Str)) = false := by decide) (n3 : (a == ("__classdict__" : Str)) = false := by decide) :
    PE X (.Call (.Name x q1) [.Lambda params body scope q2] [] q3) (tLam T TT t) := by
  refine ⟨fun pins s σ H Q I ⟨hT, h⟩ => ?_⟩
  refine wpAny_Call_Name_kw (ld_glob I hg hm (PySem.W.callWith_K (h₀ := X.base) I.ok.mod.kin hk ?_ (by rfl) (by rfl)) n1)
  show wpAny _ _ (spliced ((false, eval (.Lambda params body scope q2) X.env) :: backTo q3 (starEach [] X.env))) _ _ s
  refine Calls.spliced_cons (makeP I TB hcode hmT hu hT hd hkd he (L.cells I.ok) fun f t1 c' u pm' ctv doc' H1 s' J eN T1 hf ht nf rf nt rt hco => ?_)
  refine Calls.spliced_nil ⟨J.kIn, ?_⟩
  have runs : codeAny (model X.prog X.w) X.A (.call (.ref g) ⟨[.ref f], []⟩) (CR C8.CX0 X.stack X.prog X.w H1 s' Q C8.E0) s' := by
    refine run_ofS (N := Ng) (ps := [a]) (us := [.ref f]) (vs := [.ref f]) lk hcg Sg hr J.env0 (hb s' [.ref f] J.kIn rfl) (.cons rfl .nil) rfl fun hr' => ?_
    obtain ⟨td, hp, hq⟩ := hG f c' s' H1 Q (fun E H' Q' => t E σ H' Q') (fun W pn xe E p1 p2 tk hW => actPG (i := 0) J L hf ht nf rf nt rt (fun z => bind _ _ _ _ _ _ _ _ z) tk hW hr' gd (fun A outer s H hg2 hr2 => inner A outer s H E f c' hg2 hr2) hNg hva n2 n3) hco (h H1 eN T1)
    exact ⟨td, hp.nox, hq⟩
  refine wpAny_call (codeAny_mono runs fun r s2 z => ?_)
  match r, z with
  | .error e, z => exact (show False from z).elim
  | .ok (.ret _), z => exact J.after z
  | .ok .next, z => exact z.elim
  | .ok .brk, z => exact z.elim
  | .ok .cont, z => exact z.elim

/-- one without parameters is called, in the def that got it -/
theorem actSG {CXg : CXT} {Eg : XK} {Ng : List Str} {qg : Str} {sg : Scope} {g f c' : Addr} {cdg pm ctv : Value} {params : Arguments} {body : Expr} {scope : Scope} {k i : Nat} {a : Str} {pn : List (Addr × Obj)} {xe : Value → Shared → Prop} {W : WX} {E : XK} {tb : TE} {q1 q2 : Pos}
    (I : Inv X pins σ H s) (L : LamS X.env.scope scope) (hf : s.heap.get? f = some (PySem.W.kla_obj "<lambda>" (X.env.qual ++ "<lambda>") params body scope (cloFrom X.env.cells scope.names []) pm c' ctv)) (nf : H f = none) (rf : f ∉ frs X.stack)
    (bind : bindArgs (PySem.W.kla_fn "<lambda>" (X.env.qual ++ "<lambda>") params body scope (cloFrom X.env.cells scope.names []) pm (.ref c') ctv) ⟨[], []⟩ = pure [])
    (tk : Takes ((cxOf CXg X.prog X.w X.K X.mg X.base Ng qg sg g cdg X.A X.stack s H Eg).tr pn xe) W) (hW : ∀ cls d σ' H', E cls d H' → W cls d σ' H') (hr : Room (k + 1) (X.A.deeper (envOfC qg sg s.heap.objs.size g cdg))) (gd : X.A.guards = some [])
    (inner : ∀ (A : Around) (outer : List Env) (s : Shared) (H : Hp), (A.deeper (lamEnv X scope s.heap.objs.size f c')).guards = some [] → Room k (A.deeper (lamEnv X scope s.heap.objs.size f c')) → PE (lamCx X A outer s H E scope f c') body tb)
    (hN : Ng[i]? = some a) (hv : Vis sg a) (hd : (a == ("__debug__" : Str)) = false := by decide) (hcd : (a == ("__classdict__" : Str)) = false := by decide) :
    PE ((cxOf CXg X.prog X.w X.K X.mg X.base Ng qg sg g cdg X.A X.stack s H Eg).tr pn xe) (.Call (.Name a q1) [] [] q2)
      (fun σZ HZ Q => σZ[i]? = some (some (.ref f)) ∧ HZ c' = some (CodeO c' (X.env.qual ++ "<lambda>")) ∧ tb σ HZ Q) := by
  refine ⟨fun pinsZ sZ σZ HZ Q IZ ⟨hs, hc, hq⟩ => ?_⟩
  refine wpAny_Call_Name_kw (thn ((pe_var (pos := q1) (i := i) hN hv hd hcd).run pinsZ sZ σZ HZ (fun v K1 => v = .ref f ∧ K1 = HZ) IZ ⟨.ref f, hs, rfl, rfl⟩) fun uf sa ⟨v, Ha, Ia, ra, ev, eH⟩ => ?_)
  subst ev eH
  obtain rfl : uf = Value.ref f := ra
  have fa := Ia.base.keep f _ hf nf rf (fun z => nomatch (show f ∈ ([] : List Addr) from z))
  refine PySem.W.callWith_F0 ⟨_, _, _, _, fa⟩ ?_
  have un : Un (frs X.stack) [] H Ha s.heap sa.heap := Ia.base
  obtain ⟨⟨oc, vs, tq, hoc, hdc, hvc⟩, _, _⟩ := Ia.hok c' _ hc
  have runs : codeAny (model X.prog X.w) (X.A.deeper (envOfC qg sg s.heap.objs.size g cdg)) (.call (.ref f) ⟨[], []⟩) (CR (L2.CX X.prog X.w) (envOfC qg sg s.heap.objs.size g cdg :: X.stack) X.prog X.w Ha sa Q E) sa := by
    refine PySem.W.kla_callFunE hr.depth fa rfl L.co L.gen rfl ⟨c', oc, vs, tq, rfl, hoc, hdc, hvc⟩ ?_
    rw [bind]
    refine wpAny_pure ?_
    refine wpAny_newFunctionEnv (fun y m => (L.own y m).2) (fun y m => absurd m (List.not_mem_nil)) (fun hz ns sb => ⟨Ia.nolimit.fresh _ sb, ?b2⟩) L.kind
    case b2 =>
      show codeAny _ _ (.expr body (lamEnv X scope sa.heap.objs.size f c')) _ _
      have kp : ∀ b o, sa.heap.get? b = some o → hz.get? b = some o := fun b o e => sb.extBut b o (Nat.ne_of_lt (Heap.lt_size e)) (Heap.get?_push_of_some _ e)
      have J : Inv (lamCx X (X.A.deeper (envOfC qg sg s.heap.objs.size g cdg)) (envOfC qg sg s.heap.objs.size g cdg :: X.stack) sa Ha E scope f c') [] σ Ha { sa with heap := hz, toks := sa.toks + ([] : List (Str × Value)).length } :=
        lam_start2 I L Ia.env0 hr.hd un ns kp
      refine PySem.W.kla_codeExpr (wpAny_mono ((inner _ _ sa Ha (guards_in (guards_in gd)) (hr.deeper _)).run [] _ _ Ha Q J hq) ?b3 fun _ _ z => z)
      case b3 => exact fun v s' ⟨w', H', J', rv, q⟩ => ⟨w', H', J'.os, J'.bare, J'.base, J'.hok, rv, q⟩
  have out : Passes (L2.CX X.prog X.w) ((cxOf CXg X.prog X.w X.K X.mg X.base Ng qg sg g cdg X.A X.stack s H Eg).tr pn xe) E := passes_call tk hW
  refine wpAny_call (codeAny_mono runs fun r s' z => ?_)
  match r, z with
  | .error e, z => exact out pinsZ σZ Ha sa e s' Ia z
  | .ok (.ret _), z => exact Ia.after z
  | .ok .next, z => exact z.elim
  | .ok .brk, z => exact z.elim
  | .ok .cont, z => exact z.elim
/-- x(lambda: body) -/
theorem pe_lamcallSG {T : List (Addr × Str)} {TT : (XK → Hp → VK → Prop) → Hp → VK → Prop} {x a : Str} {g c P : Addr} {k : Nat} {pg : Arguments} {bg : List Stmt} {sg : Scope} {dV kV doc pm cdv ct oc : Value} {an od : Option Addr} {osl : Array (Option Value)} {Ng : List Str}
    {params : Arguments} {body : Expr} {scope : Scope} {t : XK → TE} {q1 q2 q3 : Pos} (hg : Gl X x) (hm : X.mg x = some (.ref g)) (hk : PySem.W.keepIn X.K (.ref g) = true)
    (lk : X.K.lookup g = some ⟨oc, od, .func (PySem.W.fnOf x x pg bg sg dV kV doc pm an cdv ct), osl⟩) (hcg : PySem.W.codeIn X.K cdv x = true) (hb : L2.Binds X.K (PySem.W.fnOf x x pg bg sg dV kV doc pm an cdv ct) [a] []) (Sg : FnScope Ng [a] sg) (hNg : Ng[0]? = some a) (hva : Vis sg a)
    (hG : GivesTo X Ng x sg g cdv bg a (X.env.qual ++ "<lambda>") TT) (TB : TabB X.base X.mg c P) (hcode : X.env.code = .ref c) (hmT : (P, X.env.qual ++ "<lambda>") ∈ T) (hu : ∀ b ∈ T, b.1 = P → b.2 = X.env.qual ++ "<lambda>") (hr : Room (k + 2) X.A) (gd : X.A.guards = some [])
    (L : LamS X.env.scope scope) (hd : defaultsOf params X.env = ([], []))
    (bind : ∀ (q : Str) (cl : List (Str × Addr)) (pm cv ctv : Value), bindArgs (PySem.W.kla_fn "<lambda>" q params body scope cl pm cv ctv) ⟨[], []⟩ = pure [])
    (inner : ∀ (A : Around) (outer : List Env) (s : Shared) (H : Hp) (E : XK) (f c' : Addr), (A.deeper (lamEnv X scope s.heap.objs.size f c')).guards = some [] → Room k (A.deeper (lamEnv X scope s.heap.objs.size f c')) → PE (lamCx X A outer s H E scope f c') body (t E))
    (n1 : (x == ("__debug__" : Str)) = false := by decide) (n2 : (a == ("__debug__" : Str)) = false := by decide) (n3 : (a == ("__classdict__" : Str)) = false := by decide) :
    PE X (.Call (.Name x q1) [.Lambda params body scope q2] [] q3) (tLam T TT t) := by
  refine ⟨fun pins s σ H Q I ⟨hT, h⟩ => ?_⟩
  refine wpAny_Call_Name_kw (ld_glob I hg hm (PySem.W.callWith_K (h₀ := X.base) I.ok.mod.kin hk ?_ (by rfl) (by rfl)) n1)
  show wpAny _ _ (spliced ((false, eval (.Lambda params body scope q2) X.env) :: backTo q3 (starEach [] X.env))) _ _ s
  refine Calls.spliced_cons (lam_make2 I TB hcode hmT hu hT hd (L.has I.ok) fun f c' pm' ctv H1 s' J eN T1 hf nf rf hco => ?_)
  refine Calls.spliced_nil ⟨J.kIn, ?_⟩
  have runs : codeAny (model X.prog X.w) X.A (.call (.ref g) ⟨[.ref f], []⟩) (CR C8.CX0 X.stack X.prog X.w H1 s' Q C8.E0) s' := by
    refine run_ofS (N := Ng) (ps := [a]) (us := [.ref f]) (vs := [.ref f]) lk hcg Sg hr J.env0 (hb s' [.ref f] J.kIn rfl) (.cons rfl .nil) rfl fun hr' => ?_
    obtain ⟨td, hp, hq⟩ := hG f c' s' H1 Q (fun E H' Q' => t E σ H' Q') (fun W pn xe E p1 p2 tk hW => actSG (i := 0) J L hf nf rf (bind _ _ _ _ _) tk hW hr' gd (fun A outer s H hg2 hr2 => inner A outer s H E f c' hg2 hr2) hNg hva n2 n3) hco (h H1 eN T1)
    exact ⟨td, hp.nox, hq⟩
  refine wpAny_call (codeAny_mono runs fun r s2 z => ?_)
  match r, z with
  | .error e, z => exact (show False from z).elim
  | .ok (.ret _), z => exact J.after z
  | .ok .next, z => exact z.elim
  | .ok .brk, z => exact z.elim
  | .ok .cont, z => exact z.elim
end
end FW

set_option maxRecDepth 100000
set_option maxHeartbeats 4000000
/-! values as trees: what a heap's values are, without addresses; what may change stands in a store of its own -/
namespace VL
open PySem L2 FW PyProof.Rows

/-- a value: a tree; `ref` is a thing that may change, or that nothing is known of -/
inductive D where
  | non | bl (b : Bool) | int (i : Int) | str (s : Str) | ty (n : String) | ref (a : Addr)
  | lst (xs : List D) | tup (xs : List D) | sq (xs : List D) | dic (ks : List Key) (xs : List D)
  | obj (C : Addr) (ns : List Str) (xs : List D) | exc (C : Addr) (ns : List Str) (xs : List D)
/-- what may change -/
inductive MO where
  | lst (xs : List D) | dic (ks : List Key) (xs : List D) | ins (C : Addr) (ns : List Str) (xs : List D) | raw (o : HO)
abbrev Mu := Addr → Option MO
def Mu.set (μ : Mu) (a : Addr) (m : MO) : Mu := fun b => if b = a then some m else μ b
def Mu.del (μ : Mu) (a : Addr) : Mu := fun b => if b = a then none else μ b
theorem Mu.same {μ : Mu} {a : Addr} {m : MO} : (μ.set a m) a = some m := by unfold Mu.set; rw [if_pos rfl]
theorem Mu.ne {μ : Mu} {a b : Addr} {m : MO} (h : b ≠ a) : (μ.set a m) b = μ b := by unfold Mu.set; rw [if_neg h]
theorem Mu.dsame {μ : Mu} {a : Addr} : (μ.del a) a = none := by unfold Mu.del; rw [if_pos rfl]
theorem Mu.dne {μ : Mu} {a b : Addr} (h : b ≠ a) : (μ.del a) b = μ b := by unfold Mu.del; rw [if_neg h]
theorem Mu.set_set {μ : Mu} {a : Addr} {m n : MO} : (μ.set a m).set a n = μ.set a n := by
  funext b; unfold Mu.set; split <;> rfl
theorem Mu.del_set {μ : Mu} {a : Addr} {m : MO} (h : μ a = none) : (μ.set a m).del a = μ := by
  funext b; unfold Mu.set Mu.del; split
  · rename_i e; rw [e]; exact h.symm
  · rename_i e; exact if_neg e

/-- a list that stays, at a; perhaps one that is the text's or the script -/
def AtL (K : PySem.W.Frag) (μ : Mu) (H : Hp) (a : Addr) (vs : List V) : Prop := μ a = none ∧ H a = some (.lst vs)
def AtS (K : PySem.W.Frag) (μ : Mu) (H : Hp) (a : Addr) (vs : List V) : Prop := (μ a = none ∧ Rd H a (.lst vs)) ∨ SqL K (fun _ => none) a vs
def AtT (K : PySem.W.Frag) (μ : Mu) (H : Hp) (a : Addr) (vs : List V) : Prop := (μ a = none ∧ H a = some (.tup vs)) ∨ SqT K (fun _ => none) a vs
mutual
inductive Is (K : PySem.W.Frag) (μ : Mu) (H : Hp) : V → D → Prop where
  | non : Is K μ H .non .non
  | bl (b : Bool) : Is K μ H (.bl b) (.bl b)
  | int (i : Int) : Is K μ H (.int i) (.int i)
  | str (s : Str) : Is K μ H (.str s) (.str s)
  | ty (n : String) : Is K μ H (.ty n) (.ty n)
  | ref (a : Addr) : Is K μ H (.ref a) (.ref a)
  | lst {a : Addr} {vs : List V} {ds : List D} : AtL K μ H a vs → IsAll K μ H vs ds → Is K μ H (.ref a) (.lst ds)
  | sq {a : Addr} {vs : List V} {ds : List D} : AtS K μ H a vs → IsAll K μ H vs ds → Is K μ H (.ref a) (.sq ds)
  | tup {a : Addr} {vs : List V} {ds : List D} : AtT K μ H a vs → IsAll K μ H vs ds → Is K μ H (.ref a) (.tup ds)
  | dic {a : Addr} {ks : List Key} {vs : List V} {ds : List D} : μ a = none → H a = some (.dK (ks.zip vs)) → ks.length = vs.length → IsAll K μ H vs ds → Is K μ H (.ref a) (.dic ks ds)
  | obj {a C dx : Addr} {ns : List Str} {vs : List V} {ds : List D} : μ a = none → H a = some (.ins C dx (ns.zip vs)) → ns.length = vs.length → IsAll K μ H vs ds → Is K μ H (.ref a) (.obj C ns ds)
  | exc {a C dd : Addr} {ns : List Str} {vs : List V} {ds : List D} : μ a = none → H a = some (ExT a (.ref C) (some dd)) → μ dd = none → H dd = some (.xd (ns.zip vs)) → ns.length = vs.length → IsAll K μ H vs ds → Is K μ H (.ref a) (.exc C ns ds)
inductive IsAll (K : PySem.W.Frag) (μ : Mu) (H : Hp) : List V → List D → Prop where
  | nil : IsAll K μ H [] []
  | cons {v : V} {vs : List V} {d : D} {ds : List D} : Is K μ H v d → IsAll K μ H vs ds → IsAll K μ H (v :: vs) (d :: ds)
end
/-- what is no part of the store stays, and becomes no part of it -/
def Step (μ : Mu) (H : Hp) (μ' : Mu) (H' : Hp) : Prop := ∀ a o, H a = some o → μ a = none → (∀ ps, o ≠ .tbl ps) → H' a = some o ∧ μ' a = none
theorem Step.refl (μ : Mu) (H : Hp) : Step μ H μ H := fun _ _ h m _ => ⟨h, m⟩
theorem Step.trans {μ μ1 μ2 : Mu} {H H1 H2 : Hp} (a : Step μ H μ1 H1) (b : Step μ1 H1 μ2 H2) : Step μ H μ2 H2 := fun x o h m n => by
  obtain ⟨h1, m1⟩ := a x o h m n
  exact b x o h1 m1 n
theorem AtL.sq {K : PySem.W.Frag} {μ : Mu} {H : Hp} {a : Addr} {vs : List V} (h : AtL K μ H a vs) : SqL K H a vs := SqL.of h.2
theorem AtS.sq {K : PySem.W.Frag} {μ : Mu} {H : Hp} {a : Addr} {vs : List V} (h : AtS K μ H a vs) : SqL K H a vs := by
  rcases h with ⟨_, h⟩ | h
  · exact .inl h
  · rcases h with (h | ⟨o, h⟩) | h
    · cases h
    · cases h
    · exact .inr h
theorem AtT.sq {K : PySem.W.Frag} {μ : Mu} {H : Hp} {a : Addr} {vs : List V} (h : AtT K μ H a vs) : SqT K H a vs := by
  rcases h with ⟨_, h⟩ | h
  · exact SqT.of h
  · rcases h with (h | ⟨o, h⟩) | h
    · cases h
    · cases h
    · exact .inr h
theorem Step.rd {μ μ' : Mu} {H H' : Hp} {a : Addr} {u : HO} (s : Step μ H μ' H') (m : μ a = none) (h : Rd H a u) (n : ∀ ps, u ≠ .tbl ps) : μ' a = none ∧ Rd H' a u := by
  rcases h with h | ⟨o, h⟩
  · exact ⟨(s _ _ h m n).2, .inl (s _ _ h m n).1⟩
  · exact ⟨(s _ _ h m nofun).2, .inr ⟨o, (s _ _ h m nofun).1⟩⟩
theorem AtL.step {K : PySem.W.Frag} {μ μ' : Mu} {H H' : Hp} {a : Addr} {vs : List V} (s : Step μ H μ' H') (h : AtL K μ H a vs) : AtL K μ' H' a vs := ⟨(s _ _ h.2 h.1 nofun).2, (s _ _ h.2 h.1 nofun).1⟩
theorem AtS.step {K : PySem.W.Frag} {μ μ' : Mu} {H H' : Hp} {a : Addr} {vs : List V} (s : Step μ H μ' H') (h : AtS K μ H a vs) : AtS K μ' H' a vs := by
  rcases h with ⟨m, h⟩ | h
  · exact .inl (s.rd m h nofun)
  · exact .inr h
theorem AtT.step {K : PySem.W.Frag} {μ μ' : Mu} {H H' : Hp} {a : Addr} {vs : List V} (s : Step μ H μ' H') (h : AtT K μ H a vs) : AtT K μ' H' a vs := by
  rcases h with ⟨m, h⟩ | h
  · exact .inl ⟨(s _ _ h m nofun).2, (s _ _ h m nofun).1⟩
  · exact .inr h
mutual
theorem Is.step {K : PySem.W.Frag} {μ μ' : Mu} {H H' : Hp} (s : Step μ H μ' H') : ∀ {d : D} {v : V}, Is K μ H v d → Is K μ' H' v d
  | _, _, .non => .non
  | _, _, .bl b => .bl b
  | _, _, .int i => .int i
  | _, _, .str x => .str x
  | _, _, .ty n => .ty n
  | _, _, .ref a => .ref a
  | _, _, .lst a i => .lst (a.step s) (IsAll.step s i)
  | _, _, .tup a i => .tup (a.step s) (IsAll.step s i)
  | _, _, .sq a i => .sq (a.step s) (IsAll.step s i)
  | _, _, .dic m h l i => .dic (s _ _ h m nofun).2 (s _ _ h m nofun).1 l (IsAll.step s i)
  | _, _, .obj m h l i => .obj (s _ _ h m nofun).2 (s _ _ h m nofun).1 l (IsAll.step s i)
  | _, _, .exc m h m2 h2 l i => .exc (s _ _ h m nofun).2 (s _ _ h m nofun).1 (s _ _ h2 m2 nofun).2 (s _ _ h2 m2 nofun).1 l (IsAll.step s i)
theorem IsAll.step {K : PySem.W.Frag} {μ μ' : Mu} {H H' : Hp} (s : Step μ H μ' H') : ∀ {ds : List D} {vs : List V}, IsAll K μ H vs ds → IsAll K μ' H' vs ds
  | _, _, .nil => .nil
  | _, _, .cons a b => .cons (Is.step s a) (IsAll.step s b)
end
section
variable {K : PySem.W.Frag} {μ : Mu} {H : Hp}
theorem IsAll.len : ∀ {vs : List V} {ds : List D}, IsAll K μ H vs ds → vs.length = ds.length
  | _, _, .nil => rfl
  | _, _, .cons _ b => by rw [List.length_cons, List.length_cons, IsAll.len b]
theorem IsAll.get : ∀ {vs : List V} {ds : List D} {i : Nat} {d : D}, IsAll K μ H vs ds → ds[i]? = some d → ∃ v, vs[i]? = some v ∧ Is K μ H v d
  | _, _, _, _, .nil, e => by simp at e
  | _, _, 0, _, .cons a _, e => by simp at e; subst e; exact ⟨_, rfl, a⟩
  | _, _, i + 1, _, .cons _ b, e => by
    obtain ⟨v, e1, h⟩ := IsAll.get (i := i) b (by simpa using e)
    exact ⟨v, by simpa using e1, h⟩
theorem IsAll.app : ∀ {vs us : List V} {ds es : List D}, IsAll K μ H vs ds → IsAll K μ H us es → IsAll K μ H (vs ++ us) (ds ++ es)
  | _, _, _, _, .nil, h => h
  | _, _, _, _, .cons a b, h => .cons a (IsAll.app b h)
theorem IsAll.take : ∀ {vs : List V} {ds : List D} (n : Nat), IsAll K μ H vs ds → IsAll K μ H (vs.take n) (ds.take n)
  | _, _, 0, _ => by simp; exact .nil
  | _, _, _ + 1, .nil => .nil
  | _, _, n + 1, .cons a b => .cons a (IsAll.take n b)
theorem IsAll.drop : ∀ {vs : List V} {ds : List D} (n : Nat), IsAll K μ H vs ds → IsAll K μ H (vs.drop n) (ds.drop n)
  | _, _, 0, h => h
  | _, _, _ + 1, .nil => .nil
  | _, _, n + 1, .cons _ b => IsAll.drop n b
theorem IsAll.set {v : V} {d : D} (h : Is K μ H v d) : ∀ {vs : List V} {ds : List D} (i : Nat), IsAll K μ H vs ds → IsAll K μ H (vs.set i v) (ds.set i d)
  | _, _, _, .nil => .nil
  | _, _, 0, .cons _ b => .cons h b
  | _, _, i + 1, .cons a b => .cons a (IsAll.set h i b)
theorem IsAll.erase : ∀ {vs : List V} {ds : List D} (i : Nat), IsAll K μ H vs ds → IsAll K μ H (vs.eraseIdx i) (ds.eraseIdx i)
  | _, _, _, .nil => .nil
  | _, _, 0, .cons _ b => b
  | _, _, i + 1, .cons a b => .cons a (IsAll.erase i b)
theorem IsAll.rev {vs : List V} {ds : List D} (h : IsAll K μ H vs ds) : IsAll K μ H vs.reverse ds.reverse := by
  have go : ∀ {vs : List V} {ds : List D} {us : List V} {es : List D}, IsAll K μ H vs ds → IsAll K μ H us es → IsAll K μ H (vs.reverseAux us) (ds.reverseAux es) := by
    intro vs
    induction vs with
    | nil => intro ds us es h g; cases h; exact g
    | cons v vs ih => intro ds us es h g; cases h with | @cons _ _ d ds a b => exact ih (ds := ds) (us := v :: us) (es := d :: es) b (.cons a g)
  exact go h .nil
theorem IsAll.rep {vs : List V} {ds : List D} (h : IsAll K μ H vs ds) : ∀ k : Nat, IsAll K μ H (List.replicate k vs).flatten (List.replicate k ds).flatten
  | 0 => .nil
  | k + 1 => by rw [List.replicate_succ, List.replicate_succ, List.flatten_cons, List.flatten_cons]; exact h.app (IsAll.rep h k)
theorem IsAll.dropLast {vs : List V} {ds : List D} (h : IsAll K μ H vs ds) : IsAll K μ H vs.dropLast ds.dropLast := by
  rw [List.dropLast_eq_take, List.dropLast_eq_take, h.len]; exact h.take _
theorem isAll_ints : ∀ ns : List Int, IsAll K μ H (ns.map V.int) (ns.map D.int)
  | [] => .nil
  | n :: ns => .cons (.int n) (isAll_ints ns)
theorem vs_ints : ∀ {ns : List Int} {vs : List V}, IsAll K μ H vs (ns.map D.int) → vs = ns.map V.int
  | [], _, .nil => rfl
  | n :: ns, _, .cons (.int _) b => by rw [vs_ints b]; rfl
theorem vs_strs : ∀ {ns : List Str} {vs : List V}, IsAll K μ H vs (ns.map D.str) → vs = ns.map V.str
  | [], _, .nil => rfl
  | n :: ns, _, .cons (.str _) b => by rw [vs_strs b]; rfl
theorem vs_bls : ∀ {ns : List Bool} {vs : List V}, IsAll K μ H vs (ns.map D.bl) → vs = ns.map V.bl
  | [], _, .nil => rfl
  | n :: ns, _, .cons (.bl _) b => by rw [vs_bls b]; rfl
end
/-- how a part of the store stands in the heap -/
def MOk (K : PySem.W.Frag) (μ : Mu) (H : Hp) (a : Addr) : MO → Prop
  | .lst ds => ∃ vs, H a = some (.lst vs) ∧ IsAll K μ H vs ds
  | .dic ks ds => ∃ vs, H a = some (.dK (ks.zip vs)) ∧ ks.length = vs.length ∧ IsAll K μ H vs ds
  | .ins C ns ds => ∃ dx vs, H a = some (.ins C dx (ns.zip vs)) ∧ ns.length = vs.length ∧ IsAll K μ H vs ds
  | .raw o => H a = some o ∧ (∀ ps, o ≠ .tbl ps) ∧ ∀ φ, o ≠ .ext φ
structure Sto (K : PySem.W.Frag) (T : List (Addr × Str)) (μ : Mu) (H : Hp) : Prop where
  mo : ∀ a m, μ a = some m → MOk K μ H a m
  tab : LamX.Tabs T H
theorem MOk.there {K : PySem.W.Frag} {μ : Mu} {H : Hp} {a : Addr} {m : MO} (h : MOk K μ H a m) : ∃ o, H a = some o ∧ (∀ ps, o ≠ .tbl ps) ∧ ∀ φ, o ≠ .ext φ := by
  cases m with
  | lst ds => obtain ⟨vs, h, _⟩ := h; exact ⟨_, h, nofun, nofun⟩
  | dic ks ds => obtain ⟨vs, h, _⟩ := h; exact ⟨_, h, nofun, nofun⟩
  | ins C ns ds => obtain ⟨dx, vs, h, _⟩ := h; exact ⟨_, h, nofun, nofun⟩
  | raw o => exact ⟨o, h⟩
theorem MOk.at_ {K : PySem.W.Frag} {μ μ' : Mu} {H H' : Hp} {a : Addr} {m : MO} (h : MOk K μ H a m) (s : Step μ H μ' H') (e : H' a = H a) : MOk K μ' H' a m := by
  cases m with
  | lst ds => obtain ⟨vs, h, i⟩ := h; exact ⟨vs, by rw [e]; exact h, i.step s⟩
  | dic ks ds => obtain ⟨vs, h, l, i⟩ := h; exact ⟨vs, by rw [e]; exact h, l, i.step s⟩
  | ins C ns ds => obtain ⟨dx, vs, h, l, i⟩ := h; exact ⟨dx, vs, by rw [e]; exact h, l, i.step s⟩
  | raw o => exact ⟨by rw [e]; exact h.1, h.2⟩
section
variable {K : PySem.W.Frag} {T : List (Addr × Str)} {μ : Mu} {H : Hp} {p a : Addr} {o : HO} {m m' : MO}
theorem Sto.free (st : Sto K T μ H) (h : H p = none) : μ p = none := by
  match e : μ p with
  | none => rfl
  | some m => obtain ⟨o, h2, _⟩ := (st.mo p m e).there; rw [h] at h2; cases h2
/-- a new thing that stays -/
theorem step_new (h : H p = none) (n : μ p = none) : Step μ H μ (upd H p o) := fun b u e me _ => ⟨by rw [upd_ne (ne_of_none e h)]; exact e, me⟩
theorem Sto.new (st : Sto K T μ H) (h : H p = none) : Sto K T μ (upd H p o) := by
  have s := step_new (o := o) h (st.free h)
  refine ⟨fun b m e => (st.mo b m e).at_ s ?_, st.tab.ext fun b u e => by rw [upd_ne (ne_of_none e h)]; exact e⟩
  obtain ⟨u, hu, _⟩ := (st.mo b m e).there
  rw [upd_ne (ne_of_none hu h)]
/-- a new thing that may change -/
theorem step_newM (h : H p = none) : Step μ H (μ.set p m) (upd H p o) := fun b u e me _ => by
  have n := ne_of_none e h
  exact ⟨by rw [upd_ne n]; exact e, by rw [Mu.ne n]; exact me⟩
theorem Sto.newM (st : Sto K T μ H) (h : H p = none) (k : MOk K (μ.set p m) (upd H p o) p m) : Sto K T (μ.set p m) (upd H p o) := by
  have s := step_newM (μ := μ) (m := m) (o := o) h
  refine ⟨fun b n e => ?_, st.tab.ext fun b u e => by rw [upd_ne (ne_of_none e h)]; exact e⟩
  by_cases hb : b = p
  · subst hb; rw [Mu.same] at e; cases e; exact k
  · rw [Mu.ne hb] at e
    obtain ⟨u, hu, _⟩ := (st.mo b n e).there
    exact (st.mo b n e).at_ s (by rw [upd_ne (ne_of_none hu h)])
/-- a part of the store is changed -/
theorem step_set (e : μ a = some m) : Step μ H (μ.set a m') (upd H a o) := fun b u h me _ => by
  have n : b ≠ a := fun z => by rw [z, e] at me; cases me
  exact ⟨by rw [upd_ne n]; exact h, by rw [Mu.ne n]; exact me⟩
theorem Sto.set (st : Sto K T μ H) (e : μ a = some m) (k : MOk K (μ.set a m') (upd H a o) a m') : Sto K T (μ.set a m') (upd H a o) := by
  have s := step_set (H := H) (m' := m') (o := o) e
  obtain ⟨u, hu, n1, n2⟩ := (st.mo a m e).there
  refine ⟨fun b n q => ?_, tabs_extAt st.tab hu n1 n2 (fun b u n e => by rw [upd_ne n]; exact e)⟩
  by_cases hb : b = a
  · subst hb; rw [Mu.same] at q; cases q; exact k
  · rw [Mu.ne hb] at q
    exact (st.mo b n q).at_ s (by rw [upd_ne hb])
/-- a part of the store changes no more -/
theorem step_del : Step μ H (μ.del a) H := fun b u h me _ => ⟨h, by unfold Mu.del; split; rfl; exact me⟩
theorem Sto.del (st : Sto K T μ H) : Sto K T (μ.del a) H := ⟨fun b n q => by
  unfold Mu.del at q
  split at q
  · cases q
  · exact (st.mo b n q).at_ step_del rfl, st.tab⟩
theorem Sto.is_lst (st : Sto K T μ H) {ds : List D} (e : μ a = some (.lst ds)) : Is K (μ.del a) H (.ref a) (.lst ds) := by
  obtain ⟨vs, h, i⟩ := st.mo a _ e
  exact .lst ⟨Mu.dsame, h⟩ (i.step step_del)
theorem Sto.is_obj (st : Sto K T μ H) {C : Addr} {ns : List Str} {ds : List D} (e : μ a = some (.ins C ns ds)) : Is K (μ.del a) H (.ref a) (.obj C ns ds) := by
  obtain ⟨dx, vs, h, l, i⟩ := st.mo a _ e
  exact .obj Mu.dsame h l (i.step step_del)
theorem Sto.is_dic (st : Sto K T μ H) {ks : List Key} {ds : List D} (e : μ a = some (.dic ks ds)) : Is K (μ.del a) H (.ref a) (.dic ks ds) := by
  obtain ⟨vs, h, l, i⟩ := st.mo a _ e
  exact .dic Mu.dsame h l (i.step step_del)
end
/-! ### slots, ends, readings over trees -/
abbrev Ro := List (Option D)
abbrev WK := D → Mu → Prop
abbrev EV := Addr → List Str → List D → Mu → Prop
abbrev WE := Ro → Mu → EV → WK → Prop
abbrev WT := Ro → Mu → EV → (Bool → Mu → Prop) → Prop
abbrev WA := Ro → Mu → EV → (List D → Mu → Prop) → Prop
abbrev WG := D → Ro → Mu → EV → (Ro → Mu → Prop) → Prop
abbrev WGs := List D → Ro → Mu → EV → (Ro → Mu → Prop) → Prop
structure VEnds where
  nx : Ro → Mu → Prop
  rt : WK
  bk : Ro → Mu → Prop := fun _ _ => False
  ct : Ro → Mu → Prop := fun _ _ => False
abbrev WS := VEnds → Ro → Mu → EV → Prop
abbrev VSp := List D → Mu → EV → WK → Prop
def Sl (K : PySem.W.Frag) (μ : Mu) (H : Hp) (σ : L2.St) (ρ : Ro) : Prop := σ.length = ρ.length ∧ ∀ (i : Nat) (d : D), ρ[i]? = some (some d) → ∃ v, σ[i]? = some (some v) ∧ Is K μ H v d
def XOk (K : PySem.W.Frag) (T : List (Addr × Str)) (μ : Mu) (H : Hp) (ev : EV) (E : XK) : Prop := ∀ (C : Addr) (ns : List Str) (ds : List D) (vs : List V) (dd : Addr) (μ' : Mu) (H' : Hp), ev C ns ds μ' → H' dd = some (.xd (ns.zip vs)) → μ' dd = none → ns.length = vs.length → IsAll K μ' H' vs ds → Sto K T μ' H' → Step μ H μ' H' → E (.ref C) (some dd) H'
def EndsOk (K : PySem.W.Frag) (T : List (Addr × Str)) (μ : Mu) (H : Hp) (DD : VEnds) (Dn : Ends) : Prop :=
  (∀ ρ' μ' σ' H', DD.nx ρ' μ' → Sl K μ' H' σ' ρ' → Sto K T μ' H' → Step μ H μ' H' → Dn.nx σ' H') ∧
  (∀ d μ' v H', DD.rt d μ' → Is K μ' H' v d → Sto K T μ' H' → Step μ H μ' H' → Dn.rt v H') ∧
  (∀ ρ' μ' σ' H', DD.bk ρ' μ' → Sl K μ' H' σ' ρ' → Sto K T μ' H' → Step μ H μ' H' → Dn.bk σ' H') ∧
  (∀ ρ' μ' σ' H', DD.ct ρ' μ' → Sl K μ' H' σ' ρ' → Sto K T μ' H' → Step μ H μ' H' → Dn.ct σ' H')
def KOk (K : PySem.W.Frag) (T : List (Addr × Str)) (μ : Mu) (H : Hp) (Φ : WK) (Q : VK) : Prop := ∀ d μ' v H', Φ d μ' → Is K μ' H' v d → Sto K T μ' H' → Step μ H μ' H' → Q v H'
section
variable (K : PySem.W.Frag) (T : List (Addr × Str)) (E : XK)
def up (w : WE) : TE := fun σ H Q => ∃ ρ μ ev Φ, Sl K μ H σ ρ ∧ Sto K T μ H ∧ XOk K T μ H ev E ∧ w ρ μ ev Φ ∧ KOk K T μ H Φ Q
def upT (w : WT) : TT := fun σ H Q => ∃ ρ μ ev Φ, Sl K μ H σ ρ ∧ Sto K T μ H ∧ XOk K T μ H ev E ∧ w ρ μ ev Φ ∧ ∀ b μ' H', Φ b μ' → Sto K T μ' H' → Step μ H μ' H' → Q b H'
def upA (w : WA) : TA := fun σ H Q => ∃ ρ μ ev Φ, Sl K μ H σ ρ ∧ Sto K T μ H ∧ XOk K T μ H ev E ∧ w ρ μ ev Φ ∧ ∀ ds μ' vs H', Φ ds μ' → IsAll K μ' H' vs ds → Sto K T μ' H' → Step μ H μ' H' → Q vs H'
def upG (w : WG) : TG := fun v σ H Q => ∃ d ρ μ ev Φ, Is K μ H v d ∧ Sl K μ H σ ρ ∧ Sto K T μ H ∧ XOk K T μ H ev E ∧ w d ρ μ ev Φ ∧ ∀ ρ' μ' σ' H', Φ ρ' μ' → Sl K μ' H' σ' ρ' → Sto K T μ' H' → Step μ H μ' H' → Q σ' H'
def upGs (w : WGs) : TGs := fun vs σ H Q => ∃ ds ρ μ ev Φ, IsAll K μ H vs ds ∧ Sl K μ H σ ρ ∧ Sto K T μ H ∧ XOk K T μ H ev E ∧ w ds ρ μ ev Φ ∧ ∀ ρ' μ' σ' H', Φ ρ' μ' → Sl K μ' H' σ' ρ' → Sto K T μ' H' → Step μ H μ' H' → Q σ' H'
def upS (w : WS) : TS := fun Dn σ H => ∃ ρ μ ev DD, Sl K μ H σ ρ ∧ Sto K T μ H ∧ XOk K T μ H ev E ∧ w DD ρ μ ev ∧ EndsOk K T μ H DD Dn
/-- a def's promise, told over trees -/
def lift (sp : VSp) : Sp := fun vs H Q E => ∃ ds μ ev Φ, IsAll K μ H vs ds ∧ Sto K T μ H ∧ XOk K T μ H ev E ∧ sp ds μ ev Φ ∧ KOk K T μ H Φ Q
end
section
variable {K : PySem.W.Frag} {T : List (Addr × Str)} {E : XK} {μ μ' μ1 : Mu} {H H' H1 : Hp} {σ : L2.St} {ρ : Ro} {ev : EV} {Φ : WK} {Q : VK} {DD : VEnds} {Dn : Ends}
theorem Sl.step (s : Step μ H μ' H') (e : Sl K μ H σ ρ) : Sl K μ' H' σ ρ := ⟨e.1, fun i d h => by
  obtain ⟨v, e1, e2⟩ := e.2 i d h
  exact ⟨v, e1, e2.step s⟩⟩
theorem Sl.set {v : V} {d : D} (e : Sl K μ H σ ρ) (i : Nat) (h : Is K μ H v d) : Sl K μ H (σ.set i (some v)) (ρ.set i (some d)) := by
  refine ⟨by rw [List.length_set, List.length_set]; exact e.1, fun j x q => ?_⟩
  by_cases hj : i = j
  · subst hj
    by_cases hl : i < ρ.length
    · rw [List.getElem?_set_self hl] at q
      cases q
      exact ⟨v, by rw [List.getElem?_set_self (by rw [e.1]; exact hl)], h⟩
    · rw [List.getElem?_eq_none (by rw [List.length_set]; omega)] at q; cases q
  · rw [List.getElem?_set_ne hj] at q
    obtain ⟨u, e1, e2⟩ := e.2 j x q
    exact ⟨u, by rw [List.getElem?_set_ne hj]; exact e1, e2⟩
theorem XOk.step (s : Step μ H μ' H') (x : XOk K T μ H ev E) : XOk K T μ' H' ev E := fun C ns ds vs dd m h a b c d e f g => x C ns ds vs dd m h a b c d e f (s.trans g)
theorem EndsOk.step (s : Step μ H μ' H') (x : EndsOk K T μ H DD Dn) : EndsOk K T μ' H' DD Dn :=
  ⟨fun a b c d e f g h => x.1 a b c d e f g (s.trans h), fun a b c d e f g h => x.2.1 a b c d e f g (s.trans h), fun a b c d e f g h => x.2.2.1 a b c d e f g (s.trans h), fun a b c d e f g h => x.2.2.2 a b c d e f g (s.trans h)⟩
theorem KOk.step (s : Step μ H μ' H') (x : KOk K T μ H Φ Q) : KOk K T μ' H' Φ Q := fun a b c d e f g h => x a b c d e f g (s.trans h)
/-- no exception is let out -/
def ev0 : EV := fun _ _ _ _ => False
theorem xok0 : XOk K T μ H ev0 E := fun _ _ _ _ _ _ _ z => z.elim
end
section
variable {X : Cx}
theorem pe_mono {e : Expr} {t t' : TE} (p : PE X e t) (h : ∀ σ H Q, t' σ H Q → t σ H Q) : PE X e t' := ⟨fun pins s σ H Q I q => p.run pins s σ H Q I (h σ H Q q)⟩
theorem pt_mono {e : Expr} {t t' : TT} (p : PT X e t) (h : ∀ σ H Q, t' σ H Q → t σ H Q) : PT X e t' := ⟨fun pins s σ H Q I q => p.run pins s σ H Q I (h σ H Q q)⟩
theorem pw_mono {e : Expr} {t t' : TT} (p : PW X e t) (h : ∀ σ H Q, t' σ H Q → t σ H Q) : PW X e t' := ⟨fun w pins s σ H Q I q => p.run w pins s σ H Q I (h σ H Q q)⟩
theorem pa_mono {e : List Expr} {t t' : TA} (p : PA X e t) (h : ∀ σ H Q, t' σ H Q → t σ H Q) : PA X e t' := ⟨fun pos pins s σ H Q I q => p.run pos pins s σ H Q I (h σ H Q q)⟩
theorem pk_mono {e : List Keyword} {t t' : TA} (p : PK X e t) (h : ∀ σ H Q, t' σ H Q → t σ H Q) : PK X e t' := ⟨fun pos pins s σ H Q I q => p.run pos pins s σ H Q I (h σ H Q q)⟩
theorem ps_mono {e : Stmt} {t t' : TS} (p : PS X e t) (h : ∀ D σ H, t' D σ H → t D σ H) : PS X e t' := ⟨fun pins s σ H D I q => p.run pins s σ H D I (h D σ H q)⟩
theorem pss_mono {e : List Stmt} {t t' : TS} (p : PSs X e t) (h : ∀ D σ H, t' D σ H → t D σ H) : PSs X e t' := ⟨fun pins s σ H D I q => p.run pins s σ H D I (h D σ H q)⟩
theorem pg_mono {e : Expr} {t t' : TG} (p : PG X e t) (h : ∀ v σ H Q, t' v σ H Q → t v σ H Q) : PG X e t' := ⟨fun pins s σ H v u Q I r q => p.run pins s σ H v u Q I r (h v σ H Q q)⟩
theorem pgs_mono {e : List Expr} {t t' : TGs} (p : PGs X e t) (h : ∀ v σ H Q, t' v σ H Q → t v σ H Q) : PGs X e t' := ⟨fun pins s σ H v u Q I r q => p.run pins s σ H v u Q I r (h v σ H Q q)⟩
end
end VL

set_option maxRecDepth 100000
set_option maxHeartbeats 4000000
/-! values as trees: expressions -/
namespace VL
open PySem L2 FW PyProof.Rows

/-! ### what is read of a value -/
def seqOf (μ : Mu) : D → Option (List D)
  | .lst ds => some ds
  | .tup ds => some ds
  | .sq ds => some ds
  | .ref a => match μ a with
    | some (.lst ds) => some ds
    | _ => none
  | _ => none
/-- lists alone -/
def lstOf (μ : Mu) : D → Option (List D)
  | .lst ds => some ds
  | .ref a => match μ a with
    | some (.lst ds) => some ds
    | _ => none
  | _ => none
def insOf (μ : Mu) : D → Option (Addr × List Str × List D)
  | .obj C ns ds => some (C, ns, ds)
  | .ref a => match μ a with
    | some (.ins C ns ds) => some (C, ns, ds)
    | _ => none
  | _ => none
/-- a changing thing, from now on one that stays -/
def frzOf (μ : Mu) (a : Addr) : Option D := match μ a with
  | some (.lst ds) => some (.lst ds)
  | some (.dic ks ds) => some (.dic ks ds)
  | some (.ins C ns ds) => some (.obj C ns ds)
  | _ => none
mutual
def toPy (μ : Mu) : D → Option PyData
  | .non => some .none
  | .bl b => some (.bool b)
  | .int i => some (.int i)
  | .str s => some (.str s)
  | .lst ds => (toPys μ ds).map .list
  | .sq ds => (toPys μ ds).map .list
  | .tup ds => (toPys μ ds).map .tuple
  | _ => none
def toPys (μ : Mu) : List D → Option (List PyData)
  | [] => some []
  | d :: ds => match toPy μ d, toPys μ ds with
    | some p, some ps => some (p :: ps)
    | _, _ => none
end
/-- of a changing list, too, at the top -/
def toPyT (μ : Mu) : D → Option PyData
  | .ref a => match μ a with
    | some (.lst ds) => (toPys μ ds).map .list
    | _ => none
  | d => toPy μ d
theorem seqOf_ref {μ : Mu} {a : Addr} {ds : List D} (e : seqOf μ (.ref a) = some ds) : μ a = some (.lst ds) := by
  have e2 : (match μ a with | some (.lst ds) => some ds | _ => none) = some ds := e
  cases q : μ a with
  | none => rw [q] at e2; cases e2
  | some m => rw [q] at e2; cases m <;> first | (cases e2; rfl) | cases e2
theorem lstOf_ref {μ : Mu} {a : Addr} {ds : List D} (e : lstOf μ (.ref a) = some ds) : μ a = some (.lst ds) := by
  have e2 : (match μ a with | some (.lst ds) => some ds | _ => none) = some ds := e
  cases q : μ a with
  | none => rw [q] at e2; cases e2
  | some m => rw [q] at e2; cases m <;> first | (cases e2; rfl) | cases e2
theorem insOf_ref {μ : Mu} {a C : Addr} {ns : List Str} {ds : List D} (e : insOf μ (.ref a) = some (C, ns, ds)) : μ a = some (.ins C ns ds) := by
  have e2 : (match μ a with | some (.ins C ns ds) => some (C, ns, ds) | _ => none) = some (C, ns, ds) := e
  cases q : μ a with
  | none => rw [q] at e2; cases e2
  | some m => rw [q] at e2; cases m <;> first | (cases e2; rfl) | cases e2
theorem frzOf_lst {μ : Mu} {a : Addr} {ds : List D} (e : μ a = some (.lst ds)) : frzOf μ a = some (.lst ds) := by unfold frzOf; rw [e]
theorem frzOf_ins {μ : Mu} {a C : Addr} {ns : List Str} {ds : List D} (e : μ a = some (.ins C ns ds)) : frzOf μ a = some (.obj C ns ds) := by unfold frzOf; rw [e]
theorem seqOf_of {μ : Mu} {a : Addr} {ds : List D} (e : μ a = some (.lst ds)) : seqOf μ (.ref a) = some ds := by show (match μ a with | some (.lst ds) => some ds | _ => none) = some ds; rw [e]
theorem lstOf_of {μ : Mu} {a : Addr} {ds : List D} (e : μ a = some (.lst ds)) : lstOf μ (.ref a) = some ds := by show (match μ a with | some (.lst ds) => some ds | _ => none) = some ds; rw [e]
theorem insOf_of {μ : Mu} {a C : Addr} {ns : List Str} {ds : List D} (e : μ a = some (.ins C ns ds)) : insOf μ (.ref a) = some (C, ns, ds) := by show (match μ a with | some (.ins C ns ds) => some (C, ns, ds) | _ => none) = some (C, ns, ds); rw [e]
section
variable {K : PySem.W.Frag} {T : List (Addr × Str)} {μ : Mu} {H : Hp}
theorem is_seq (st : Sto K T μ H) {v : V} {d : D} {ds : List D} (h : Is K μ H v d) (e : seqOf μ d = some ds) : ∃ a vs, v = .ref a ∧ (SqL K H a vs ∨ SqT K H a vs) ∧ IsAll K μ H vs ds := by
  cases h with
  | lst a i => simp [seqOf] at e; subst e; exact ⟨_, _, rfl, .inl a.sq, i⟩
  | sq a i => simp [seqOf] at e; subst e; exact ⟨_, _, rfl, .inl a.sq, i⟩
  | tup a i => simp [seqOf] at e; subst e; exact ⟨_, _, rfl, .inr a.sq, i⟩
  | ref a =>
    obtain ⟨vs, h1, h2⟩ := st.mo _ _ (seqOf_ref e)
    exact ⟨_, vs, rfl, .inl (SqL.of h1), h2⟩
  | _ => simp [seqOf] at e
theorem is_lst (st : Sto K T μ H) {v : V} {d : D} {ds : List D} (h : Is K μ H v d) (e : lstOf μ d = some ds) : ∃ a vs, v = .ref a ∧ H a = some (.lst vs) ∧ IsAll K μ H vs ds := by
  cases h with
  | lst a i => simp [lstOf] at e; subst e; exact ⟨_, _, rfl, a.2, i⟩
  | ref a =>
    obtain ⟨vs, h1, h2⟩ := st.mo _ _ (lstOf_ref e)
    exact ⟨_, vs, rfl, h1, h2⟩
  | _ => simp [lstOf] at e
theorem is_ins (st : Sto K T μ H) {v : V} {d : D} {C : Addr} {ns : List Str} {ds : List D} (h : Is K μ H v d) (e : insOf μ d = some (C, ns, ds)) : ∃ a dx vs, v = .ref a ∧ H a = some (.ins C dx (ns.zip vs)) ∧ ns.length = vs.length ∧ IsAll K μ H vs ds := by
  cases h with
  | obj m h l i => simp [insOf] at e; obtain ⟨rfl, rfl, rfl⟩ := e; exact ⟨_, _, _, rfl, h, l, i⟩
  | ref a =>
    obtain ⟨dx, vs, h1, h2, h3⟩ := st.mo _ _ (insOf_ref e)
    exact ⟨_, dx, vs, rfl, h1, h2, h3⟩
  | _ => simp [insOf] at e
theorem is_frz (st : Sto K T μ H) {a : Addr} {d : D} (e : frzOf μ a = some d) : Is K (μ.del a) H (.ref a) d := by
  unfold frzOf at e
  split at e
  · rename_i q; cases e; exact st.is_lst q
  · rename_i q; cases e; exact st.is_dic q
  · rename_i q; cases e; exact st.is_obj q
  · cases e
mutual
theorem is_py : ∀ {d : D} {v : V} {p : PyData}, Is K μ H v d → toPy μ d = some p → Dp K H v p
  | .non, _, _, .non, e => by simp [toPy] at e; subst e; exact .non
  | .bl b, _, _, .bl _, e => by simp [toPy] at e; subst e; exact .bl b
  | .int i, _, _, .int _, e => by simp [toPy] at e; subst e; exact .int i
  | .str s, _, _, .str _, e => by simp [toPy] at e; subst e; exact .str s
  | .lst ds, _, _, .lst a i, e => by
    simp [toPy] at e; obtain ⟨ps, h, rfl⟩ := e; exact .lst a.sq (is_pys i h)
  | .sq ds, _, _, .sq a i, e => by
    simp [toPy] at e; obtain ⟨ps, h, rfl⟩ := e; exact .lst a.sq (is_pys i h)
  | .tup ds, _, _, .tup a i, e => by
    simp [toPy] at e; obtain ⟨ps, h, rfl⟩ := e; exact .tup a.sq (is_pys i h)
  | .ref _, _, _, _, e => by simp [toPy] at e
  | .ty _, _, _, _, e => by simp [toPy] at e
  | .dic _ _, _, _, _, e => by simp [toPy] at e
  | .obj _ _ _, _, _, _, e => by simp [toPy] at e
  | .exc _ _ _, _, _, _, e => by simp [toPy] at e
theorem is_pys : ∀ {ds : List D} {vs : List V} {ps : List PyData}, IsAll K μ H vs ds → toPys μ ds = some ps → DpAll K H vs ps
  | [], _, _, .nil, e => by simp [toPys] at e; subst e; exact .nil
  | d :: ds, _, _, .cons a b, e => by
    unfold toPys at e
    split at e
    · rename_i p ps h1 h2
      cases e
      exact .cons (is_py a h1) (is_pys b h2)
    · cases e
end
theorem is_pyT (st : Sto K T μ H) {v : V} {d : D} {p : PyData} (h : Is K μ H v d) (e : toPyT μ d = some p) : Dp K H v p := by
  unfold toPyT at e
  split at e
  · rename_i a
    split at e
    · rename_i ds q
      cases h
      obtain ⟨vs, h1, h2⟩ := st.mo _ _ q
      cases hp : toPys μ ds with
      | none => rw [hp] at e; cases e
      | some ps => rw [hp] at e; cases e; exact .lst (SqL.of h1) (is_pys h2 hp)
    · cases e
  · exact is_py h e
end
/-! ### pieces of readings: what an operator, a built-in does -/
abbrev V2 := D → D → Mu → WK → Prop
abbrev V1 := D → Mu → WK → Prop
abbrev VL_ := List D → Mu → WK → Prop
def Sim2 (K : PySem.W.Frag) (T : List (Addr × Str)) (r : R2) (rd : V2) : Prop := ∀ x y v w μ H Φ Q, Is K μ H v x → Is K μ H w y → Sto K T μ H → rd x y μ Φ → KOk K T μ H Φ Q → r v w H Q
def Sim1 (K : PySem.W.Frag) (T : List (Addr × Str)) (r : V → Hp → VK → Prop) (rd : V1) : Prop := ∀ x v μ H Φ Q, Is K μ H v x → Sto K T μ H → rd x μ Φ → KOk K T μ H Φ Q → r v H Q
def SimL (K : PySem.W.Frag) (T : List (Addr × Str)) (r : List V → Hp → VK → Prop) (rd : VL_) : Prop := ∀ xs vs μ H Φ Q, IsAll K μ H vs xs → Sto K T μ H → rd xs μ Φ → KOk K T μ H Φ Q → r vs H Q
section
variable {K : PySem.W.Frag} {T : List (Addr × Str)} {μ : Mu} {H : Hp} {Φ : WK} {Q : VK}
theorem KOk.now {d : D} {v : V} (k : KOk K T μ H Φ Q) (h : Φ d μ) (i : Is K μ H v d) (st : Sto K T μ H) : Q v H := k d μ v H h i st (Step.refl _ _)
/-- a new list or tuple that stays -/
theorem KOk.lst {vs : List V} {ds : List D} (k : KOk K T μ H Φ Q) (h : Φ (.lst ds) μ) (i : IsAll K μ H vs ds) (st : Sto K T μ H) (p : Addr) (hp : H p = none) : Q (.ref p) (upd H p (.lst vs)) :=
  have s := step_new (o := .lst vs) hp (st.free hp)
  k _ μ _ _ h (.lst ⟨st.free hp, upd_same⟩ (i.step s)) (st.new hp) s
theorem KOk.tup {vs : List V} {ds : List D} (k : KOk K T μ H Φ Q) (h : Φ (.tup ds) μ) (i : IsAll K μ H vs ds) (st : Sto K T μ H) (p : Addr) (hp : H p = none) : Q (.ref p) (upd H p (.tup vs)) :=
  have s := step_new (o := .tup vs) hp (st.free hp)
  k _ μ _ _ h (.tup (.inl ⟨st.free hp, upd_same⟩) (i.step s)) (st.new hp) s
/-- a new list that may change -/
theorem KOk.lstM {vs : List V} {ds : List D} (k : KOk K T μ H Φ Q) (h : ∀ p, μ p = none → Φ (.ref p) (μ.set p (.lst ds))) (i : IsAll K μ H vs ds) (st : Sto K T μ H) (p : Addr) (hp : H p = none) : Q (.ref p) (upd H p (.lst vs)) :=
  have s := step_newM (μ := μ) (m := .lst ds) (o := .lst vs) hp
  k _ _ _ _ (h p (st.free hp)) (.ref p) (st.newM hp ⟨vs, upd_same, i.step s⟩) s
theorem KOk.dicM {ks : List Key} {vs : List V} {ds : List D} (k : KOk K T μ H Φ Q) (h : ∀ p, μ p = none → Φ (.ref p) (μ.set p (.dic ks ds))) (i : IsAll K μ H vs ds) (l : ks.length = vs.length) (st : Sto K T μ H) (p : Addr) (hp : H p = none) : Q (.ref p) (upd H p (.dK (ks.zip vs))) :=
  have s := step_newM (μ := μ) (m := .dic ks ds) (o := .dK (ks.zip vs)) hp
  k _ _ _ _ (h p (st.free hp)) (.ref p) (st.newM hp ⟨vs, upd_same, l, i.step s⟩) s
theorem KOk.dic {ks : List Key} {vs : List V} {ds : List D} (k : KOk K T μ H Φ Q) (h : Φ (.dic ks ds) μ) (i : IsAll K μ H vs ds) (l : ks.length = vs.length) (st : Sto K T μ H) (p : Addr) (hp : H p = none) : Q (.ref p) (upd H p (.dK (ks.zip vs))) :=
  have s := step_new (o := .dK (ks.zip vs)) hp (st.free hp)
  k _ μ _ _ h (.dic (st.free hp) upd_same l (i.step s)) (st.new hp) s
/-- a list in the store is changed -/
theorem KOk.setL {a : Addr} {m : MO} {vs : List V} {ds : List D} {d : D} {v : V} (k : KOk K T μ H Φ Q) (e : μ a = some m) (h : Φ d (μ.set a (.lst ds))) (i : IsAll K μ H vs ds) (iv : Is K μ H v d) (st : Sto K T μ H) : Q v (upd H a (.lst vs)) :=
  have s := step_set (H := H) (m' := .lst ds) (o := .lst vs) e
  k _ _ _ _ h (iv.step s) (st.set e ⟨vs, upd_same, i.step s⟩) s
end
def isNon : D → Bool
  | .non => true
  | _ => false
theorem isNon_v {K : PySem.W.Frag} {μ : Mu} {H : Hp} {v : V} {x : D} (h : Is K μ H v x) : decide (v = .non) = isNon x := by cases h <;> rfl
def vIsN : V1 := fun x μ Φ => Φ (.bl (isNon x)) μ
def vNotN : V1 := fun x μ Φ => Φ (.bl (!isNon x)) μ
/-! ### combinators -/
def wVar (i : Nat) : WE := fun ρ μ _ Φ => ∃ d, ρ[i]? = some (some d) ∧ Φ d μ
def wC (d : D) : WE := fun _ μ _ Φ => Φ d μ
def wZ (w : WE) : WE := fun ρ μ ev Φ => w ρ μ ev fun d μ1 => ∃ a t, d = .ref a ∧ frzOf μ1 a = some t ∧ Φ t (μ1.del a)
def wOp (r : V2) (wa wb : WE) : WE := fun ρ μ ev Φ => wa ρ μ ev fun x μ1 => wb ρ μ1 ev fun y μ2 => r x y μ2 Φ
def wUn (r : V1) (wa : WE) : WE := fun ρ μ ev Φ => wa ρ μ ev fun x μ1 => r x μ1 Φ
def wNil : WA := fun _ μ _ Φ => Φ [] μ
def wCons (wa : WE) (w : WA) : WA := fun ρ μ ev Φ => wa ρ μ ev fun x μ1 => w ρ μ1 ev fun xs μ2 => Φ (x :: xs) μ2
def wStar (wa : WE) (w : WA) : WA := fun ρ μ ev Φ => wa ρ μ ev fun x μ1 => ∃ ds, seqOf μ1 x = some ds ∧ w ρ μ1 ev fun xs μ2 => Φ (ds ++ xs) μ2
def wCB (r : VL_) (w : WA) : WE := fun ρ μ ev Φ => w ρ μ ev fun xs μ1 => r xs μ1 Φ
def wTup (w : WA) : WE := fun ρ μ ev Φ => w ρ μ ev fun xs μ1 => xs.length ≤ sizeLine ∧ Φ (.tup xs) μ1
def wLst (w : WA) : WE := fun ρ μ ev Φ => w ρ μ ev fun xs μ1 => xs.length ≤ sizeLine ∧ Φ (.lst xs) μ1
def wLstM (w : WA) : WE := fun ρ μ ev Φ => w ρ μ ev fun xs μ1 => xs.length ≤ sizeLine ∧ ∀ p, μ1 p = none → Φ (.ref p) (μ1.set p (.lst xs))
def wDicM : WE := fun _ μ _ Φ => ∀ p, μ p = none → Φ (.ref p) (μ.set p (.dic [] []))
def wDic : WE := fun _ μ _ Φ => Φ (.dic [] []) μ
def wTest (w : WE) : WT := fun ρ μ ev Φ => w ρ μ ev fun x μ1 => ∃ c, x = .bl c ∧ Φ c μ1
def wAnd (t u : WT) : WT := fun ρ μ ev Φ => t ρ μ ev fun c μ1 => if c = true then u ρ μ1 ev Φ else Φ false μ1
def wOr (t u : WT) : WT := fun ρ μ ev Φ => t ρ μ ev fun c μ1 => if c = true then Φ true μ1 else u ρ μ1 ev Φ
def wNot (t : WT) : WT := fun ρ μ ev Φ => t ρ μ ev fun c μ1 => Φ (!c) μ1
def wAndV (wa wb : WE) : WE := fun ρ μ ev Φ => wa ρ μ ev fun x μ1 => ∃ c, x = .bl c ∧ if c = true then wb ρ μ1 ev Φ else Φ (.bl false) μ1
def wOrV (wa wb : WE) : WE := fun ρ μ ev Φ => wa ρ μ ev fun x μ1 => ∃ c, x = .bl c ∧ if c = true then Φ (.bl true) μ1 else wb ρ μ1 ev Φ
def wNotV (wa : WE) : WE := fun ρ μ ev Φ => wa ρ μ ev fun x μ1 => ∃ c, x = .bl c ∧ Φ (.bl (!c)) μ1
def wIf (t : WT) (wa wb : WE) : WE := fun ρ μ ev Φ => t ρ μ ev fun c μ1 => if c = true then wa ρ μ1 ev Φ else wb ρ μ1 ev Φ
def wChain (r r' : V2) (wa wb wc : WE) : WE := fun ρ μ ev Φ => wa ρ μ ev fun x μ1 => wb ρ μ1 ev fun y μ2 => r x y μ2 fun z μ3 => ∃ k, z = .bl k ∧ if k = true then wc ρ μ3 ev fun u μ4 => r' y u μ4 Φ else Φ (.bl false) μ3
abbrev WO := Ro → Mu → EV → (Option Int → Mu → Prop) → Prop
def wNoPart : WO := fun _ μ _ Φ => Φ none μ
def wPart (w : WE) : WO := fun ρ μ ev Φ => w ρ μ ev fun x μ1 => ∃ i, x = .int i ∧ Φ (some i) μ1
def upO (K : PySem.W.Frag) (T : List (Addr × Str)) (E : XK) (w : WO) : TO := fun σ H Q => ∃ ρ μ ev Φ, Sl K μ H σ ρ ∧ Sto K T μ H ∧ XOk K T μ H ev E ∧ w ρ μ ev Φ ∧ ∀ o μ' H', Φ o μ' → Sto K T μ' H' → Step μ H μ' H' → Q o H'
abbrev VS := D → Option Int → Option Int → Mu → WK → Prop
def wSl (r : VS) (w : WE) (l h : WO) : WE := fun ρ μ ev Φ => w ρ μ ev fun x μ1 => l ρ μ1 ev fun lo μ2 => h ρ μ2 ev fun hi μ3 => r x lo hi μ3 Φ
def SimS (K : PySem.W.Frag) (T : List (Addr × Str)) (r : V → Option Int → Option Int → Hp → VK → Prop) (rd : VS) : Prop := ∀ x v lo hi μ H Φ Q, Is K μ H v x → Sto K T μ H → rd x lo hi μ Φ → KOk K T μ H Φ Q → r v lo hi H Q
section
variable {X : Cx} {T : List (Addr × Str)} {E : XK} {e a b c : Expr} {pos : Pos} {rest : List Expr}
theorem ve_var {i : Nat} {x : Str} {pos : Pos} (hN : X.N[i]? = some x) (hv : Vis X.env.scope x) (hd : (x == ("__debug__" : Str)) = false := by decide) (hcd : (x == ("__classdict__" : Str)) = false := by decide) : PE X (.Name x pos) (up X.K T E (wVar i)) :=
  pe_mono (pe_var hN hv hd hcd) fun σ H Q ⟨ρ, μ, ev, Φ, en, st, xo, ⟨d, hd, h⟩, k⟩ => by
    obtain ⟨v, e1, e2⟩ := en.2 i d hd
    exact ⟨v, e1, k.now h e2 st⟩
theorem ve_c {v : V} {d : D} (p : PE X e (tC v)) (hi : ∀ μ H, Is X.K μ H v d) : PE X e (up X.K T E (wC d)) :=
  pe_mono p fun σ H Q ⟨ρ, μ, ev, Φ, en, st, xo, h, k⟩ => k.now h (hi μ H) st
theorem ve_int {i : Int} {j} {pos : Pos} : PE X (.Constant (.int i) j pos) (up X.K T E (wC (.int i))) := ve_c pe_int fun _ _ => .int i
theorem ve_bl {i : Bool} {j} {pos : Pos} : PE X (.Constant (.bool i) j pos) (up X.K T E (wC (.bl i))) := ve_c pe_bl fun _ _ => .bl i
theorem ve_str {i : Str} {j} {pos : Pos} : PE X (.Constant (.str i) j pos) (up X.K T E (wC (.str i))) := ve_c pe_str fun _ _ => .str i
theorem ve_non {j} {pos : Pos} : PE X (.Constant .none j pos) (up X.K T E (wC .non)) := ve_c pe_non fun _ _ => .non
/-- a constant of the text -/
theorem ve_gc {x : Str} {v : V} {d : D} {pos : Pos} (hg : Gl X x) (h : ∃ u, X.mg x = some u ∧ RelV v u) (hi : ∀ μ H, Is X.K μ H v d) (hd : (x == ("__debug__" : Str)) = false := by decide) : PE X (.Name x pos) (up X.K T E (wC d)) := ve_c (pe_gc hg h hd) hi
theorem ve_gref {x : Str} {f : Addr} {pos : Pos} (hg : Gl X x) (h : X.mg x = some (.ref f)) (hd : (x == ("__debug__" : Str)) = false := by decide) : PE X (.Name x pos) (up X.K T E (wC (.ref f))) := ve_c (v := .ref f) (pe_gc hg ⟨_, h, rfl⟩ hd) fun _ _ => .ref f
/-- a built-in class's name -/
theorem ve_ty {x : Str} {n : String} {pos : Pos} (hg : Gl X x) (hm : X.mg x = none) (hv : bootBuiltins x = some (.type n)) (hn : x ≠ "__name__" := by decide) (hd : (x == ("__debug__" : Str)) = false := by decide) : PE X (.Name x pos) (up X.K T E (wC (.ty n))) :=
  ve_c (pe_bltn hg hm hv (v := .ty n) rfl hn hd) fun _ _ => .ty n
theorem ve_z {w : WE} (h : PE X e (up X.K T E w)) : PE X e (up X.K T E (wZ w)) :=
  pe_mono h fun σ H Q ⟨ρ, μ, ev, Φ, en, st, xo, h, k⟩ => ⟨ρ, μ, ev, _, en, st, xo, h, fun d μ1 v H1 ⟨a, t, e1, e2, q⟩ i st1 s => by
    subst e1
    cases i with
    | ref a => exact k _ _ _ _ q (is_frz st1 e2) st1.del (s.trans step_del)⟩
theorem ve_op {op : Operator} {r : R2} {rd : V2} {wa wb : WE} (ho : OpR X (binaryOp op) r) (sim : Sim2 X.K T r rd) (ha : PE X a (up X.K T E wa)) (hb : PE X b (up X.K T E wb)) : PE X (.BinOp a op b pos) (up X.K T E (wOp rd wa wb)) :=
  pe_mono (pe_op ho ha hb) fun σ H Q ⟨ρ, μ, ev, Φ, en, st, xo, h, k⟩ => ⟨ρ, μ, ev, _, en, st, xo, h, fun x μ1 v H1 hx ix st1 s1 =>
    ⟨ρ, μ1, ev, _, en.step s1, st1, xo.step s1, hx, fun y μ2 w H2 hy iy st2 s2 => sim x y v w μ2 H2 Φ Q (ix.step s2) iy st2 hy (k.step (s1.trans s2))⟩⟩
theorem ve_un {op : UnaryOp} {r : V → Hp → VK → Prop} {rd : V1} {wa : WE} (ho : UnR X (unaryOp op) r) (sim : Sim1 X.K T r rd) (ha : PE X a (up X.K T E wa)) : PE X (.UnaryOp op a pos) (up X.K T E (wUn rd wa)) :=
  pe_mono (pe_un ho ha) fun σ H Q ⟨ρ, μ, ev, Φ, en, st, xo, h, k⟩ => ⟨ρ, μ, ev, _, en, st, xo, h, fun x μ1 v H1 hx ix st1 s1 => sim x v μ1 H1 Φ Q ix st1 hx (k.step s1)⟩
theorem ve_cmp {op : CmpOp} {r : R2} {rd : V2} {wa wb : WE} (ho : OpR X (compareOp op) r) (sim : Sim2 X.K T r rd) (ha : PE X a (up X.K T E wa)) (hb : PE X b (up X.K T E wb)) (hm : behindInMarks op b = false) : PE X (.Compare a [op] [b] pos) (up X.K T E (wOp rd wa wb)) :=
  pe_mono (pe_cmpR ho ha hb hm) fun σ H Q ⟨ρ, μ, ev, Φ, en, st, xo, h, k⟩ => ⟨ρ, μ, ev, _, en, st, xo, h, fun x μ1 v H1 hx ix st1 s1 =>
    ⟨ρ, μ1, ev, _, en.step s1, st1, xo.step s1, hx, fun y μ2 w H2 hy iy st2 s2 => sim x y v w μ2 H2 Φ Q (ix.step s2) iy st2 hy (k.step (s1.trans s2))⟩⟩
/-- one of both is known to be None -/
theorem ve_isN {wa : WE} {j} {pos' : Pos} (ha : PE X a (up X.K T E wa)) : PE X (.Compare a [.Is] [.Constant .none j pos'] pos) (up X.K T E (wUn vIsN wa)) :=
  pe_mono (pe_cmp (pc_isN ha)) fun σ H Q ⟨ρ, μ, ev, Φ, en, st, xo, h, k⟩ => ⟨ρ, μ, ev, _, en, st, xo, h, fun x μ1 v H1 hx ix st1 s1 => by
    show Q (.bl (decide (v = .non))) H1
    rw [isNon_v ix]; exact (k.step s1).now hx (.bl _) st1⟩
theorem ve_notN {wa : WE} {j} {pos' : Pos} (ha : PE X a (up X.K T E wa)) : PE X (.Compare a [.IsNot] [.Constant .none j pos'] pos) (up X.K T E (wUn vNotN wa)) :=
  pe_mono (pe_cmp (pc_notN ha)) fun σ H Q ⟨ρ, μ, ev, Φ, en, st, xo, h, k⟩ => ⟨ρ, μ, ev, _, en, st, xo, h, fun x μ1 v H1 hx ix st1 s1 => by
    show Q (.bl (!decide (v = .non))) H1
    rw [isNon_v ix]; exact (k.step s1).now hx (.bl _) st1⟩
theorem ve_chain {op op' : CmpOp} {r r' : R2} {rd rd' : V2} {wa wb wc : WE} (ho : OpR X (compareOp op) r) (sim : Sim2 X.K T r rd) (ho' : OpR X (compareOp op') r') (sim' : Sim2 X.K T r' rd') (ha : PE X a (up X.K T E wa)) (hb : PE X b (up X.K T E wb)) (hc : PE X c (up X.K T E wc))
    (hm : lastMarks [op, op'] [b, c] = false := by with_unfolding_all rfl) : PE X (.Compare a [op, op'] [b, c] pos) (up X.K T E (wChain rd rd' wa wb wc)) :=
  pe_mono (pe_chain ho ho' ha hb hc hm) fun σ H Q ⟨ρ, μ, ev, Φ, en, st, xo, h, k⟩ => ⟨ρ, μ, ev, _, en, st, xo, h, fun x μ1 v H1 hx ix st1 s1 =>
    ⟨ρ, μ1, ev, _, en.step s1, st1, xo.step s1, hx, fun y μ2 w H2 hy iy st2 s2 => sim x y v w μ2 H2 _ _ (ix.step s2) iy st2 hy fun z μ3 u H3 ⟨kk, e, q⟩ iz st3 s3 => by
      subst e
      cases iz
      refine ⟨kk, rfl, ?_⟩
      cases kk with
      | true => exact ⟨ρ, μ3, ev, _, en.step (s1.trans (s2.trans s3)), st3, xo.step (s1.trans (s2.trans s3)), q, fun u μ4 w' H4 hu iu st4 s4 => sim' y u w w' μ4 H4 Φ Q (iy.step (s3.trans s4)) iu st4 hu (k.step (s1.trans (s2.trans (s3.trans s4))))⟩
      | false => exact (k.step (s1.trans (s2.trans s3))).now q (.bl false) st3⟩⟩
/-! tests -/
theorem vt_val {w : WE} (h : PE X e (up X.K T E w)) (he : ∀ whole, isTrue e X.env whole = (do let v ← whole; standAt e.pos; holding [v] (truthy v)) := by intro _; rfl) : PT X e (upT X.K T E (wTest w)) :=
  pt_mono (pt_val h he) fun σ H Q ⟨ρ, μ, ev, Φ, en, st, xo, h, k⟩ => ⟨ρ, μ, ev, _, en, st, xo, h, fun x μ1 v H1 ⟨c, e, hx⟩ ix st1 s1 => by
    subst e; cases ix; exact ⟨c, rfl, k c μ1 H1 hx st1 s1⟩⟩
theorem vt_cmp {op : CmpOp} {r : R2} {rd : V2} {wa wb : WE} (ho : OpR X (compareOp op) r) (sim : Sim2 X.K T r rd) (ha : PE X a (up X.K T E wa)) (hb : PE X b (up X.K T E wb)) (hm : behindInMarks op b = false) : PT X (.Compare a [op] [b] pos) (upT X.K T E (wTest (wOp rd wa wb))) :=
  pt_mono (pt_cmpR ho ha hb hm) fun σ H Q ⟨ρ, μ, ev, Φ, en, st, xo, h, k⟩ => ⟨ρ, μ, ev, _, en, st, xo, h, fun x μ1 v H1 hx ix st1 s1 =>
    ⟨ρ, μ1, ev, _, en.step s1, st1, xo.step s1, hx, fun y μ2 w H2 hy iy st2 s2 => sim x y v w μ2 H2 _ _ (ix.step s2) iy st2 hy fun z μ3 u H3 ⟨c, e, q⟩ iz st3 s3 => by
      subst e; cases iz; exact ⟨c, rfl, k c μ3 H3 q st3 (s1.trans (s2.trans s3))⟩⟩⟩
theorem vt_isN {wa : WE} {j} {pos' : Pos} (ha : PE X a (up X.K T E wa)) : PT X (.Compare a [.Is] [.Constant .none j pos'] pos) (upT X.K T E (wTest (wUn vIsN wa))) :=
  pt_mono (pt_cmp (pc_isN ha)) fun σ H Q ⟨ρ, μ, ev, Φ, en, st, xo, h, k⟩ => ⟨ρ, μ, ev, _, en, st, xo, h, fun x μ1 v H1 ⟨c, e, hx⟩ ix st1 s1 => by
    have e2 : decide (v = .non) = c := by rw [isNon_v ix]; injection e
    exact ⟨c, by rw [e2], k c μ1 H1 hx st1 s1⟩⟩
theorem vt_notN {wa : WE} {j} {pos' : Pos} (ha : PE X a (up X.K T E wa)) : PT X (.Compare a [.IsNot] [.Constant .none j pos'] pos) (upT X.K T E (wTest (wUn vNotN wa))) :=
  pt_mono (pt_cmp (pc_notN ha)) fun σ H Q ⟨ρ, μ, ev, Φ, en, st, xo, h, k⟩ => ⟨ρ, μ, ev, _, en, st, xo, h, fun x μ1 v H1 ⟨c, e, hx⟩ ix st1 s1 => by
    have e2 : (!decide (v = .non)) = c := by rw [isNon_v ix]; injection e
    exact ⟨c, by rw [e2], k c μ1 H1 hx st1 s1⟩⟩
theorem vt_chain {op op' : CmpOp} {r r' : R2} {rd rd' : V2} {wa wb wc : WE} (ho : OpR X (compareOp op) r) (sim : Sim2 X.K T r rd) (ho' : OpR X (compareOp op') r') (sim' : Sim2 X.K T r' rd') (ha : PE X a (up X.K T E wa)) (hb : PE X b (up X.K T E wb)) (hc : PE X c (up X.K T E wc))
    (hm : lastMarks [op, op'] [b, c] = false := by with_unfolding_all rfl) : PT X (.Compare a [op, op'] [b, c] pos) (upT X.K T E (wTest (wChain rd rd' wa wb wc))) :=
  pt_mono (pt_chain ho ho' ha hb hc hm) fun σ H Q ⟨ρ, μ, ev, Φ, en, st, xo, h, k⟩ => ⟨ρ, μ, ev, _, en, st, xo, h, fun x μ1 v H1 hx ix st1 s1 =>
    ⟨ρ, μ1, ev, _, en.step s1, st1, xo.step s1, hx, fun y μ2 w H2 hy iy st2 s2 => sim x y v w μ2 H2 _ _ (ix.step s2) iy st2 hy fun z μ3 u H3 ⟨kk, e, q⟩ iz st3 s3 => by
      subst e
      cases iz
      refine ⟨kk, rfl, ?_⟩
      cases kk with
      | true => exact ⟨ρ, μ3, ev, _, en.step (s1.trans (s2.trans s3)), st3, xo.step (s1.trans (s2.trans s3)), q, fun u μ4 w' H4 hu iu st4 s4 => sim' y u w w' μ4 H4 _ _ (iy.step (s3.trans s4)) iu st4 hu fun z μ5 u5 H5 ⟨c, e, q⟩ i5 st5 s5 => by
          subst e; cases i5; exact ⟨c, rfl, k c μ5 H5 q st5 (s1.trans (s2.trans (s3.trans (s4.trans s5))))⟩⟩
      | false =>
        obtain ⟨c, e, q⟩ := q
        cases e
        exact ⟨false, rfl, k false μ3 H3 q st3 (s1.trans (s2.trans s3))⟩⟩⟩
variable {t u : WT}
theorem vw_and1 (h : PT X a (upT X.K T E t)) : PW X (.BoolOp .And [a] pos) (upT X.K T E t) := pw_and1 h
theorem vw_or1 (h : PT X a (upT X.K T E t)) : PW X (.BoolOp .Or [a] pos) (upT X.K T E t) := pw_or1 h
theorem vw_and (ha : PT X a (upT X.K T E t)) (hb : PW X (.BoolOp .And (b :: rest) pos) (upT X.K T E u)) : PW X (.BoolOp .And (a :: b :: rest) pos) (upT X.K T E (wAnd t u)) :=
  pw_mono (pw_and ha hb) fun σ H Q ⟨ρ, μ, ev, Φ, en, st, xo, h, k⟩ => ⟨ρ, μ, ev, _, en, st, xo, h, fun c μ1 H1 hx st1 s1 => by
    cases c with
    | true => exact ⟨ρ, μ1, ev, _, en.step s1, st1, xo.step s1, hx, fun b μ' H' hb st' s' => k b μ' H' hb st' (s1.trans s')⟩
    | false => exact k false μ1 H1 hx st1 s1⟩
theorem vw_or (ha : PT X a (upT X.K T E t)) (hb : PW X (.BoolOp .Or (b :: rest) pos) (upT X.K T E u)) : PW X (.BoolOp .Or (a :: b :: rest) pos) (upT X.K T E (wOr t u)) :=
  pw_mono (pw_or ha hb) fun σ H Q ⟨ρ, μ, ev, Φ, en, st, xo, h, k⟩ => ⟨ρ, μ, ev, _, en, st, xo, h, fun c μ1 H1 hx st1 s1 => by
    cases c with
    | true => exact k true μ1 H1 hx st1 s1
    | false => exact ⟨ρ, μ1, ev, _, en.step s1, st1, xo.step s1, hx, fun b μ' H' hb st' s' => k b μ' H' hb st' (s1.trans s')⟩⟩
theorem vt_not (ha : PT X a (upT X.K T E t)) : PT X (.UnaryOp .Not a pos) (upT X.K T E (wNot t)) :=
  pt_mono (pt_not ha) fun σ H Q ⟨ρ, μ, ev, Φ, en, st, xo, h, k⟩ => ⟨ρ, μ, ev, _, en, st, xo, h, fun c μ1 H1 hx st1 s1 => k (!c) μ1 H1 hx st1 s1⟩
variable {wa wb : WE}
theorem ve_one {op} (h : PE X a (up X.K T E wa)) : PE X (.BoolOp op [a] pos) (up X.K T E wa) := pe_one h
theorem ve_and (ha : PE X a (up X.K T E wa)) (hb : PE X (.BoolOp .And (b :: rest) pos) (up X.K T E wb)) : PE X (.BoolOp .And (a :: b :: rest) pos) (up X.K T E (wAndV wa wb)) :=
  pe_mono (pe_and ha hb) fun σ H Q ⟨ρ, μ, ev, Φ, en, st, xo, h, k⟩ => ⟨ρ, μ, ev, _, en, st, xo, h, fun x μ1 v H1 ⟨c, e, hx⟩ ix st1 s1 => by
    subst e; cases ix
    refine ⟨c, rfl, ?_⟩
    cases c with
    | true => exact ⟨ρ, μ1, ev, _, en.step s1, st1, xo.step s1, hx, k.step s1⟩
    | false => exact (k.step s1).now hx (.bl false) st1⟩
theorem ve_or (ha : PE X a (up X.K T E wa)) (hb : PE X (.BoolOp .Or (b :: rest) pos) (up X.K T E wb)) : PE X (.BoolOp .Or (a :: b :: rest) pos) (up X.K T E (wOrV wa wb)) :=
  pe_mono (pe_or ha hb) fun σ H Q ⟨ρ, μ, ev, Φ, en, st, xo, h, k⟩ => ⟨ρ, μ, ev, _, en, st, xo, h, fun x μ1 v H1 ⟨c, e, hx⟩ ix st1 s1 => by
    subst e; cases ix
    refine ⟨c, rfl, ?_⟩
    cases c with
    | true => exact (k.step s1).now hx (.bl true) st1
    | false => exact ⟨ρ, μ1, ev, _, en.step s1, st1, xo.step s1, hx, k.step s1⟩⟩
theorem ve_not (ha : PE X a (up X.K T E wa)) : PE X (.UnaryOp .Not a pos) (up X.K T E (wNotV wa)) :=
  pe_mono (pe_not ha) fun σ H Q ⟨ρ, μ, ev, Φ, en, st, xo, h, k⟩ => ⟨ρ, μ, ev, _, en, st, xo, h, fun x μ1 v H1 ⟨c, e, hx⟩ ix st1 s1 => by
    subst e; cases ix; exact ⟨c, rfl, (k.step s1).now hx (.bl (!c)) st1⟩⟩
theorem ve_if (hc : PT X c (upT X.K T E t)) (ha : PE X a (up X.K T E wa)) (hb : PE X b (up X.K T E wb)) : PE X (.IfExp c a b pos) (up X.K T E (wIf t wa wb)) :=
  pe_mono (pe_ifExp hc ha hb) fun σ H Q ⟨ρ, μ, ev, Φ, en, st, xo, h, k⟩ => ⟨ρ, μ, ev, _, en, st, xo, h, fun d μ1 H1 hx st1 s1 => by
    cases d with
    | true => exact ⟨ρ, μ1, ev, _, en.step s1, st1, xo.step s1, hx, k.step s1⟩
    | false => exact ⟨ρ, μ1, ev, _, en.step s1, st1, xo.step s1, hx, k.step s1⟩⟩
/-! arguments, displays -/
variable {es : List Expr} {w : WA}
theorem va_nil : PA X [] (upA X.K T E wNil) := pa_mono pa_nil fun σ H Q ⟨ρ, μ, ev, Φ, en, st, xo, h, k⟩ => k [] μ [] H h .nil st (Step.refl _ _)
theorem va_cons (ha : PE X e (up X.K T E wa)) (hr : PA X es (upA X.K T E w)) (hs : starEach (e :: es) X.env = (false, eval e X.env) :: starEach es X.env := by rfl) : PA X (e :: es) (upA X.K T E (wCons wa w)) :=
  pa_mono (pa_cons ha hr hs) fun σ H Q ⟨ρ, μ, ev, Φ, en, st, xo, h, k⟩ => ⟨ρ, μ, ev, _, en, st, xo, h, fun x μ1 v H1 hx ix st1 s1 =>
    ⟨ρ, μ1, ev, _, en.step s1, st1, xo.step s1, hx, fun xs μ2 vs H2 hy iy st2 s2 => k _ μ2 _ H2 hy (.cons (ix.step s2) iy) st2 (s1.trans s2)⟩⟩
theorem va_star {p : Pos} (ha : PE X e (up X.K T E wa)) (hr : PA X es (upA X.K T E w)) : PA X (.Starred e p :: es) (upA X.K T E (wStar wa w)) :=
  pa_mono (StX.pa_star ha hr) fun σ H Q ⟨ρ, μ, ev, Φ, en, st, xo, h, k⟩ => ⟨ρ, μ, ev, _, en, st, xo, h, fun x μ1 v H1 ⟨ds, hs, hx⟩ ix st1 s1 => by
    obtain ⟨a, vs, rfl, sq, ia⟩ := is_seq st1 ix hs
    exact ⟨a, vs, rfl, sq.symm, ρ, μ1, ev, _, en.step s1, st1, xo.step s1, hx, fun xs μ2 us H2 hy iy st2 s2 => k _ μ2 _ H2 hy ((ia.step s2).app iy) st2 (s1.trans s2)⟩⟩
theorem ve_tup {x1} (h : PA X es (upA X.K T E w)) : PE X (.Tuple es x1 pos) (up X.K T E (wTup w)) :=
  pe_mono (pe_tup h) fun σ H Q ⟨ρ, μ, ev, Φ, en, st, xo, h, k⟩ => ⟨ρ, μ, ev, _, en, st, xo, h, fun xs μ1 vs H1 ⟨hl, hx⟩ ix st1 s1 => ⟨by rw [ix.len]; exact hl, fun p hp => (k.step s1).tup hx ix st1 p hp⟩⟩
theorem ve_lst (h : PA X es (upA X.K T E w)) : PE X (.List es pos) (up X.K T E (wLst w)) :=
  pe_mono (pe_lst h) fun σ H Q ⟨ρ, μ, ev, Φ, en, st, xo, h, k⟩ => ⟨ρ, μ, ev, _, en, st, xo, h, fun xs μ1 vs H1 ⟨hl, hx⟩ ix st1 s1 => ⟨by rw [ix.len]; exact hl, fun p hp => (k.step s1).lst hx ix st1 p hp⟩⟩
theorem ve_lstM (h : PA X es (upA X.K T E w)) : PE X (.List es pos) (up X.K T E (wLstM w)) :=
  pe_mono (pe_lst h) fun σ H Q ⟨ρ, μ, ev, Φ, en, st, xo, h, k⟩ => ⟨ρ, μ, ev, _, en, st, xo, h, fun xs μ1 vs H1 ⟨hl, hx⟩ ix st1 s1 => ⟨by rw [ix.len]; exact hl, fun p hp => (k.step s1).lstM hx ix st1 p hp⟩⟩
/-! calls of built-ins by value -/
theorem ve_callB {id : String} {r : List V → Hp → VK → Prop} {rd : VL_} {x : Str} {p : Pos} (hc : CallR X (.builtin id) r) (sim : SimL X.K T r rd) (hg : Gl X x) (hm : X.mg x = none) (hv : bootBuiltins x = some (.builtin id)) (ha : PA X (e :: es) (upA X.K T E w))
    (hn : x ≠ "__name__" := by decide) (hd : (x == ("__debug__" : Str)) = false := by decide) (he : starEach (e :: es) X.env = (false, eval e X.env) :: starEach es X.env := by rfl) (hpl : (backTo pos (starEach es X.env)).any (·.1) = false := by rfl) : PE X (.Call (.Name x p) (e :: es) [] pos) (up X.K T E (wCB rd w)) :=
  pe_mono (pe_callB hc hg hm hv ha (hn := hn) (hdb := hd) (he := he) (hpl := hpl)) fun σ H Q ⟨ρ, μ, ev, Φ, en, st, xo, h, k⟩ => ⟨ρ, μ, ev, _, en, st, xo, h, fun xs μ1 vs H1 hx ix st1 s1 => sim xs vs μ1 H1 Φ Q ix st1 hx (k.step s1)⟩
theorem ve_callTy {id : String} {r : List V → Hp → VK → Prop} {rd : VL_} {x : Str} {p : Pos} (hc : CallR X (.type id) r) (sim : SimL X.K T r rd) (hg : Gl X x) (hm : X.mg x = none) (hv : bootBuiltins x = some (.type id)) (ha : PA X (e :: es) (upA X.K T E w))
    (hn : x ≠ "__name__" := by decide) (hd : (x == ("__debug__" : Str)) = false := by decide) (he : starEach (e :: es) X.env = (false, eval e X.env) :: starEach es X.env := by rfl) (hpl : (backTo pos (starEach es X.env)).any (·.1) = false := by rfl) : PE X (.Call (.Name x p) (e :: es) [] pos) (up X.K T E (wCB rd w)) :=
  pe_mono (pe_callTy hc hg hm hv ha (hn := hn) (hdb := hd) (he := he) (hpl := hpl)) fun σ H Q ⟨ρ, μ, ev, Φ, en, st, xo, h, k⟩ => ⟨ρ, μ, ev, _, en, st, xo, h, fun xs μ1 vs H1 hx ix st1 s1 => sim xs vs μ1 H1 Φ Q ix st1 hx (k.step s1)⟩
/-! subscripts, slices -/
theorem ve_ix {r : R2} {rd : V2} (hr : IxR X r) (sim : Sim2 X.K T r rd) (ha : PE X a (up X.K T E wa)) (hb : PE X b (up X.K T E wb)) (hs : PlainIx b := by exact fun _ _ => rfl) : PE X (.Subscript a b pos) (up X.K T E (wOp rd wa wb)) :=
  pe_mono (pe_ix hr ha hb hs) fun σ H Q ⟨ρ, μ, ev, Φ, en, st, xo, h, k⟩ => ⟨ρ, μ, ev, _, en, st, xo, h, fun x μ1 v H1 hx ix st1 s1 =>
    ⟨ρ, μ1, ev, _, en.step s1, st1, xo.step s1, hx, fun y μ2 w H2 hy iy st2 s2 => sim x y v w μ2 H2 Φ Q (ix.step s2) iy st2 hy (k.step (s1.trans s2))⟩⟩
theorem vo_none : PO X none (upO X.K T E wNoPart) := ⟨fun pins s σ H Q I ⟨ρ, μ, ev, Φ, en, st, xo, h, k⟩ => po_none.run pins s σ H Q I (k none μ H h st (Step.refl _ _))⟩
theorem vo_some (ha : PE X e (up X.K T E wa)) : PO X (some e) (upO X.K T E (wPart wa)) := ⟨fun pins s σ H Q I ⟨ρ, μ, ev, Φ, en, st, xo, h, k⟩ => (po_some ha).run pins s σ H Q I ⟨ρ, μ, ev, _, en, st, xo, h, fun x μ1 v H1 ⟨i, e, hx⟩ ix st1 s1 => by
  subst e; cases ix; exact ⟨i, rfl, k _ μ1 H1 hx st1 s1⟩⟩⟩
theorem ve_slice {r : V → Option Int → Option Int → Hp → VK → Prop} {rd : VS} {lo hi : Option Expr} {wl wh : WO} {p2 : Pos} (hr : SlR X r) (sim : SimS X.K T r rd) (he : PE X e (up X.K T E wa)) (hl : PO X lo (upO X.K T E wl)) (hh : PO X hi (upO X.K T E wh)) : PE X (.Subscript e (.Slice lo hi none p2) pos) (up X.K T E (wSl rd wa wl wh)) :=
  pe_mono (pe_slice hr he hl hh) fun σ H Q ⟨ρ, μ, ev, Φ, en, st, xo, h, k⟩ => ⟨ρ, μ, ev, _, en, st, xo, h, fun x μ1 v H1 hx ix st1 s1 =>
    ⟨ρ, μ1, ev, _, en.step s1, st1, xo.step s1, hx, fun l μ2 H2 hy st2 s2 => ⟨ρ, μ2, ev, _, en.step (s1.trans s2), st2, xo.step (s1.trans s2), hy, fun u μ3 H3 hz st3 s3 => sim x v l u μ3 H3 Φ Q (ix.step (s2.trans s3)) st3 hz (k.step (s1.trans (s2.trans s3)))⟩⟩⟩
end
end VL

set_option maxRecDepth 100000
set_option maxHeartbeats 4000000
/-! values as trees: targets, statements, loops, comprehensions -/
namespace VL
open PySem L2 FW PyProof.Rows
/-! ### targets -/
def wName (i : Nat) : WG := fun d ρ μ _ Φ => Φ (ρ.set i (some d)) μ
def wGNil : WGs := fun ds ρ μ _ Φ => ds = [] ∧ Φ ρ μ
def wGCons (g : WG) (gs : WGs) : WGs := fun ds ρ μ ev Φ => ∃ d r, ds = d :: r ∧ g d ρ μ ev fun ρ' μ' => gs r ρ' μ' ev Φ
def tupOf : D → Option (List D)
  | .tup ds => some ds
  | _ => none
def wGTup (n : Nat) (gs : WGs) : WG := fun d ρ μ ev Φ => ∃ ds, tupOf d = some ds ∧ ds.length = n ∧ gs ds ρ μ ev Φ
abbrev VSet := D → D → D → Mu → (Mu → Prop) → Prop
def SimSet (K : PySem.W.Frag) (T : List (Addr × Str)) (r : TSet) (rd : VSet) : Prop := ∀ o i d vo vi vd μ H Φ (Q : Hp → Prop), Is K μ H vo o → Is K μ H vi i → Is K μ H vd d → Sto K T μ H → rd o i d μ Φ → (∀ μ' H', Φ μ' → Sto K T μ' H' → Step μ H μ' H' → Q H') → r vo vi vd H Q
def wSub (wo wi : WE) (r : VSet) : WG := fun d ρ μ ev Φ => wo ρ μ ev fun o μ1 => wi ρ μ1 ev fun i μ2 => r o i d μ2 fun μ3 => Φ ρ μ3
/-- a pattern: names, tuples of patterns -/
inductive Pat where
  | name (i : Nat) | tup (ps : List Pat)
mutual
def Pat.bind : Pat → D → Ro → Option Ro
  | .name i, d, ρ => some (ρ.set i (some d))
  | .tup ps, d, ρ => match d with
    | .tup ds => Pat.binds ps ds ρ
    | _ => none
def Pat.binds : List Pat → List D → Ro → Option Ro
  | [], [], ρ => some ρ
  | p :: ps, d :: ds, ρ => match p.bind d ρ with
    | some ρ' => Pat.binds ps ds ρ'
    | none => none
  | _, _, _ => none
def Pat.slots : Pat → List Nat
  | .name i => [i]
  | .tup ps => Pat.slotss ps
def Pat.slotss : List Pat → List Nat
  | [] => []
  | p :: ps => p.slots ++ Pat.slotss ps
end
mutual
def Pat.tg (K : PySem.W.Frag) : Pat → TG
  | .name i => gName i
  | .tup ps => gTup K ps.length (Pat.tgs K ps)
def Pat.tgs (K : PySem.W.Frag) : List Pat → TGs
  | [] => gNil
  | p :: ps => gCons (p.tg K) (Pat.tgs K ps)
end
/-- the same but for some slots -/
def Same (vs : List Nat) (σ σ' : L2.St) : Prop := σ'.length = σ.length ∧ ∀ i, i ∉ vs → σ'[i]? = σ[i]?
mutual
theorem Pat.run {K : PySem.W.Frag} {μ : Mu} {H : Hp} : ∀ (p : Pat) {d : D} {v : V} {ρ ρ' : Ro} {σ : L2.St} {Q : L2.St → Hp → Prop}, Is K μ H v d → Sl K μ H σ ρ → p.bind d ρ = some ρ' → (∀ σ', Sl K μ H σ' ρ' → Same p.slots σ σ' → Q σ' H) → p.tg K v σ H Q
  | .name i, d, v, ρ, ρ', σ, Q, iv, en, e, k => by
    simp only [Pat.bind, Option.some.injEq] at e
    subst e
    exact k _ (en.set i iv) ⟨List.length_set .., fun j hj => by
      simp only [Pat.slots, List.mem_singleton] at hj
      rw [List.getElem?_set_ne (fun z => hj z.symm)]⟩
  | .tup ps, d, v, ρ, ρ', σ, Q, iv, en, e, k => by
    cases iv with
    | tup a i =>
      rename_i b vs ds
      have e2 : Pat.binds ps ds ρ = some ρ' := by simpa only [Pat.bind] using e
      have hl : ds.length = ps.length := Pat.lenOf ps e2
      refine ⟨b, vs, rfl, a.sq, by rw [i.len]; exact hl, Pat.runs ps i en e2 fun σ' en' s => k σ' en' (by simpa only [Pat.slots] using s)⟩
    | _ => simp [Pat.bind] at e
theorem Pat.runs {K : PySem.W.Frag} {μ : Mu} {H : Hp} : ∀ (ps : List Pat) {ds : List D} {vs : List V} {ρ ρ' : Ro} {σ : L2.St} {Q : L2.St → Hp → Prop}, IsAll K μ H vs ds → Sl K μ H σ ρ → Pat.binds ps ds ρ = some ρ' → (∀ σ', Sl K μ H σ' ρ' → Same (Pat.slotss ps) σ σ' → Q σ' H) → Pat.tgs K ps vs σ H Q
  | [], ds, vs, ρ, ρ', σ, Q, iv, en, e, k => by
    cases iv with
    | nil =>
      simp only [Pat.binds, Option.some.injEq] at e
      subst e
      exact ⟨rfl, k σ en ⟨rfl, fun _ _ => rfl⟩⟩
    | cons a b => simp [Pat.binds] at e
  | p :: ps, ds, vs, ρ, ρ', σ, Q, iv, en, e, k => by
    cases iv with
    | nil => simp [Pat.binds] at e
    | cons a b =>
      simp only [Pat.binds] at e
      split at e
      · rename_i ρ1 h1
        refine ⟨_, _, rfl, Pat.run p a en h1 fun σ1 en1 s1 => Pat.runs ps b en1 e fun σ2 en2 s2 => k σ2 en2 ⟨by rw [s2.1, s1.1], fun j hj => ?_⟩⟩
        simp only [Pat.slotss, List.mem_append, not_or] at hj
        rw [s2.2 j hj.2, s1.2 j hj.1]
      · cases e
theorem Pat.lenOf : ∀ (ps : List Pat) {ds : List D} {ρ ρ' : Ro}, Pat.binds ps ds ρ = some ρ' → ds.length = ps.length
  | [], [], _, _, _ => rfl
  | [], _ :: _, _, _, e => by simp [Pat.binds] at e
  | _ :: _, [], _, _, e => by simp [Pat.binds] at e
  | p :: ps, d :: ds, ρ, ρ', e => by
    simp only [Pat.binds] at e
    split at e
    · rw [List.length_cons, List.length_cons, Pat.lenOf ps e]
    · cases e
end
section
variable {X : Cx} {T : List (Addr × Str)} {E : XK}
theorem vg_name {i : Nat} {x : Str} {pos : Pos} (hN : X.N.Nodup) (hi : X.N[i]? = some x) (hx : Loc X.env.scope x) (hf : X.fn x = true ∨ X.env.scope.names.lookup x = some .local := by first | exact .inl rfl | exact .inr rfl | assumption) : PG X (.Name x pos) (upG X.K T E (wName i)) :=
  pg_mono (pg_name hN hi hx hf) fun v σ H Q ⟨d, ρ, μ, ev, Φ, iv, en, st, xo, h, k⟩ => k _ μ _ H h (en.set i iv) st (Step.refl _ _)
theorem vgs_nil : PGs X [] (upGs X.K T E wGNil) :=
  pgs_mono pgs_nil fun vs σ H Q ⟨ds, ρ, μ, ev, Φ, iv, en, st, xo, ⟨e, h⟩, k⟩ => by
    subst e; cases iv; exact ⟨rfl, k ρ μ σ H h en st (Step.refl _ _)⟩
theorem vgs_cons {e : Expr} {es : List Expr} {g : WG} {gs : WGs} (h1 : PG X e (upG X.K T E g)) (h2 : PGs X es (upGs X.K T E gs)) (hs : (assignEach (e :: es) X.env).map (·.2) = assign e X.env :: (assignEach es X.env).map (·.2) := by rfl) : PGs X (e :: es) (upGs X.K T E (wGCons g gs)) :=
  pgs_mono (pgs_cons h1 h2 hs) fun vs σ H Q ⟨ds, ρ, μ, ev, Φ, iv, en, st, xo, ⟨d, r, e, h⟩, k⟩ => by
    subst e
    cases iv with
    | cons a b => exact ⟨_, _, rfl, d, ρ, μ, ev, _, a, en, st, xo, h, fun ρ1 μ1 σ1 H1 q en1 st1 s1 => ⟨r, ρ1, μ1, ev, Φ, b.step s1, en1, st1, xo.step s1, q, fun ρ2 μ2 σ2 H2 q2 en2 st2 s2 => k ρ2 μ2 σ2 H2 q2 en2 st2 (s1.trans s2)⟩⟩
theorem vg_tup {es : List Expr} {kk : Nat} {n : Nat} {gs : WGs} {pos : Pos} (p : ∀ t : TGs, PGs X es t → PG X (.Tuple es kk pos) (gTup X.K n t)) (h : PGs X es (upGs X.K T E gs)) : PG X (.Tuple es kk pos) (upG X.K T E (wGTup n gs)) :=
  pg_mono (p _ h) fun v σ H Q ⟨d, ρ, μ, ev, Φ, iv, en, st, xo, ⟨ds, e, hl, h⟩, k⟩ => by
    cases iv with
    | tup a i =>
      simp only [tupOf, Option.some.injEq] at e
      subst e
      exact ⟨_, _, rfl, a.sq, by rw [i.len]; exact hl, _, ρ, μ, ev, Φ, i, en, st, xo, h, k⟩
    | _ => simp [tupOf] at e
theorem vg_sub {o i : Expr} {wo wi : WE} {r : TSet} {rd : VSet} {pos : Pos} (p : ∀ to ti : TE, PE X o to → PE X i ti → PG X (.Subscript o i pos) (gSub to ti r)) (sim : SimSet X.K T r rd) (ho : PE X o (up X.K T E wo)) (hi : PE X i (up X.K T E wi)) : PG X (.Subscript o i pos) (upG X.K T E (wSub wo wi rd)) :=
  pg_mono (p _ _ ho hi) fun v σ H Q ⟨d, ρ, μ, ev, Φ, iv, en, st, xo, h, k⟩ => ⟨ρ, μ, ev, _, en, st, xo, h, fun x μ1 vo H1 hx ix st1 s1 =>
    ⟨ρ, μ1, ev, _, en.step s1, st1, xo.step s1, hx, fun y μ2 vi H2 hy iy st2 s2 => sim x y d vo vi v μ2 H2 _ _ (ix.step s2) iy (iv.step (s1.trans s2)) st2 hy fun μ3 H3 q st3 s3 => k ρ μ3 σ H3 q (en.step (s1.trans (s2.trans s3))) st3 (s1.trans (s2.trans s3))⟩⟩
/-! ### statements -/
def wNext : WS := fun DD ρ μ _ => DD.nx ρ μ
def wSeq (t u : WS) : WS := fun DD ρ μ ev => t { DD with nx := fun ρ' μ' => u DD ρ' μ' ev } ρ μ ev
def wAsg (w : WE) (g : WG) : WS := fun DD ρ μ ev => w ρ μ ev fun d μ1 => g d ρ μ1 ev DD.nx
def wDrop (w : WE) : WS := fun DD ρ μ ev => w ρ μ ev fun _ μ1 => DD.nx ρ μ1
def wRet (w : WE) : WS := fun DD ρ μ ev => w ρ μ ev DD.rt
def wRetN : WS := fun DD _ μ _ => DD.rt .non μ
def wIfS (t : WT) (a b : WS) : WS := fun DD ρ μ ev => t ρ μ ev fun c μ1 => if c = true then a DD ρ μ1 ev else b DD ρ μ1 ev
def wBreak : WS := fun DD ρ μ _ => DD.bk ρ μ
def wCont : WS := fun DD ρ μ _ => DD.ct ρ μ
def wPar (i j : Nat) (w : WA) : WS := fun DD ρ μ ev => w ρ μ ev fun ds μ1 => ∃ d e, ds = [d, e] ∧ DD.nx ((ρ.set i (some d)).set j (some e)) μ1
theorem EndsOk.nx {K : PySem.W.Frag} {μ : Mu} {H : Hp} {DD : VEnds} {Dn : Ends} {ρ : Ro} {σ : L2.St} (k : EndsOk K T μ H DD Dn) (h : DD.nx ρ μ) (en : Sl K μ H σ ρ) (st : Sto K T μ H) : Dn.nx σ H := k.1 ρ μ σ H h en st (Step.refl _ _)
theorem EndsOk.rtK {K : PySem.W.Frag} {μ : Mu} {H : Hp} {DD : VEnds} {Dn : Ends} (k : EndsOk K T μ H DD Dn) : KOk K T μ H DD.rt Dn.rt := k.2.1
variable {st st1 : Stmt} {rest : List Stmt} {t u : WS} {w : WE} {e : Expr} {pos : Pos}
theorem vs_pass : PS X (.Pass pos) (upS X.K T E wNext) := ps_mono ps_pass fun Dn σ H ⟨ρ, μ, ev, DD, en, st, xo, h, k⟩ => k.nx h en st
theorem vs_break : PS X (.Break pos) (upS X.K T E wBreak) := ps_mono ps_break fun Dn σ H ⟨ρ, μ, ev, DD, en, st, xo, h, k⟩ => k.2.2.1 ρ μ σ H h en st (Step.refl _ _)
theorem vss_nil : PSs X [] (upS X.K T E wNext) := pss_mono pss_nil fun Dn σ H ⟨ρ, μ, ev, DD, en, st, xo, h, k⟩ => k.nx h en st
theorem vss_one (h1 : PS X st1 (upS X.K T E t)) : PSs X [st1] (upS X.K T E t) := pss_one h1
theorem vss_cons (h1 : PS X st1 (upS X.K T E t)) (h2 : PSs X rest (upS X.K T E u)) : PSs X (st1 :: rest) (upS X.K T E (wSeq t u)) :=
  pss_mono (pss_cons h1 h2) fun Dn σ H ⟨ρ, μ, ev, DD, en, st, xo, h, k⟩ => ⟨ρ, μ, ev, _, en, st, xo, h, fun ρ1 μ1 σ1 H1 q en1 st1 s1 => ⟨ρ1, μ1, ev, DD, en1, st1, xo.step s1, q, k.step s1⟩, k.2.1, k.2.2.1, k.2.2.2⟩
theorem vs_asg {tg : Expr} {g : WG} (he : PE X e (up X.K T E w)) (hg : PG X tg (upG X.K T E g)) (hs : swapsWithSole [tg] e pos.line X.env = pure false := by rfl) (hw : swappedStores [tg] e X.env = pure none := by rfl) (h1 : (assignEach [tg] X.env).map (·.2) = [assign tg X.env] := by rfl) : PS X (.Assign [tg] e pos) (upS X.K T E (wAsg w g)) :=
  ps_mono (ps_asg he hg hs hw h1) fun Dn σ H ⟨ρ, μ, ev, DD, en, st, xo, h, k⟩ => ⟨ρ, μ, ev, _, en, st, xo, h, fun d μ1 v H1 hd iv st1 s1 => ⟨d, ρ, μ1, ev, _, iv, en.step s1, st1, xo.step s1, hd, (k.step s1).1⟩⟩
theorem vs_set {i : Nat} {x : Str} {pos' : Pos} (hN : X.N.Nodup) (hi : X.N[i]? = some x) (hx : Loc X.env.scope x) (he : PE X e (up X.K T E w)) (hs : swapsWith e (some (.Name x pos')) pos.line X.env = pure false := by rfl) (hf : X.fn x = true ∨ X.env.scope.names.lookup x = some .local := by first | exact .inl rfl | exact .inr rfl | assumption) : PS X (.Assign [.Name x pos'] e pos) (upS X.K T E (wAsg w (wName i))) :=
  ps_mono (ps_set hN hi hx he hs hf) fun Dn σ H ⟨ρ, μ, ev, DD, en, st, xo, h, k⟩ => ⟨ρ, μ, ev, _, en, st, xo, h, fun d μ1 v H1 hd iv st1 s1 => (k.step s1).nx hd ((en.step s1).set i iv) st1⟩
theorem vs_ret (he : PE X e (up X.K T E w)) : PS X (.Return (some e) pos) (upS X.K T E (wRet w)) :=
  ps_mono (ps_ret he) fun Dn σ H ⟨ρ, μ, ev, DD, en, st, xo, h, k⟩ => ⟨ρ, μ, ev, _, en, st, xo, h, k.rtK⟩
theorem vs_retN : PS X (.Return none pos) (upS X.K T E wRetN) :=
  ps_mono ps_retN fun Dn σ H ⟨ρ, μ, ev, DD, en, st, xo, h, k⟩ => k.rtK.now h .non st
theorem vs_expr (he : PE X e (up X.K T E w)) (hs : swapsWith e none pos.line X.env = pure false := by rfl) : PS X (.Expr e pos) (upS X.K T E (wDrop w)) :=
  ps_mono (ps_expr he hs) fun Dn σ H ⟨ρ, μ, ev, DD, en, st, xo, h, k⟩ => ⟨ρ, μ, ev, _, en, st, xo, h, fun d μ1 v H1 hd iv st1 s1 => (k.step s1).nx hd (en.step s1) st1⟩
theorem vs_if {c : Expr} {a b : List Stmt} {tc : WT} (hc : PT X c (upT X.K T E tc)) (ha : PSs X a (upS X.K T E t)) (hb : PSs X b (upS X.K T E u)) : PS X (.If c a b pos) (upS X.K T E (wIfS tc t u)) :=
  ps_mono (ps_if hc ha hb) fun Dn σ H ⟨ρ, μ, ev, DD, en, st, xo, h, k⟩ => ⟨ρ, μ, ev, _, en, st, xo, h, fun d μ1 H1 hd st1 s1 => by
    cases d with
    | true => exact ⟨ρ, μ1, ev, DD, en.step s1, st1, xo.step s1, hd, k.step s1⟩
    | false => exact ⟨ρ, μ1, ev, DD, en.step s1, st1, xo.step s1, hd, k.step s1⟩⟩
/-- a, b = e, f -/
theorem vs_par {i j : Nat} {s : Stmt} {w : WA} (h : PS X s (tPar i j (upA X.K T E w))) : PS X s (upS X.K T E (wPar i j w)) :=
  ps_mono h fun Dn σ H ⟨ρ, μ, ev, DD, en, st, xo, h, k⟩ => ⟨ρ, μ, ev, _, en, st, xo, h, fun ds μ1 vs H1 ⟨d, e, q, hd⟩ iv st1 s1 => by
    subst q
    cases iv with
    | cons a b => cases b with
      | cons b c => cases c; exact ⟨_, _, rfl, (k.step s1).nx hd (((en.step s1).set i a).set j b) st1⟩⟩
/-! ### while -/
def wWhile (c : WT) (b : WS) : WS := fun DD ρ μ ev => ∃ I : Nat → Ro → Mu → Prop, (∃ m, I m ρ μ) ∧ ∀ m ρ μ, I m ρ μ → c ρ μ ev fun k μ1 => if k = true then b { DD with nx := fun ρ' μ' => ∃ m', m' < m ∧ I m' ρ' μ', ct := fun ρ' μ' => ∃ m', m' < m ∧ I m' ρ' μ', bk := DD.nx } ρ μ1 ev else DD.nx ρ μ1
theorem vs_while {c : Expr} {body : List Stmt} {tc : WT} {tb : WS} (hp : PassesOwn (model X.prog X.w) X.A X.env X.xe) (hc : PT X c (upT X.K T E tc)) (hb : PSs X body (upS X.K T E tb)) : PS X (.While c body [] pos) (upS X.K T E (wWhile tc tb)) :=
  ps_mono (ps_while hp hc hb) fun Dn σ H ⟨ρ, μ, ev, DD, en, st, xo, ⟨I, ⟨m0, i0⟩, turn⟩, k⟩ => by
    refine ⟨fun m σ1 H1 => ∃ ρ1 μ1, Sl X.K μ1 H1 σ1 ρ1 ∧ Sto X.K T μ1 H1 ∧ Step μ H μ1 H1 ∧ I m ρ1 μ1, ⟨m0, ρ, μ, en, st, Step.refl _ _, i0⟩, fun m σ1 H1 ⟨ρ1, μ1, en1, st1, s1, i1⟩ => ?_⟩
    refine ⟨ρ1, μ1, ev, _, en1, st1, xo.step s1, turn m ρ1 μ1 i1, fun b μ2 H2 q st2 s2 => ?_⟩
    cases b with
    | true =>
      refine ⟨fun σ3 H3 => ∃ m', m' < m ∧ ∃ ρ3 μ3, Sl X.K μ3 H3 σ3 ρ3 ∧ Sto X.K T μ3 H3 ∧ Step μ H μ3 H3 ∧ I m' ρ3 μ3, fun σ3 H3 z => z, ρ1, μ2, ev, _, en1.step s2, st2, xo.step (s1.trans s2), q, ?_⟩
      exact ⟨fun ρ3 μ3 σ3 H3 ⟨m', l, i3⟩ en3 st3 s3 => ⟨m', l, ρ3, μ3, en3, st3, s1.trans (s2.trans s3), i3⟩, (k.step (s1.trans s2)).2.1, (k.step (s1.trans s2)).1, fun ρ3 μ3 σ3 H3 ⟨m', l, i3⟩ en3 st3 s3 => ⟨m', l, ρ3, μ3, en3, st3, s1.trans (s2.trans s3), i3⟩⟩
    | false => exact (k.step (s1.trans s2)).nx q (en1.step s2) st2
/-! ### what is walked -/
abbrev WI := Ro → Mu → EV → (List D → (Mu → Prop) → Mu → Prop) → Prop
def ItOk (K : PySem.W.Frag) (T : List (Addr × Str)) (J : It) (ds : List D) (P : Mu → Prop) (μ : Mu) (H : Hp) : Prop := ∀ μ' H', Step μ H μ' H' → Sto K T μ' H' → P μ' → ∀ i,
  (∀ d, ds[i]? = some d → J.go i H' ∧ ∀ x H'', J.yld i H' x H'' → Is K μ' H'' x d ∧ Sto K T μ' H'' ∧ Step μ' H' μ' H'') ∧ (ds.length ≤ i → J.stop i H')
def upI (K : PySem.W.Frag) (T : List (Addr × Str)) (E : XK) (w : WI) : TI := fun σ H R => ∃ ρ μ ev Ψ, Sl K μ H σ ρ ∧ Sto K T μ H ∧ XOk K T μ H ev E ∧ w ρ μ ev Ψ ∧ ∀ ds P μ' J H', Ψ ds P μ' → Sto K T μ' H' → Step μ H μ' H' → ItOk K T J ds P μ' H' → R J H'
theorem pi_mono {tg iter : Expr} {wi wi' : TI} (p : PI X tg iter wi) (h : ∀ σ H R, wi' σ H R → wi σ H R) : PI X tg iter wi' := ⟨fun pins s σ H R I q => p.run pins s σ H R I (h σ H R q)⟩
def noP : Mu → Prop := fun _ => True
/-- over a list, a tuple that stays -/
def fzL : D → Option (List D)
  | .lst ds => some ds
  | .sq ds => some ds
  | _ => none
def iwL (w : WE) : WI := fun ρ μ ev Ψ => w ρ μ ev fun d μ1 => ∃ ds, fzL d = some ds ∧ Ψ ds noP μ1
def iwT (w : WE) : WI := fun ρ μ ev Ψ => w ρ μ ev fun d μ1 => ∃ ds, tupOf d = some ds ∧ Ψ ds noP μ1
/-- over a list that may change, as it stands -/
def iwM (w : WE) : WI := fun ρ μ ev Ψ => w ρ μ ev fun d μ1 => ∃ a ds, d = .ref a ∧ μ1 a = some (.lst ds) ∧ Ψ ds (fun μ' => μ' a = some (.lst ds)) μ1
def iwR1 (w : WA) : WI := fun ρ μ ev Ψ => w ρ μ ev fun xs μ1 => ∃ j : Int, xs = [.int j] ∧ -(2 ^ 62) ≤ j ∧ j < 2 ^ 62 ∧ Ψ ((List.range j.toNat).map fun k => .int (k : Nat)) noP μ1
def iwR2 (w : WA) : WI := fun ρ μ ev Ψ => w ρ μ ev fun xs μ1 => ∃ i j : Int, xs = [.int i, .int j] ∧ (-(2 ^ 62) ≤ i ∧ i < 2 ^ 62 ∧ -(2 ^ 62) ≤ j ∧ j < 2 ^ 62) ∧ Ψ ((List.range (j - i).toNat).map fun k => .int (i + (k : Nat))) noP μ1
def enumD (ds : List D) : List D := ds.zipIdx.map fun p => .tup [.int (p.2 : Nat), p.1]
def iwE (w : WA) : WI := fun ρ μ ev Ψ => w ρ μ ev fun xs μ1 => ∃ x ds, xs = [x] ∧ fzL x = some ds ∧ Ψ (enumD ds) noP μ1
def zipD (xs ys : List D) : List D := (xs.zip ys).map fun p => .tup [p.1, p.2]
def iwZ (w : WA) : WI := fun ρ μ ev Ψ => w ρ μ ev fun xs μ1 => ∃ x y ds es, xs = [x, y] ∧ ((fzL x = some ds ∧ fzL y = some es) ∨ (tupOf x = some ds ∧ tupOf y = some es)) ∧ Ψ (zipD ds es) noP μ1
theorem fzL_is {K : PySem.W.Frag} {μ : Mu} {H : Hp} {v : V} {d : D} {ds : List D} (h : Is K μ H v d) (e : fzL d = some ds) : ∃ a vs, v = .ref a ∧ AtS K μ H a vs ∧ IsAll K μ H vs ds := by
  cases h with
  | lst a i => simp only [fzL, Option.some.injEq] at e; subst e; exact ⟨_, _, rfl, .inl ⟨a.1, .inl a.2⟩, i⟩
  | sq a i => simp only [fzL, Option.some.injEq] at e; subst e; exact ⟨_, _, rfl, a, i⟩
  | _ => simp [fzL] at e
theorem tupOf_is {K : PySem.W.Frag} {μ : Mu} {H : Hp} {v : V} {d : D} {ds : List D} (h : Is K μ H v d) (e : tupOf d = some ds) : ∃ a vs, v = .ref a ∧ AtT K μ H a vs ∧ IsAll K μ H vs ds := by
  cases h with
  | tup a i => simp only [tupOf, Option.some.injEq] at e; subst e; exact ⟨_, _, rfl, a, i⟩
  | _ => simp [tupOf] at e
variable {tg iter : Expr}
theorem vi_list {w : WE} (h : PE X iter (up X.K T E w)) : PI X tg iter (upI X.K T E (iwL w)) :=
  pi_mono (pi_list h) fun σ H R ⟨ρ, μ, ev, Ψ, en, st, xo, h, k⟩ => ⟨ρ, μ, ev, _, en, st, xo, h, fun d μ1 v H1 ⟨ds, e, q⟩ iv st1 s1 => by
    obtain ⟨a, vs, rfl, at_, ia⟩ := fzL_is iv e
    refine ⟨a, rfl, ⟨vs, at_.sq⟩, k ds _ μ1 _ H1 q st1 s1 fun μ2 H2 s2 st2 _ i => ⟨fun x hx => ?_, fun hl => ⟨vs, (at_.step s2).sq, by rw [ia.len]; exact hl⟩⟩⟩
    obtain ⟨u, e1, e2⟩ := (ia.step s2).get hx
    exact ⟨⟨vs, u, (at_.step s2).sq, e1⟩, fun y H3 ⟨z1, z2⟩ => by subst z1; have := z2 vs (at_.step s2).sq; rw [e1] at this; cases this; exact ⟨e2, st2, Step.refl _ _⟩⟩⟩
theorem vi_tup {w : WE} (h : PE X iter (up X.K T E w)) : PI X tg iter (upI X.K T E (iwT w)) :=
  pi_mono (pi_tup h) fun σ H R ⟨ρ, μ, ev, Ψ, en, st, xo, h, k⟩ => ⟨ρ, μ, ev, _, en, st, xo, h, fun d μ1 v H1 ⟨ds, e, q⟩ iv st1 s1 => by
    obtain ⟨a, vs, rfl, at_, ia⟩ := tupOf_is iv e
    refine ⟨a, rfl, ⟨vs, at_.sq⟩, k ds _ μ1 _ H1 q st1 s1 fun μ2 H2 s2 st2 _ i => ⟨fun x hx => ?_, fun hl => ⟨vs, (at_.step s2).sq, by rw [ia.len]; exact hl⟩⟩⟩
    obtain ⟨u, e1, e2⟩ := (ia.step s2).get hx
    exact ⟨⟨vs, u, (at_.step s2).sq, e1⟩, fun y H3 ⟨z1, z2⟩ => by subst z1; have := z2 vs (at_.step s2).sq; rw [e1] at this; cases this; exact ⟨e2, st2, Step.refl _ _⟩⟩⟩
theorem vi_mut {w : WE} (h : PE X iter (up X.K T E w)) : PI X tg iter (upI X.K T E (iwM w)) :=
  pi_mono (pi_list h) fun σ H R ⟨ρ, μ, ev, Ψ, en, st, xo, h, k⟩ => ⟨ρ, μ, ev, _, en, st, xo, h, fun d μ1 v H1 ⟨a, ds, e, hm, q⟩ iv st1 s1 => by
    subst e
    cases iv
    obtain ⟨vs, h1, ia⟩ := st1.mo _ _ hm
    refine ⟨a, rfl, ⟨vs, SqL.of h1⟩, k ds _ μ1 _ H1 q st1 s1 fun μ2 H2 s2 st2 hp i => ?_⟩
    obtain ⟨us, h2, ib⟩ := st2.mo _ _ hp
    refine ⟨fun x hx => ?_, fun hl => ⟨us, SqL.of h2, by rw [ib.len]; exact hl⟩⟩
    obtain ⟨u, e1, e2⟩ := ib.get hx
    exact ⟨⟨us, u, SqL.of h2, e1⟩, fun y H3 ⟨z1, z2⟩ => by subst z1; have := z2 us (SqL.of h2); rw [e1] at this; cases this; exact ⟨e2, st2, Step.refl _ _⟩⟩⟩
theorem itOk_range {K : PySem.W.Frag} {T : List (Addr × Str)} {lo : Int} {n : Nat} {μ : Mu} {H : Hp} : ItOk K T (Itr lo n) ((List.range n).map fun k => .int (lo + (k : Nat))) noP μ H := fun μ2 H2 s2 st2 _ i => by
  refine ⟨fun d hd => ?_, fun hl => by rw [List.length_map, List.length_range] at hl; exact hl⟩
  rw [List.getElem?_map] at hd
  by_cases hi : i < n
  · rw [List.getElem?_range hi] at hd
    cases hd
    exact ⟨hi, fun y H3 ⟨z1, z2⟩ => by subst z1; subst z2; exact ⟨.int _, st2, Step.refl _ _⟩⟩
  · rw [List.getElem?_eq_none (by rw [List.length_range]; omega)] at hd; cases hd
theorem vi_range1 {a : Expr} {w : WA} {p pos : Pos} (hg : Gl X "range") (hm : X.mg "range" = none) (h : PA X [a] (upA X.K T E w)) (hs : starEach [a] X.env = [(false, eval a X.env)] := by rfl) : PI X tg (.Call (.Name "range" p) [a] [] pos) (upI X.K T E (iwR1 w)) :=
  pi_mono (pi_range1 hg hm h hs) fun σ H R ⟨ρ, μ, ev, Ψ, en, st, xo, h, k⟩ => ⟨ρ, μ, ev, _, en, st, xo, h, fun ds μ1 vs H1 ⟨j, e, h1, h2, q⟩ iv st1 s1 => by
    subst e
    cases iv with
    | cons a b =>
      cases a; cases b
      refine ⟨j, rfl, h1, h2, k _ _ μ1 _ H1 q st1 s1 ?_⟩
      have := itOk_range (K := X.K) (T := T) (lo := 0) (n := j.toNat) (μ := μ1) (H := H1)
      simp only [Int.zero_add] at this
      exact this⟩
theorem vi_range2 {a b : Expr} {w : WA} {p pos : Pos} (hg : Gl X "range") (hm : X.mg "range" = none) (h : PA X [a, b] (upA X.K T E w)) (hs : starEach [a, b] X.env = [(false, eval a X.env), (false, eval b X.env)] := by rfl) (hs2 : starEach [b] X.env = [(false, eval b X.env)] := by rfl) : PI X tg (.Call (.Name "range" p) [a, b] [] pos) (upI X.K T E (iwR2 w)) :=
  pi_mono (pi_range2 hg hm h hs hs2) fun σ H R ⟨ρ, μ, ev, Ψ, en, st, xo, h, k⟩ => ⟨ρ, μ, ev, _, en, st, xo, h, fun ds μ1 vs H1 ⟨i, j, e, hh, q⟩ iv st1 s1 => by
    subst e
    cases iv with
    | cons a b =>
      cases b with
      | cons b c =>
        cases a; cases b; cases c
        exact ⟨i, j, rfl, hh, k _ _ μ1 _ H1 q st1 s1 itOk_range⟩⟩
theorem enumD_get {ds : List D} {i : Nat} {d : D} (h : (enumD ds)[i]? = some d) : ∃ x, ds[i]? = some x ∧ d = .tup [.int (i : Nat), x] := by
  unfold enumD at h
  rw [List.getElem?_map, List.getElem?_zipIdx] at h
  cases q : ds[i]? with
  | none => rw [q] at h; cases h
  | some x => rw [q] at h; simp only [Option.map_some, Option.some.injEq, Nat.zero_add] at h; exact ⟨x, rfl, h.symm⟩
theorem vi_enum {e : Expr} {w : WA} {p pos tpos : Pos} {elts : List Expr} {kk : Nat} (hg : Gl X "enumerate") (hm : X.mg "enumerate" = none) (h : PA X [e] (upA X.K T E w)) (hs : starEach [e] X.env = [(false, eval e X.env)] := by rfl) : PI X (.Tuple elts kk tpos) (.Call (.Name "enumerate" p) [e] [] pos) (upI X.K T E (iwE w)) :=
  pi_mono (pi_enum hg hm h hs) fun σ H R ⟨ρ, μ, ev, Ψ, en, st, xo, h, k⟩ => ⟨ρ, μ, ev, _, en, st, xo, h, fun xs μ1 us H1 ⟨x, ds, e, hx, q⟩ iv st1 s1 => by
    subst e
    cases iv with
    | cons ix b =>
      cases b
      obtain ⟨a, vs, rfl, at_, ia⟩ := fzL_is ix hx
      refine ⟨a, vs, rfl, at_.sq, k _ _ μ1 _ H1 q st1 s1 fun μ2 H2 s2 st2 _ i => ⟨fun d hd => ?_, fun hl => ⟨vs, (at_.step s2).sq, by rw [ia.len]; unfold enumD at hl; rw [List.length_map, List.length_zipIdx] at hl; exact hl⟩⟩⟩
      obtain ⟨z, hz, rfl⟩ := enumD_get hd
      obtain ⟨u, e1, e2⟩ := (ia.step s2).get hz
      refine ⟨⟨vs, u, (at_.step s2).sq, e1⟩, fun y H3 ⟨Tp, x', hy, nT, hH, hv⟩ => ?_⟩
      subst hy hH
      have := hv vs (at_.step s2).sq
      rw [e1] at this; cases this
      have ss := step_new (μ := μ2) (o := .tup [.int (i : Nat), u]) nT (st2.free nT)
      exact ⟨.tup (.inl ⟨st2.free nT, upd_same⟩) (.cons (.int _) (.cons (e2.step ss) .nil)), st2.new nT, ss⟩⟩
theorem zipD_get {xs ys : List D} {i : Nat} {d : D} (h : (zipD xs ys)[i]? = some d) : ∃ x y, xs[i]? = some x ∧ ys[i]? = some y ∧ d = .tup [x, y] := by
  unfold zipD at h
  rw [List.getElem?_map] at h
  cases q : (xs.zip ys)[i]? with
  | none => rw [q] at h; cases h
  | some p =>
    rw [q] at h
    simp only [Option.map_some, Option.some.injEq] at h
    obtain ⟨h1, h2⟩ := List.getElem?_zip_eq_some.mp (show (xs.zip ys)[i]? = some (p.1, p.2) from q)
    exact ⟨p.1, p.2, h1, h2, h.symm⟩
theorem vi_zip {e e2 : Expr} {w : WA} {p pos tpos : Pos} {elts : List Expr} {kk : Nat} (hg : Gl X "zip") (hm : X.mg "zip" = none) (h : PA X [e, e2] (upA X.K T E w))
    (hs : starEach [e, e2] X.env = (false, eval e X.env) :: starEach [e2] X.env := by rfl) (hpl : (backTo pos (starEach [e2] X.env)).any (·.1) = false := by rfl) : PI X (.Tuple elts kk tpos) (.Call (.Name "zip" p) [e, e2] [] pos) (upI X.K T E (iwZ w)) :=
  pi_mono (RZ.pi_zipA hg hm h hs hpl) fun σ H R ⟨ρ, μ, ev, Ψ, en, st, xo, h, k⟩ => ⟨ρ, μ, ev, _, en, st, xo, h, fun xs μ1 us H1 ⟨x, y, ds, es, e, hx, q⟩ iv st1 s1 => by
    subst e
    cases iv with
    | cons ix b =>
      cases b with
      | cons iy c =>
        cases c
        rcases hx with ⟨hx, hy⟩ | ⟨hx, hy⟩
        · obtain ⟨a, vs, rfl, at_, ia⟩ := fzL_is ix hx
          obtain ⟨b, ws, rfl, bt_, ib⟩ := fzL_is iy hy
          refine ⟨a, b, vs, ws, rfl, .inl ⟨at_.sq, bt_.sq, k _ _ μ1 _ H1 q st1 s1 fun μ2 H2 s2 st2 _ i => ⟨fun d hd => ?_, fun hl => ⟨vs, ws, (at_.step s2).sq, (bt_.step s2).sq, ?_⟩⟩⟩⟩
          · obtain ⟨z, z', hz, hz', rfl⟩ := zipD_get hd
            obtain ⟨u, e1, e2⟩ := (ia.step s2).get hz
            obtain ⟨u', f1, f2⟩ := (ib.step s2).get hz'
            refine ⟨⟨vs, ws, u, u', (at_.step s2).sq, (bt_.step s2).sq, e1, f1⟩, fun y H3 ⟨Tp, x', y', hy, nT, hH, hv, hw⟩ => ?_⟩
            subst hy hH
            have := hv vs (at_.step s2).sq
            rw [e1] at this; cases this
            have := hw ws (bt_.step s2).sq
            rw [f1] at this; cases this
            have ss := step_new (μ := μ2) (o := .tup [u, u']) nT (st2.free nT)
            exact ⟨.tup (.inl ⟨st2.free nT, upd_same⟩) (.cons (e2.step ss) (.cons (f2.step ss) .nil)), st2.new nT, ss⟩
          · unfold zipD at hl
            rw [List.length_map, List.length_zip] at hl
            rw [ia.len, ib.len]; omega
        · obtain ⟨a, vs, rfl, at_, ia⟩ := tupOf_is ix hx
          obtain ⟨b, ws, rfl, bt_, ib⟩ := tupOf_is iy hy
          refine ⟨a, b, vs, ws, rfl, .inr ⟨at_.sq, bt_.sq, k _ _ μ1 _ H1 q st1 s1 fun μ2 H2 s2 st2 _ i => ⟨fun d hd => ?_, fun hl => ⟨vs, ws, (at_.step s2).sq, (bt_.step s2).sq, ?_⟩⟩⟩⟩
          · obtain ⟨z, z', hz, hz', rfl⟩ := zipD_get hd
            obtain ⟨u, e1, e2⟩ := (ia.step s2).get hz
            obtain ⟨u', f1, f2⟩ := (ib.step s2).get hz'
            refine ⟨⟨vs, ws, u, u', (at_.step s2).sq, (bt_.step s2).sq, e1, f1⟩, fun y H3 ⟨Tp, x', y', hy, nT, hH, hv, hw⟩ => ?_⟩
            subst hy hH
            have := hv vs (at_.step s2).sq
            rw [e1] at this; cases this
            have := hw ws (bt_.step s2).sq
            rw [f1] at this; cases this
            have ss := step_new (μ := μ2) (o := .tup [u, u']) nT (st2.free nT)
            exact ⟨.tup (.inl ⟨st2.free nT, upd_same⟩) (.cons (e2.step ss) (.cons (f2.step ss) .nil)), st2.new nT, ss⟩
          · unfold zipD at hl
            rw [List.length_map, List.length_zip] at hl
            rw [ia.len, ib.len]; omega⟩
/-! ### for -/
def forW (P : Mu → Prop) (g : WG) (b : WS) (DD : VEnds) (ev : EV) : List D → Ro → Mu → Prop
  | [], ρ, μ => P μ ∧ DD.nx ρ μ
  | d :: ds, ρ, μ => P μ ∧ g d ρ μ ev fun ρ' μ' => b { DD with nx := forW P g b DD ev ds, ct := forW P g b DD ev ds, bk := DD.nx } ρ' μ' ev
def wFor (wi : WI) (g : WG) (b : WS) : WS := fun DD ρ μ ev => wi ρ μ ev fun ds P μ1 => forW P g b DD ev ds ρ μ1
theorem vs_for {body : List Stmt} {wi : WI} {g : WG} {b : WS} (hp : PassesOwn (model X.prog X.w) X.A X.env X.xe) (hc : X.calm = true) (hi : PI X tg iter (upI X.K T E wi)) (hg : PG X tg (upG X.K T E g)) (hb : PSs X body (upS X.K T E b))
    (hs : ∀ x, foldedSetIterable iter X.env x = pure x := by intro _; rfl) : PS X (.For tg iter body [] pos) (upS X.K T E (wFor wi g b)) :=
  ps_mono (ps_for hp hc hi hg hb hs) fun Dn σ H ⟨ρ, μ, ev, DD, en, st, xo, h, k⟩ => ⟨ρ, μ, ev, _, en, st, xo, h, fun ds P μ1 J H1 q st1 s1 it => by
    refine ⟨fun i m σ2 H2 => m = ds.length - i ∧ i ≤ ds.length ∧ ∃ ρ2 μ2, Sl X.K μ2 H2 σ2 ρ2 ∧ Sto X.K T μ2 H2 ∧ Step μ1 H1 μ2 H2 ∧ forW P g b DD ev (ds.drop i) ρ2 μ2, ⟨_, rfl, Nat.zero_le _, ρ, μ1, en.step s1, st1, Step.refl _ _, q⟩, fun i m σ2 H2 ⟨em, hi, ρ2, μ2, en2, st2, s2, q2⟩ => ?_⟩
    by_cases hl : i < ds.length
    · have ed : ds.drop i = ds[i] :: ds.drop (i + 1) := (List.drop_eq_getElem_cons hl)
      rw [ed] at q2
      obtain ⟨hP, q2⟩ := q2
      have iok := it μ2 H2 s2 st2 hP i
      obtain ⟨go, yl⟩ := iok.1 ds[i] (by simp [hl])
      refine .inr ⟨go, fun σ3 H3 => ∃ ρ3 μ3, Sl X.K μ3 H3 σ3 ρ3 ∧ Sto X.K T μ3 H3 ∧ Step μ1 H1 μ3 H3 ∧ forW P g b DD ev (ds.drop (i + 1)) ρ3 μ3, fun σ3 H3 ⟨ρ3, μ3, z1, z2, z3, z4⟩ => ⟨ds.length - (i + 1), by omega, rfl, by omega, ρ3, μ3, z1, z2, z3, z4⟩, fun x H3 y => ?_⟩
      obtain ⟨ix, st3, s3⟩ := yl x H3 y
      have s13 := s1.trans (s2.trans s3)
      refine ⟨ds[i], ρ2, μ2, ev, _, ix, en2.step s3, st3, xo.step s13, q2, fun ρ4 μ4 σ4 H4 q4 en4 st4 s4 => ⟨ρ4, μ4, ev, _, en4, st4, xo.step (s13.trans s4), q4, ?_⟩⟩
      have k4 := k.step (s13.trans s4)
      exact ⟨fun ρ5 μ5 σ5 H5 q5 en5 st5 s5 => ⟨ρ5, μ5, en5, st5, s2.trans (s3.trans (s4.trans s5)), q5⟩, k4.2.1, k4.1, fun ρ5 μ5 σ5 H5 q5 en5 st5 s5 => ⟨ρ5, μ5, en5, st5, s2.trans (s3.trans (s4.trans s5)), q5⟩⟩
    · have ei : i = ds.length := by omega
      subst ei
      rw [List.drop_length] at q2
      obtain ⟨hP, q2⟩ := q2
      exact .inl ⟨(it μ2 H2 s2 st2 hP _).2 (Nat.le_refl _), (k.step (s1.trans s2)).nx q2 en2 st2⟩⟩
/-! ### list comprehensions -/
def wipeR (ρ : Ro) : List Nat → Ro
  | [] => ρ
  | v :: vs => (wipeR ρ vs).set v none
def lcW (P : Mu → Prop) (p : Pat) (t : WT) (w : WE) (vs : List Nat) (ρ : Ro) (ev : EV) (Ds : Addr) (Φ : WK) : List D → Mu → Prop
  | [], μ => P μ ∧ Φ (.ref Ds) μ
  | d :: ds, μ => P μ ∧ ∃ ρ1, p.bind d (wipeR ρ vs) = some ρ1 ∧ t ρ1 μ ev fun b μ1 => if b = true then w ρ1 μ1 ev fun y μ2 => ∃ acc, μ2 Ds = some (.lst acc) ∧ acc.length < sizeLine ∧ lcW P p t w vs ρ ev Ds Φ ds (μ2.set Ds (.lst (acc ++ [y]))) else lcW P p t w vs ρ ev Ds Φ ds μ1
def wLc (wi : WI) (p : Pat) (t : WT) (w : WE) (vs : List Nat) : WE := fun ρ μ ev Φ => wi ρ μ ev fun ds P μ1 => ∀ Ds, μ1 Ds = none → lcW P p t w vs ρ ev Ds Φ ds (μ1.set Ds (.lst []))
def wYes : WT := fun _ μ _ Φ => Φ true μ
theorem wipeR_length (ρ : Ro) : ∀ vs : List Nat, (wipeR ρ vs).length = ρ.length
  | [] => rfl
  | v :: vs => by rw [wipeR, List.length_set, wipeR_length ρ vs]
theorem Sl.wipe {K : PySem.W.Frag} {μ : Mu} {H : Hp} {σ : L2.St} {ρ : Ro} (en : Sl K μ H σ ρ) : ∀ vs : List Nat, Sl K μ H (wipe σ vs) (wipeR ρ vs)
  | [] => en
  | v :: vs => by
    have ih := Sl.wipe en vs
    refine ⟨by rw [L2.wipe, wipeR, List.length_set, List.length_set]; exact ih.1, fun i d h => ?_⟩
    rw [wipeR] at h
    rw [L2.wipe]
    by_cases hi : v = i
    · subst hi
      by_cases hl : v < (wipeR ρ vs).length
      · rw [List.getElem?_set_self hl] at h; cases h
      · rw [List.getElem?_eq_none (by rw [List.length_set]; omega)] at h; cases h
    · rw [List.getElem?_set_ne hi] at h
      rw [List.getElem?_set_ne hi]
      exact ih.2 i d h
theorem wipe_get (σ : L2.St) : ∀ (vs : List Nat) (i : Nat), i ∉ vs → (wipe σ vs)[i]? = σ[i]?
  | [], _, _ => rfl
  | v :: vs, i, h => by
    rw [List.mem_cons, not_or] at h
    rw [L2.wipe, List.getElem?_set_ne (fun z => h.1 z.symm), wipe_get σ vs i h.2]
theorem wipe_in (σ : L2.St) : ∀ (vs : List Nat) (i : Nat), i ∈ vs → i < σ.length → (wipe σ vs)[i]? = some none
  | [], _, h, _ => nomatch h
  | v :: vs, i, h, hl => by
    rw [L2.wipe]
    by_cases hi : v = i
    · subst hi; rw [List.getElem?_set_self (by rw [wipe_length]; exact hl)]
    · rw [List.getElem?_set_ne hi]
      rcases List.mem_cons.mp h with z | z
      · exact (hi z.symm).elim
      · exact wipe_in σ vs i z hl
theorem Same.wipe {ps vs : List Nat} {σ σ2 : L2.St} (s : Same ps (wipe σ vs) σ2) (h : ∀ i ∈ ps, i ∈ vs) : wipe σ2 vs = wipe σ vs := by
  refine List.ext_getElem? fun i => ?_
  have hl : σ2.length = σ.length := by rw [s.1, wipe_length]
  by_cases hi : i ∈ vs
  · by_cases hb : i < σ.length
    · rw [wipe_in σ vs i hi hb, wipe_in σ2 vs i hi (by rw [hl]; exact hb)]
    · rw [List.getElem?_eq_none (by rw [wipe_length]; omega), List.getElem?_eq_none (by rw [wipe_length]; omega)]
  · rw [wipe_get σ2 vs i hi, s.2 i (fun z => hi (h i z))]
theorem lcD_up {K : PySem.W.Frag} {T : List (Addr × Str)} {J : It} {ds : List D} {P : Mu → Prop} {μ1 : Mu} {H1 : Hp} {p : Pat} {t : WT} {w : WE} {vs : List Nat} {ρ : Ro} {σ : L2.St} {ev : EV} {Φ : WK} {Q : VK} (en : Sl K μ1 H1 σ ρ) (st1 : Sto K T μ1 H1) (xo : XOk K T μ1 H1 ev E) (k : KOk K T μ1 H1 Φ Q) (it : ItOk K T J ds P μ1 H1) (hv : ∀ i ∈ p.slots, i ∈ vs)
    (q : ∀ Ds, μ1 Ds = none → lcW P p t w vs ρ ev Ds Φ ds (μ1.set Ds (.lst []))) (Ds : Addr) (nD : H1 Ds = none) :
    ∃ W : Nat → Nat → Hp → Prop, (∃ m, W 0 m (upd H1 Ds (.lst []))) ∧ ∀ i m H, W i m H → (J.stop i H ∧ Q (.ref Ds) H) ∨ (J.go i H ∧ ∃ Nx : Hp → Prop, (∀ H', Nx H' → ∃ m', m' < m ∧ W (i + 1) m' H') ∧ ∀ x H', J.yld i H x H' → p.tg K x (wipe σ vs) H' fun σ2 H2 => wipe σ2 vs = wipe σ vs ∧ upT K T E t σ2 H2 fun b H3 =>
      if b = true then up K T E w σ2 H3 fun y H4 => ∃ acc, H4 Ds = some (.lst acc) ∧ acc.length < sizeLine ∧ Nx (upd H4 Ds (.lst (acc ++ [y]))) else Nx H3) := by
  have fD := st1.free nD
  have sN := step_newM (μ := μ1) (m := .lst []) (o := .lst []) nD
  refine ⟨fun i m H2 => m = ds.length - i ∧ i ≤ ds.length ∧ ∃ μ2, Sto K T μ2 H2 ∧ Step μ1 H1 μ2 H2 ∧ lcW P p t w vs ρ ev Ds Φ (ds.drop i) μ2, ⟨_, rfl, Nat.zero_le _, _, st1.newM (m := .lst []) (o := .lst []) nD ⟨[], upd_same, .nil⟩, sN, q Ds fD⟩, fun i m H2 ⟨em, hi, μ2, st2, s2, q2⟩ => ?_⟩
  by_cases hl : i < ds.length
  · have ed : ds.drop i = ds[i] :: ds.drop (i + 1) := (List.drop_eq_getElem_cons hl)
    rw [ed] at q2
    obtain ⟨hP, ρ1, hb, q2⟩ := q2
    obtain ⟨go, yl⟩ := (it μ2 H2 s2 st2 hP i).1 ds[i] (by simp [hl])
    refine .inr ⟨go, fun H3 => ∃ μ3, Sto K T μ3 H3 ∧ Step μ1 H1 μ3 H3 ∧ lcW P p t w vs ρ ev Ds Φ (ds.drop (i + 1)) μ3, fun H3 ⟨μ3, z2, z3, z4⟩ => ⟨ds.length - (i + 1), by omega, rfl, by omega, μ3, z2, z3, z4⟩, fun x H3 y => ?_⟩
    obtain ⟨ix, st3, s3⟩ := yl x H3 y
    have s13 := s2.trans s3
    refine Pat.run p ix ((en.step s13).wipe vs) hb fun σ2 en2 sm => ⟨sm.wipe hv, ρ1, μ2, ev, _, en2, st3, xo.step s13, q2, fun b μ4 H4 q4 st4 s4 => ?_⟩
    cases b with
    | false => exact ⟨μ4, st4, s13.trans s4, q4⟩
    | true =>
      refine ⟨ρ1, μ4, ev, _, en2.step s4, st4, xo.step (s13.trans s4), q4, fun y μ5 v H5 ⟨acc, ha, hn, q5⟩ iy st5 s5 => ?_⟩
      obtain ⟨us, hu, iu⟩ := st5.mo _ _ ha
      have s6 := step_set (H := H5) (m' := .lst (acc ++ [y])) (o := .lst (us ++ [v])) ha
      refine ⟨us, hu, by rw [iu.len]; exact hn, _, st5.set (m' := .lst (acc ++ [y])) ha ⟨_, upd_same, (iu.app (.cons iy .nil)).step s6⟩, s13.trans (s4.trans (s5.trans s6)), q5⟩
  · have ei : i = ds.length := by omega
    subst ei
    rw [List.drop_length] at q2
    obtain ⟨hP, q2⟩ := q2
    exact .inl ⟨(it μ2 H2 s2 st2 hP _).2 (Nat.le_refl _), k _ _ _ _ q2 (.ref Ds) st2 s2⟩
theorem ve_lc {elt : Expr} {ifs : List Expr} {scope : Scope} {own : List (Str × Nat)} {wi : WI} {p : Pat} {t : WT} {w : WE} (hc : X.calm = true) (hN : X.N.Nodup) (hi : PI X tg iter (upI X.K T E wi)) (ok : BlkOk X.N X.env.scope scope own)
    (hg : ∀ (s : Shared) (H : Hp) (C : Addr) (cl : List (Str × Addr)) (fp : List Addr), PG (X.blk s H scope (compEnvC scope cl C X.env) fp) tg (p.tg X.K)) (ht : ∀ (s : Shared) (H : Hp) (C : Addr) (cl : List (Str × Addr)) (fp : List Addr), PTs (X.blk s H scope (compEnvC scope cl C X.env) fp) ifs (upT X.K T E0 t))
    (he : ∀ (s : Shared) (H : Hp) (C : Addr) (cl : List (Str × Addr)) (fp : List Addr), PE (X.blk s H scope (compEnvC scope cl C X.env) fp) elt (up X.K T E0 w)) (hv : ∀ i ∈ p.slots, i ∈ own.map (·.2)) (hs : ∀ x, foldedSetIterable iter X.env x = pure x := by intro _; rfl) :
    PE X (.ListComp elt [⟨tg, iter, ifs, 0⟩] scope pos) (up X.K T E (fun ρ μ _ Φ => wLc wi p t w (own.map (·.2)) ρ μ ev0 Φ)) :=
  pe_mono (pe_lc (own := own) hc hN hi ok hg ht he hs) fun σ H Q ⟨ρ, μ, ev, Φ, en, st, xo, h, k⟩ => ⟨ρ, μ, ev0, _, en, st, xok0, h, fun ds P μ1 J H1 q st1 s1 it Ds nD => lcD_up (en.step s1) st1 xok0 (k.step s1) it hv q Ds nD⟩
theorem vs_setLc {i : Nat} {y : Str} {py : Pos} {elt : Expr} {ifs : List Expr} {scope : Scope} {own : List (Str × Nat)} {spos : Pos} {wi : WI} {p : Pat} {t : WT} {w : WE} (hc : X.calm = true) (hN : X.N.Nodup) (hy : X.N[i]? = some y) (hyl : X.env.scope.names.lookup y = some .local)
    (hsw : swapsWith (.ListComp elt [⟨tg, iter, ifs, 0⟩] scope pos) (some (.Name y py)) spos.line X.env = pure true) (hi : PI X tg iter (upI X.K T E wi)) (ok : BlkOk X.N X.env.scope scope own)
    (hg : ∀ (s : Shared) (H : Hp) (C : Addr) (cl : List (Str × Addr)) (fp : List Addr), PG (X.blk s H scope (compEnvC scope cl C X.env) fp) tg (p.tg X.K)) (ht : ∀ (s : Shared) (H : Hp) (C : Addr) (cl : List (Str × Addr)) (fp : List Addr), PTs (X.blk s H scope (compEnvC scope cl C X.env) fp) ifs (upT X.K T E0 t))
    (he : ∀ (s : Shared) (H : Hp) (C : Addr) (cl : List (Str × Addr)) (fp : List Addr), PE (X.blk s H scope (compEnvC scope cl C X.env) fp) elt (up X.K T E0 w)) (hv : ∀ i ∈ p.slots, i ∈ own.map (·.2)) (hs : ∀ x, foldedSetIterable iter X.env x = pure x := by intro _; rfl) :
    PS X (.Assign [.Name y py] (.ListComp elt [⟨tg, iter, ifs, 0⟩] scope pos) spos) (upS X.K T E (wAsg (fun ρ μ _ Φ => wLc wi p t w (own.map (·.2)) ρ μ ev0 Φ) (wName i))) :=
  ps_mono (ps_setLc (own := own) hc hN hy hyl hsw hi ok hg ht he hs) fun Dn σ H ⟨ρ, μ, ev, DD, en, st, xo, h, k⟩ => by
    have kk : KOk X.K T μ H (fun d μ1 => wName i d ρ μ1 ev DD.nx) (fun x H1 => gName i x σ H1 Dn.nx) := fun d μ1 v H1 hd iv st1 s1 => (k.step s1).nx hd ((en.step s1).set i iv) st1
    exact ⟨ρ, μ, ev0, _, en, st, xok0, h, fun ds P μ1 J H1 q st1 s1 it Ds nD => lcD_up (en.step s1) st1 xok0 (kk.step s1) it hv q Ds nD⟩
theorem vts_nil {X : Cx} : PTs X [] (upT X.K T E wYes) := ⟨fun pins s σ H Q I ⟨ρ, μ, ev, Φ, en, st, xo, h, k⟩ => pts_nil.run pins s σ H Q I (k true μ H h st (Step.refl _ _))⟩
theorem vts_one {X : Cx} {c : Expr} {t : WT} (h : PT X c (upT X.K T E t)) : PTs X [c] (upT X.K T E t) := pts_one h
end
end VL

set_option maxRecDepth 100000
set_option maxHeartbeats 4000000
/-! values as trees: defs, calls, methods, classes, attributes, exceptions -/
namespace VL
open PySem L2 FW PyProof.Rows
/-! ### a def's promise from its body -/
def vstart (N : List Str) (ds : List D) : Ro := ds.map some ++ List.replicate (N.length - ds.length) none
theorem env_start {K : PySem.W.Frag} {μ : Mu} {H : Hp} {N : List Str} {vs : List V} {ds : List D} (h : IsAll K μ H vs ds) : Sl K μ H (L2.start N vs) (vstart N ds) := by
  unfold L2.start vstart
  refine ⟨by simp [h.len], fun i d e => ?_⟩
  by_cases hi : i < ds.length
  · rw [List.getElem?_append_left (by rw [List.length_map]; exact hi), List.getElem?_map] at e
    rw [List.getElem?_append_left (by rw [List.length_map, h.len]; exact hi), List.getElem?_map]
    cases q : ds[i]? with
    | none => rw [q] at e; cases e
    | some x =>
      rw [q] at e; cases e
      obtain ⟨v, e1, e2⟩ := h.get q
      exact ⟨v, by rw [e1]; rfl, e2⟩
  · rw [List.getElem?_append_right (by rw [List.length_map]; omega), List.getElem?_replicate] at e
    split at e <;> cases e
section
variable {P : Program} {w : World} {K : PySem.W.Frag} {mg : Str → Option Value} {base : Heap} {CX : CXT} {T : List (Addr × Str)}
theorem fun_okV {x qual : Str} {st : Stmt} {f : Addr} {fd : FuncData} {N ps : List Str} {k : Nat} {sp : VSp} (F : Fun K x qual st f fd) (S : FnScope N ps (defScope st)) (size : ∀ ds μ ev Φ, sp ds μ ev Φ → ds.length = ps.length)
    (walk : ∀ (cdv : Value) (A : Around) (outer : List PySem.Env) (s : Shared) (H : Hp) (E : XK), (A.deeper (envOfC qual (defScope st) s.heap.objs.size f cdv)).guards = some [] → Room k (A.deeper (envOfC qual (defScope st) s.heap.objs.size f cdv)) →
      (∀ oc od kV doc pm an ct osl, K.lookup f = some ⟨oc, od, .func (PySem.W.fnOf x qual (defArgs st) (defBody st) (defScope st) .none kV doc pm an cdv ct), osl⟩ →
      ∃ t, PSs (cxOf CX P w K mg base N qual (defScope st) f cdv A outer s H E) (defBody st) (upS K T E t) ∧ ∀ ds μ ev Φ, sp ds μ ev Φ → t { nx := fun _ μ' => Φ .non μ', rt := Φ } (vstart N ds) μ ev)) : FnG P w K mg base CX (k + 1) f fd ps (lift K T sp) := by
  refine fun_okG F S (fun vs H Q E ⟨ds, μ, ev, Φ, ia, _, _, h, _⟩ => by rw [ia.len]; exact size _ _ _ _ h) (fun cdv A outer s H vs Q E hG hr oc od kV doc pm an ct osl lk ⟨ds, μ, ev, Φ, ia, st, xo, h, k⟩ => ?_)
  obtain ⟨t, ht, hq⟩ := walk cdv A outer s H E hG hr oc od kV doc pm an ct osl lk
  refine ⟨_, ht, vstart N ds, μ, ev, _, env_start ia, st, xo, hq ds μ ev Φ h, fun ρ' μ' σ' H' q en st' s' => ?_, k, fun _ _ _ _ z => z.elim, fun _ _ _ _ z => z.elim⟩
  exact k .non μ' .non H' q .non st' s'
end
/-! ### how arguments come to parameters -/
inductive Arg where
  | pos (i : Nat) | dflt (v : V) (d : D)
def argV (vs : List V) : Arg → V
  | .pos i => vs.getD i .non
  | .dflt v _ => v
def argD (ds : List D) : Arg → D
  | .pos i => ds.getD i .non
  | .dflt _ d => d
def argsV (as : List Arg) (vs zs : List V) : List V := as.map (argV (vs ++ zs))
def argsD (as : List Arg) (ds es : List D) : List D := as.map (argD (ds ++ es))
def Arg.Ok (K : PySem.W.Frag) (n : Nat) : Arg → Prop
  | .pos i => i < n
  | .dflt v d => ∀ μ H, Is K μ H v d
theorem is_argsD {K : PySem.W.Frag} {μ : Mu} {H : Hp} {vs zs : List V} {ds es : List D} (h : IsAll K μ H vs ds) (g : IsAll K μ H zs es) : ∀ as : List Arg, (∀ a ∈ as, a.Ok K (vs.length + zs.length)) → IsAll K μ H (argsV as vs zs) (argsD as ds es)
  | [], _ => .nil
  | .pos i :: as, ok => by
    have o : i < vs.length + zs.length := ok (.pos i) (List.mem_cons_self ..)
    have all := h.app g
    have hl := all.len
    have hi : i < (ds ++ es).length := by rw [← hl, List.length_append]; exact o
    obtain ⟨v, e1, e2⟩ := all.get (i := i) (d := (ds ++ es)[i]) (by simp [hi])
    refine .cons ?_ (is_argsD h g as fun a ha => ok a (List.mem_cons_of_mem _ ha))
    show Is K μ H ((vs ++ zs).getD i .non) ((ds ++ es).getD i .non)
    rw [List.getD_eq_getElem?_getD, List.getD_eq_getElem?_getD, e1, List.getElem?_eq_getElem hi]
    exact e2
  | .dflt v d :: as, ok => .cons (ok (.dflt v d) (List.mem_cons_self ..) μ H) (is_argsD h g as fun a ha => ok a (List.mem_cons_of_mem _ ha))
/-- a def at f, its promise, how n values and the keywords ks come to its parameters -/
structure CanV (P : Program) (w : World) (K : PySem.W.Frag) (mg : Str → Option Value) (base : Heap) (CX : CXT) (T : List (Addr × Str)) (k : Nat) (f : Addr) (n : Nat) (ks : List Str) (as : List Arg) (sp : VSp) : Prop where
  ex : ∃ (fd : FuncData) (ps : List Str) (g : List Value → List Value → List Value), FnG P w K mg base CX k f fd ps (lift K T sp) ∧ PySem.W.keepIn K (.ref f) = true ∧ KBn K fd ps n ks g (argsV as)
  ok : ∀ a ∈ as, a.Ok K (n + ks.length)
section
variable {X : Cx} {CX : CXT} {k j n : Nat} {f C : Addr} {fd : FuncData} {ps ks : List Str} {sp : Sp} {E : XK} {g : List Value → List Value → List Value} {gV : List V → List V → List V} {pins : List (Addr × Obj)} {σ : L2.St} {H : Hp} {s : Shared} {Q : VK} {us ws : List Value} {vs zs : List V}
theorem run_g (F : FnG X.prog X.w X.K X.mg X.base CX k f fd ps sp) (hG : X.A.guards = some []) (hr : Room k X.A) (hb : KBn X.K fd ps n ks g gV) (hx : Passes CX X E) (I : Inv X pins σ H s) (r : Vals vs us) (rz : Vals zs ws) (l1 : vs.length = n) (l2 : zs.length = ks.length) (h : sp (gV vs zs) H Q E) :
    wpAny (model X.prog X.w) X.A (call (.ref f) us (ks.zip ws)) (EP X pins σ Q) X.xe s := by
  have go := F.goes X.A X.stack s H ⟨us, ks.zip ws⟩ (g us ws) (gV vs zs) Q E hG hr I.env0 (hb.to s us ws I.kIn (by rw [← r.length]; exact l1) (by rw [← rz.length]; exact l2)) (hb.rel r rz) h
  refine wpAny_call (codeAny_mono go fun z s2 hz => ?_)
  match z, hz with
  | .error e, hz => exact hx pins σ H s e s2 I hz
  | .ok (.ret u), hz => exact I.after hz
  | .ok .next, hz => exact (show False from hz).elim
  | .ok .brk, hz => exact (show False from hz).elim
  | .ok .cont, hz => exact (show False from hz).elim
theorem run_mg (M : Mk X.K C f) (F : FnG X.prog X.w X.K X.mg X.base CX k f fd ps sp) (hG : X.A.guards = some []) (hr : Room (k + 1) X.A) (hb : KBn X.K fd ps (n + 1) ks g gV) (hx : Passes CX X E) (I : Inv X pins σ H s) (r : Vals vs us) (rz : Vals zs ws) (l1 : vs.length = n) (l2 : zs.length = ks.length)
    (h : ∀ a dx, H a = none → H dx = none → dx ≠ a → sp (gV (.ref a :: vs) zs) (upd (upd H dx (.own a)) a (.ins C dx [])) (fun v H2 => v = .non ∧ Q (.ref a) H2) E) :
    wpAny (model X.prog X.w) X.A (call (.ref C) us (ks.zip ws)) (EP X pins σ Q) X.xe s := by
  have here := h (s.heap.objs.size + 1) s.heap.objs.size (I.hok.fresh (Nat.le_succ _)) (I.hok.fresh (Nat.le_refl _)) (fun z => absurd z (Nat.ne_of_lt (Nat.lt_succ_self _)))
  have J := Inv.made (C := C) I
  have rr : Vals (V.ref (s.heap.objs.size + 1) :: vs) (Value.ref (s.heap.objs.size + 1) :: us) := .cons rfl r
  have n1 : (Value.ref (s.heap.objs.size + 1) :: us).length = n + 1 := by rw [List.length_cons, ← r.length, l1]
  have n2 : ws.length = ks.length := by rw [← rz.length]; exact l2
  have go := F.goes (X.A.under (.builtin "type.__call__" ⟨.ref C :: us, ks.zip ws⟩)) X.stack _ _ ⟨Value.ref (s.heap.objs.size + 1) :: us, ks.zip ws⟩ _ _ _ E (by first | exact hG | (simpa [Around.under] using hG)) (hr.make C us (ks.zip ws)) (J.env0.make C us (ks.zip ws)) (hb.to _ _ ws J.kIn n1 n2) (hb.rel rr rz) here
  refine wpAny_call (make_map (f := f) I.kIn M.makes M.init (beq_iff_eq.mp M.fn) (codeAny_mono go fun z s2 hz => ?_))
  match z, hz with
  | .error e, hz => exact hx pins σ _ _ e s2 J hz
  | .ok (.ret u), hz =>
    obtain ⟨v, H2, J2, rv, ev, q⟩ := J.after hz
    subst ev
    exact ⟨rv, ⟨.ref (s.heap.objs.size + 1), H2, J2, rfl, q⟩⟩
  | .ok .next, hz => exact (show False from hz).elim
  | .ok .brk, hz => exact (show False from hz).elim
  | .ok .cont, hz => exact (show False from hz).elim
end
/-- what is wished of an exception of the callee's, out of what is wished of one here -/
def Sel (E E' : XK) (sel : EV → EV) : Prop := ∀ K T μ H ev, XOk K T μ H ev E → XOk K T μ H (sel ev) E'
theorem sel_id {E : XK} : Sel E E id := fun _ _ _ _ _ h => h
theorem sel_0 {E E' : XK} : Sel E E' fun _ => ev0 := fun _ _ _ _ _ _ => xok0
def wCall (sel : EV → EV) (as : List Arg) (sp : VSp) (n m : Nat) (w wk : WA) : WE := fun ρ μ ev Φ => w ρ μ ev fun ds μ1 => wk ρ μ1 ev fun es μ2 => ds.length = n ∧ es.length = m ∧ sp (argsD as ds es) μ2 (sel ev) Φ
/-- C(..): the instance may change; in __init__ it has nothing at first -/
def wMake (sel : EV → EV) (C : Addr) (as : List Arg) (sp : VSp) (n m : Nat) (w wk : WA) : WE := fun ρ μ ev Φ => w ρ μ ev fun ds μ1 => wk ρ μ1 ev fun es μ2 => ds.length = n ∧ es.length = m ∧ ∀ a, μ2 a = none → sp (argsD as (.ref a :: ds) es) (μ2.set a (.ins C [] [])) (sel ev) fun d μ3 => d = .non ∧ Φ (.ref a) μ3
def wMeth (sel : EV → EV) (C : Addr) (m : Str) (as : List Arg) (sp : VSp) (n mk : Nat) (wo : WE) (w wk : WA) : WE := fun ρ μ ev Φ => wo ρ μ ev fun x μ0 => ∃ ns fs, insOf μ0 x = some (C, ns, fs) ∧ m ∉ ns ∧ w ρ μ0 ev fun ds μ1 => wk ρ μ1 ev fun es μ2 => ds.length = n ∧ es.length = mk ∧ sp (argsD as (x :: ds) es) μ2 (sel ev) Φ
theorem lookup_not {ns : List Str} {vs : List V} {m : Str} (h : m ∉ ns) : (ns.zip vs).lookup m = none := by
  induction ns generalizing vs with
  | nil => rfl
  | cons n ns ih =>
    cases vs with
    | nil => rfl
    | cons v vs =>
      rw [List.mem_cons, not_or] at h
      rw [List.zip_cons_cons, List.lookup_cons]
      have : (m == n) = false := by simp [h.1]
      rw [this]
      exact ih h.2
section
variable {X : Cx} {CX : CXT} {T : List (Addr × Str)} {k j n : Nat} {f C : Addr} {x m : Str} {ks : List Str} {as : List Arg} {sp : VSp} {E E' : XK} {sel : EV → EV} {p pos apos : Pos} {e o : Expr} {es : List Expr} {kws : List Keyword} {w wk : WA} {wo we : WE}
theorem vk_nil : PK X [] (upA X.K T E wNil) := pk_mono pk_nil fun σ H Q ⟨ρ, μ, ev, Φ, en, st, xo, h, k⟩ => k [] μ [] H h .nil st (Step.refl _ _)
theorem vk_cons {nm : Option Str} {kp : Pos} (ha : PE X e (up X.K T E we)) (hr : PK X kws (upA X.K T E w)) : PK X (⟨nm, e, kp⟩ :: kws) (upA X.K T E (wCons we w)) :=
  pk_mono (pk_cons ha hr) fun σ H Q ⟨ρ, μ, ev, Φ, en, st, xo, h, k⟩ => ⟨ρ, μ, ev, _, en, st, xo, h, fun x μ1 v H1 hx ix st1 s1 =>
    ⟨ρ, μ1, ev, _, en.step s1, st1, xo.step s1, hx, fun xs μ2 vs H2 hy iy st2 s2 => k _ μ2 _ H2 hy (.cons (ix.step s2) iy) st2 (s1.trans s2)⟩⟩
/-- what the arguments' reading leaves, for the callee's promise -/
theorem into_call {K : PySem.W.Frag} {μ μ1 μ2 : Mu} {H H1 H2 : Hp} {ev : EV} {Φ : WK} {Q : VK} {ds fs : List D} {vs zs : List V} (hs : Sel E E' sel) (ok : ∀ a ∈ as, a.Ok K (n + ks.length)) (xo : XOk K T μ H ev E) (k : KOk K T μ H Φ Q) (i1 : IsAll K μ1 H1 vs ds) (s1 : Step μ H μ1 H1) (i2 : IsAll K μ2 H2 zs fs) (st2 : Sto K T μ2 H2) (s2 : Step μ1 H1 μ2 H2)
    (l1 : ds.length = n) (l2 : fs.length = ks.length) (h : sp (argsD as ds fs) μ2 (sel ev) Φ) : lift K T sp (argsV as vs zs) H2 Q E' :=
  ⟨_, μ2, _, Φ, is_argsD (i1.step s2) i2 as (by rw [i1.len, i2.len, l1, l2]; exact ok), st2, hs _ _ _ _ _ (xo.step (s1.trans s2)), h, k.step (s1.trans s2)⟩
theorem ve_call (hm : X.mg x = some (.ref f)) (c : CanV X.prog X.w X.K X.mg X.base CX T k f n ks as sp) (hG : X.A.guards = some []) (hr : Room j X.A) (hk : k ≤ j) (hx : Passes CX X E') (hs : Sel E E' sel) (hg : Gl X x) (ha : PA X (e :: es) (upA X.K T E w)) (hkw : PK X kws (upA X.K T E wk))
    (hall : (backToKw pos (keywordEach kws X.env)).all (·.1.isSome) = true := by rfl) (hks : (backToKw pos (keywordEach kws X.env)).filterMap (·.1) = ks := by rfl) (hdb : (x == ("__debug__" : Str)) = false := by decide)
    (he : starEach (e :: es) X.env = (false, eval e X.env) :: starEach es X.env := by rfl) (hpl : ((backTo pos (starEach (e :: es) X.env)).any (·.1) || (backToKw pos (keywordEach kws X.env)).any (·.1.isNone)) = false := by rfl) :
    PE X (.Call (.Name x p) (e :: es) kws pos) (up X.K T E (wCall sel as sp n ks.length w wk)) := by
  obtain ⟨⟨fd, ps, g, F, kp, hb⟩, ok⟩ := c
  refine ⟨fun pins s σ H Q I ⟨ρ, μ, ev, Φ, en, st, xo, h, k⟩ => wpAny_Call_Name_kw (ld_glob I hg hm (PySem.W.callWith_KW (h₀ := X.base) I.ok.mod.kin kp hall ?_ hpl he) hdb)⟩
  refine thn (ha.run pos pins s σ H _ I ⟨ρ, μ, ev, _, en, st, xo, h, fun ds μ1 vs H1 q i1 st1 s1 => (show upA X.K T E wk σ H1 (fun zs H2 => vs.length = n ∧ zs.length = ks.length ∧ lift X.K T sp (argsV as vs zs) H2 Q E') from
    ⟨ρ, μ1, ev, _, en.step s1, st1, xo.step s1, q, fun fs μ2 zs H2 ⟨l1, l2, q2⟩ i2 st2 s2 => ⟨by rw [i1.len]; exact l1, by rw [i2.len]; exact l2, into_call hs ok xo k i1 s1 i2 st2 s2 l1 l2 q2⟩⟩)⟩) fun us s1 y => ?_
  obtain ⟨vs, H1, J1, r, q⟩ := y
  refine thn (hkw.run pos pins s1 σ H1 _ J1 q) fun ws s2 y => ?_
  obtain ⟨zs, H2, J2, rz, l1, l2, q2⟩ := y
  refine ⟨J2.kIn, ?_⟩
  rw [hks]
  exact run_g F hG (hr.mono hk) hb hx J2 r rz l1 l2 q2
theorem ve_callN0 (hm : X.mg x = some (.ref f)) (c : CanV X.prog X.w X.K X.mg X.base CX T k f 0 ks as sp) (hG : X.A.guards = some []) (hr : Room j X.A) (hk : k ≤ j) (hx : Passes CX X E') (hs : Sel E E' sel) (hg : Gl X x) (hkw : PK X kws (upA X.K T E wk))
    (hall : (backToKw pos (keywordEach kws X.env)).all (·.1.isSome) = true := by rfl) (hks : (backToKw pos (keywordEach kws X.env)).filterMap (·.1) = ks := by rfl) (hdb : (x == ("__debug__" : Str)) = false := by decide)
    (hpl : ((backTo pos (starEach [] X.env)).any (·.1) || (backToKw pos (keywordEach kws X.env)).any (·.1.isNone)) = false := by rfl) :
    PE X (.Call (.Name x p) [] kws pos) (up X.K T E (wCall sel as sp 0 ks.length wNil wk)) := by
  obtain ⟨⟨fd, ps, g, F, kp, hb⟩, ok⟩ := c
  refine ⟨fun pins s σ H Q I ⟨ρ, μ, ev, Φ, en, st, xo, h, k⟩ => wpAny_Call_Name_kw (ld_glob I hg hm (PySem.W.callWith_KW0 (h₀ := X.base) I.ok.mod.kin kp hall ?_ hpl) hdb)⟩
  refine thn (hkw.run pos pins s σ H _ I (show upA X.K T E wk σ H (fun zs H2 => zs.length = ks.length ∧ lift X.K T sp (argsV as [] zs) H2 Q E') from
    ⟨ρ, μ, ev, _, en, st, xo, h, fun fs μ2 zs H2 ⟨l1, l2, q2⟩ i2 st2 s2 => ⟨by rw [i2.len]; exact l2, into_call (ds := []) (vs := []) hs ok xo k .nil (Step.refl _ _) i2 st2 s2 l1 l2 q2⟩⟩)) fun ws s2 y => ?_
  obtain ⟨zs, H2, J2, rz, l2, q2⟩ := y
  refine ⟨J2.kIn, ?_⟩
  rw [hks]
  exact run_g (us := []) (vs := []) F hG (hr.mono hk) hb hx J2 .nil rz rfl l2 q2
/-- a local name that holds a def -/
structure HeldV (P : Program) (w : World) (K : PySem.W.Frag) (mg : Str → Option Value) (base : Heap) (T : List (Addr × Str)) (k : Nat) (f : Addr) (n : Nat) (sp : VSp) : Prop where
  ex : ∃ as, CanV P w K mg base CX0 T k f n [] as sp ∧ ∀ ds : List D, ds.length = n → argsD as ds [] = ds
def wHeld (P : Program) (w : World) (K : PySem.W.Frag) (mg : Str → Option Value) (base : Heap) (T : List (Addr × Str)) (k i n : Nat) (wa : WA) : WE := fun ρ μ ev Φ => ∃ f sp, ρ[i]? = some (some (.ref f)) ∧ HeldV P w K mg base T k f n sp ∧ wa ρ μ ev fun ds μ1 => ds.length = n ∧ sp ds μ1 ev0 Φ
theorem ve_held {i : Nat} (hG : X.A.guards = some []) (hr : Room k X.A) (hN : X.N[i]? = some x) (hv : Vis X.env.scope x) (ha : PA X (e :: es) (upA X.K T E w)) (hdb : (x == ("__debug__" : Str)) = false := by decide) (hcd : (x == ("__classdict__" : Str)) = false := by decide)
    (he : starEach (e :: es) X.env = (false, eval e X.env) :: starEach es X.env := by rfl) (hpl : ((backTo pos (starEach (e :: es) X.env)).any (·.1) || (backToKw pos (keywordEach [] X.env)).any (·.1.isNone)) = false := by rfl) :
    PE X (.Call (.Name x p) (e :: es) [] pos) (up X.K T E (wHeld X.prog X.w X.K X.mg X.base T k i n w)) := by
  refine ⟨fun pins s σ H Q I ⟨ρ, μ, ev, Φ, en, st, xo, ⟨f, sp, hf, ⟨as, ⟨⟨fd, ps, g, F, kp, hb⟩, ok⟩, idA⟩, h⟩, k⟩ => ?_⟩
  obtain ⟨v, e1, e2⟩ := en.2 i _ hf
  cases e2
  refine wpAny_Call_Name_kw (thn ((pe_var (pos := p) hN hv hdb hcd).run pins s σ H (fun v H' => v = .ref f ∧ H' = H) I ⟨_, e1, rfl, rfl⟩) fun uf sa y => ?_)
  obtain ⟨v, Ha, Ia, ra, ev1, eH⟩ := y
  subst ev1 eH
  obtain rfl : uf = Value.ref f := ra
  refine PySem.W.callWith_KW (kws := []) (h₀ := X.base) Ia.ok.mod.kin kp rfl ?_ hpl he
  refine thn (ha.run pos pins sa σ Ha _ Ia (show upA X.K T E w σ Ha (fun vs H1 => vs.length = n ∧ lift X.K T sp (argsV as vs []) H1 Q E0) from
    ⟨ρ, μ, ev, _, en, st, xo, h, fun ds μ1 vs H1 ⟨l1, q⟩ i1 st1 s1 => ⟨by rw [i1.len]; exact l1, into_call (E := E) (ks := []) (sel := fun _ => ev0) (fs := []) (zs := []) sel_0 ok xo k i1 s1 .nil st1 (Step.refl _ _) l1 rfl (by rw [idA ds l1]; exact q)⟩⟩)) fun us s1 y => ?_
  obtain ⟨vs, H1, J1, r, l1, q⟩ := y
  exact wpAny_evalAll_nil ⟨J1.kIn, run_g (ws := []) (zs := []) F hG hr hb (fun _ _ _ _ _ _ _ z => z.elim) J1 r .nil l1 rfl q⟩
/-! methods -/
theorem ve_meth {pl : Sem Bool} (cl : Cls X.K C) (hm : Meth X.K C m f) (c : CanV X.prog X.w X.K X.mg X.base CX T k f (n + 1) ks as sp) (hG : X.A.guards = some []) (hr : Room j X.A) (hk : k ≤ j) (hx : Passes CX X E') (hs : Sel E E' sel) (ho : PE X o (up X.K T E wo)) (ha : PA X (e :: es) (upA X.K T E w)) (hkw : PK X kws (upA X.K T E wk))
    (hall : (backToKw pos (keywordEach kws X.env)).all (·.1.isSome) = true := by rfl) (hks : (backToKw pos (keywordEach kws X.env)).filterMap (·.1) = ks := by rfl)
    (he : starEach (e :: es) X.env = (false, eval e X.env) :: starEach es X.env := by rfl) (hpl : ((backTo pos (starEach (e :: es) X.env)).any (·.1) || (backToKw pos (keywordEach kws X.env)).any (·.1.isNone)) = false := by rfl)
    (ht : eval (.Call (.Attribute o m apos) (e :: es) kws pos) X.env = (do let ov ← eval o X.env; standAt apos.atName; let (f, first) ← holding [ov] (getMethod ov m pl); callWith pos f first (backTo pos (starEach (e :: es) X.env)) (backToKw pos (keywordEach kws X.env))) := by rfl) :
    PE X (.Call (.Attribute o m apos) (e :: es) kws pos) (up X.K T E (wMeth sel C m as sp n ks.length wo w wk)) := by
  obtain ⟨⟨fd, ps, g, F, kp, hb⟩, ok⟩ := c
  refine ⟨fun pins s σ H Q I ⟨ρ, μ, ev, Φ, en, st, xo, h, k⟩ => PySem.W.methodCall_KW (pl := pl) (thn (ho.run pins s σ H _ I (show up X.K T E wo σ H (fun x H0 => ∃ a dx fs, x = .ref a ∧ H0 a = some (.ins C dx fs) ∧ fs.lookup m = none ∧ upA X.K T E w σ H0 fun vs H1 => upA X.K T E wk σ H1 fun zs H2 => vs.length = n ∧ zs.length = ks.length ∧ lift X.K T sp (argsV as (.ref a :: vs) zs) H2 Q E') from
    ⟨ρ, μ, ev, _, en, st, xo, h, fun x μ0 v H0 ⟨ns, fs, hi, nm, q⟩ i0 st0 s0 => by
      obtain ⟨a, dx, us, rfl, ha, hl, iu⟩ := is_ins st0 i0 hi
      exact ⟨a, dx, _, rfl, ha, lookup_not nm, ρ, μ0, ev, _, en.step s0, st0, xo.step s0, q, fun ds μ1 vs H1 q i1 st1 s1 => ⟨ρ, μ1, ev, _, en.step (s0.trans s1), st1, xo.step (s0.trans s1), q, fun fs μ2 zs H2 ⟨l1, l2, q2⟩ i2 st2 s2 => ⟨by rw [i1.len]; exact l1, by rw [i2.len]; exact l2,
        into_call hs ok xo k (.cons (i0.step s1) i1) (s0.trans s1) i2 st2 s2 (by rw [List.length_cons, l1]) l2 q2⟩⟩⟩⟩)) fun u s0 y => ?_) ht⟩
  obtain ⟨x, H0, I0, rx, a, dx, fs, ex, ea, l, q⟩ := y
  subst ex
  obtain rfl : u = Value.ref a := rx
  refine getmeth_ok I0 ea cl hm l (PySem.W.callWith_KW (first := [.ref a]) (h₀ := X.base) I0.ok.mod.kin hm.kp hall ?_ hpl he)
  refine thn (ha.run pos pins s0 σ H0 _ I0 q) fun us s1 y => ?_
  obtain ⟨vs, H1, J1, r, q⟩ := y
  refine thn (hkw.run pos pins s1 σ H1 _ J1 q) fun ws s2 y => ?_
  obtain ⟨zs, H2, J2, rz, l1, l2, q2⟩ := y
  refine ⟨J2.kIn, ?_⟩
  rw [hks]
  exact run_g (us := .ref a :: us) (vs := .ref a :: vs) F hG (hr.mono hk) hb hx J2 (.cons rfl r) rz (by rw [List.length_cons, l1]) l2 q2
theorem ve_meth0 {pl : Sem Bool} (cl : Cls X.K C) (hm : Meth X.K C m f) (c : CanV X.prog X.w X.K X.mg X.base CX T k f 1 ks as sp) (hG : X.A.guards = some []) (hr : Room j X.A) (hk : k ≤ j) (hx : Passes CX X E') (hs : Sel E E' sel) (ho : PE X o (up X.K T E wo)) (hkw : PK X kws (upA X.K T E wk))
    (hall : (backToKw pos (keywordEach kws X.env)).all (·.1.isSome) = true := by rfl) (hks : (backToKw pos (keywordEach kws X.env)).filterMap (·.1) = ks := by rfl)
    (hpl : ((backTo pos (starEach [] X.env)).any (·.1) || (backToKw pos (keywordEach kws X.env)).any (·.1.isNone)) = false := by rfl)
    (ht : eval (.Call (.Attribute o m apos) [] kws pos) X.env = (do let ov ← eval o X.env; standAt apos.atName; let (f, first) ← holding [ov] (getMethod ov m pl); callWith pos f first (backTo pos (starEach [] X.env)) (backToKw pos (keywordEach kws X.env))) := by rfl) :
    PE X (.Call (.Attribute o m apos) [] kws pos) (up X.K T E (wMeth sel C m as sp 0 ks.length wo wNil wk)) := by
  obtain ⟨⟨fd, ps, g, F, kp, hb⟩, ok⟩ := c
  refine ⟨fun pins s σ H Q I ⟨ρ, μ, ev, Φ, en, st, xo, h, k⟩ => PySem.W.methodCall_KW (pl := pl) (thn (ho.run pins s σ H _ I (show up X.K T E wo σ H (fun x H0 => ∃ a dx fs, x = .ref a ∧ H0 a = some (.ins C dx fs) ∧ fs.lookup m = none ∧ upA X.K T E wk σ H0 fun zs H2 => zs.length = ks.length ∧ lift X.K T sp (argsV as [.ref a] zs) H2 Q E') from
    ⟨ρ, μ, ev, _, en, st, xo, h, fun x μ0 v H0 ⟨ns, fs, hi, nm, q⟩ i0 st0 s0 => by
      obtain ⟨a, dx, us, rfl, ha, hl, iu⟩ := is_ins st0 i0 hi
      exact ⟨a, dx, _, rfl, ha, lookup_not nm, ρ, μ0, ev, _, en.step s0, st0, xo.step s0, q, fun fs μ2 zs H2 ⟨l1, l2, q2⟩ i2 st2 s2 => ⟨by rw [i2.len]; exact l2, into_call hs ok xo k (.cons i0 .nil) s0 i2 st2 s2 rfl l2 q2⟩⟩⟩)) fun u s0 y => ?_) ht⟩
  obtain ⟨x, H0, I0, rx, a, dx, fs, ex, ea, l, q⟩ := y
  subst ex
  obtain rfl : u = Value.ref a := rx
  refine getmeth_ok I0 ea cl hm l (PySem.W.callWith_KW0 (first := [.ref a]) (h₀ := X.base) I0.ok.mod.kin hm.kp hall ?_ hpl)
  refine thn (hkw.run pos pins s0 σ H0 _ I0 q) fun ws s2 y => ?_
  obtain ⟨zs, H2, J2, rz, l2, q2⟩ := y
  refine ⟨J2.kIn, ?_⟩
  rw [hks]
  exact run_g (us := [.ref a]) (vs := [.ref a]) F hG (hr.mono hk) hb hx J2 (.cons rfl .nil) rz rfl l2 q2
/-! new instances -/
theorem into_make {K : PySem.W.Frag} {μ μ1 μ2 : Mu} {H H1 H2 : Hp} {ev : EV} {Φ : WK} {Q : VK} {ds fs : List D} {vs zs : List V} (hs : Sel E E' sel) (ok : ∀ a ∈ as, a.Ok K (n + 1 + ks.length)) (xo : XOk K T μ H ev E) (k : KOk K T μ H Φ Q) (i1 : IsAll K μ1 H1 vs ds) (s1 : Step μ H μ1 H1) (i2 : IsAll K μ2 H2 zs fs) (st2 : Sto K T μ2 H2) (s2 : Step μ1 H1 μ2 H2)
    (l1 : ds.length = n) (l2 : fs.length = ks.length) (h : ∀ a, μ2 a = none → sp (argsD as (.ref a :: ds) fs) (μ2.set a (.ins C [] [])) (sel ev) fun d μ3 => d = .non ∧ Φ (.ref a) μ3) :
    ∀ a dx, H2 a = none → H2 dx = none → dx ≠ a → lift K T sp (argsV as (.ref a :: vs) zs) (upd (upd H2 dx (.own a)) a (.ins C dx [])) (fun v H3 => v = .non ∧ Q (.ref a) H3) E' := fun a dx na nd ne => by
  have s3 := step_new (o := .own a) nd (st2.free nd)
  have st3 := st2.new (o := .own a) nd
  have na3 : upd H2 dx (.own a) a = none := by rw [upd_ne (Ne.symm ne)]; exact na
  have s4 := step_newM (μ := μ2) (m := .ins C [] []) (o := .ins C dx []) na3
  have st4 := st3.newM (m := .ins C [] []) (o := .ins C dx []) na3 ⟨dx, [], upd_same, rfl, .nil⟩
  have s := s1.trans (s2.trans (s3.trans s4))
  refine ⟨_, _, _, _, is_argsD (.cons (.ref a) (i1.step (s2.trans (s3.trans s4)))) (i2.step (s3.trans s4)) as (by rw [List.length_cons, i1.len, i2.len, l1, l2]; exact ok), st4, hs _ _ _ _ _ (xo.step s), h a (st2.free na), fun d μ' v H' ⟨e, q⟩ iv st' s' => ?_⟩
  subst e
  cases iv
  exact ⟨rfl, k _ _ _ _ q (.ref a) st' (s.trans s')⟩
theorem ve_make (M : Mk X.K C f) (hm : X.mg x = some (.ref C)) (c : CanV X.prog X.w X.K X.mg X.base CX T k f (n + 1) ks as sp) (hG : X.A.guards = some []) (hr : Room j X.A) (hk : k + 1 ≤ j) (hx : Passes CX X E') (hs : Sel E E' sel) (hg : Gl X x) (ha : PA X (e :: es) (upA X.K T E w)) (hkw : PK X kws (upA X.K T E wk))
    (hall : (backToKw pos (keywordEach kws X.env)).all (·.1.isSome) = true := by rfl) (hks : (backToKw pos (keywordEach kws X.env)).filterMap (·.1) = ks := by rfl) (hdb : (x == ("__debug__" : Str)) = false := by decide)
    (he : starEach (e :: es) X.env = (false, eval e X.env) :: starEach es X.env := by rfl) (hpl : ((backTo pos (starEach (e :: es) X.env)).any (·.1) || (backToKw pos (keywordEach kws X.env)).any (·.1.isNone)) = false := by rfl) :
    PE X (.Call (.Name x p) (e :: es) kws pos) (up X.K T E (wMake sel C as sp n ks.length w wk)) := by
  obtain ⟨⟨fd, ps, g, F, kp, hb⟩, ok⟩ := c
  refine ⟨fun pins s σ H Q I ⟨ρ, μ, ev, Φ, en, st, xo, h, k⟩ => wpAny_Call_Name_kw (ld_glob I hg hm (PySem.W.callWith_KW (h₀ := X.base) I.ok.mod.kin M.kp hall ?_ hpl he) hdb)⟩
  refine thn (ha.run pos pins s σ H _ I ⟨ρ, μ, ev, _, en, st, xo, h, fun ds μ1 vs H1 q i1 st1 s1 => (show upA X.K T E wk σ H1 (fun zs H2 => vs.length = n ∧ zs.length = ks.length ∧ ∀ a dx, H2 a = none → H2 dx = none → dx ≠ a → lift X.K T sp (argsV as (.ref a :: vs) zs) (upd (upd H2 dx (.own a)) a (.ins C dx [])) (fun v H3 => v = .non ∧ Q (.ref a) H3) E') from
    ⟨ρ, μ1, ev, _, en.step s1, st1, xo.step s1, q, fun fs μ2 zs H2 ⟨l1, l2, q2⟩ i2 st2 s2 => ⟨by rw [i1.len]; exact l1, by rw [i2.len]; exact l2, into_make hs ok xo k i1 s1 i2 st2 s2 l1 l2 q2⟩⟩)⟩) fun us s1 y => ?_
  obtain ⟨vs, H1, J1, r, q⟩ := y
  refine thn (hkw.run pos pins s1 σ H1 _ J1 q) fun ws s2 y => ?_
  obtain ⟨zs, H2, J2, rz, l1, l2, q2⟩ := y
  refine ⟨J2.kIn, ?_⟩
  rw [hks]
  exact run_mg M F hG (hr.mono hk) hb hx J2 r rz l1 l2 q2
theorem ve_makeN0 (M : Mk X.K C f) (hm : X.mg x = some (.ref C)) (c : CanV X.prog X.w X.K X.mg X.base CX T k f 1 ks as sp) (hG : X.A.guards = some []) (hr : Room j X.A) (hk : k + 1 ≤ j) (hx : Passes CX X E') (hs : Sel E E' sel) (hg : Gl X x) (hkw : PK X kws (upA X.K T E wk))
    (hall : (backToKw pos (keywordEach kws X.env)).all (·.1.isSome) = true := by rfl) (hks : (backToKw pos (keywordEach kws X.env)).filterMap (·.1) = ks := by rfl) (hdb : (x == ("__debug__" : Str)) = false := by decide)
    (hpl : ((backTo pos (starEach [] X.env)).any (·.1) || (backToKw pos (keywordEach kws X.env)).any (·.1.isNone)) = false := by rfl) :
    PE X (.Call (.Name x p) [] kws pos) (up X.K T E (wMake sel C as sp 0 ks.length wNil wk)) := by
  obtain ⟨⟨fd, ps, g, F, kp, hb⟩, ok⟩ := c
  refine ⟨fun pins s σ H Q I ⟨ρ, μ, ev, Φ, en, st, xo, h, k⟩ => wpAny_Call_Name_kw (ld_glob I hg hm (PySem.W.callWith_KW0 (h₀ := X.base) I.ok.mod.kin M.kp hall ?_ hpl) hdb)⟩
  refine thn (hkw.run pos pins s σ H _ I (show upA X.K T E wk σ H (fun zs H2 => zs.length = ks.length ∧ ∀ a dx, H2 a = none → H2 dx = none → dx ≠ a → lift X.K T sp (argsV as [.ref a] zs) (upd (upd H2 dx (.own a)) a (.ins C dx [])) (fun v H3 => v = .non ∧ Q (.ref a) H3) E') from
    ⟨ρ, μ, ev, _, en, st, xo, h, fun fs μ2 zs H2 ⟨l1, l2, q2⟩ i2 st2 s2 => ⟨by rw [i2.len]; exact l2, into_make (ds := []) (vs := []) (n := 0) hs ok xo k .nil (Step.refl _ _) i2 st2 s2 l1 l2 q2⟩⟩)) fun ws s2 y => ?_
  obtain ⟨zs, H2, J2, rz, l2, q2⟩ := y
  refine ⟨J2.kIn, ?_⟩
  rw [hks]
  exact run_mg (us := []) (vs := []) M F hG (hr.mono hk) hb hx J2 .nil rz rfl l2 q2
end
end VL

set_option maxRecDepth 100000
set_option maxHeartbeats 4000000
/-! values as trees: operators, built-ins, attributes, by value -/
namespace VL
open PySem L2 FW PyProof.Rows
section
variable {K : PySem.W.Frag} {T : List (Addr × Str)}
/-! ### ints -/
def vI0 (g : Int → Int → D) : V2 := fun x y μ Φ => ∃ i j, x = .int i ∧ y = .int j ∧ Φ (g i j) μ
def vI (C : Int → Int → Prop) (g : Int → Int → D) : V2 := fun x y μ Φ => ∃ i j, x = .int i ∧ y = .int j ∧ C i j ∧ Φ (g i j) μ
def vU (g : Int → D) : V1 := fun x μ Φ => ∃ i, x = .int i ∧ Φ (g i) μ
theorem sim_I0 {f : Int → Int → V} {g : Int → Int → D} (h : ∀ i j μ H, Is K μ H (f i j) (g i j)) : Sim2 K T (rI0 f) (vI0 g) := fun x y v w μ H Φ Q ix iy st ⟨i, j, e1, e2, q⟩ k => by
  subst e1 e2; cases ix; cases iy; exact ⟨i, j, rfl, rfl, k.now q (h i j μ H) st⟩
theorem sim_I {C : Int → Int → Prop} {f : Int → Int → V} {g : Int → Int → D} (h : ∀ i j μ H, Is K μ H (f i j) (g i j)) : Sim2 K T (rI C f) (vI C g) := fun x y v w μ H Φ Q ix iy st ⟨i, j, e1, e2, c, q⟩ k => by
  subst e1 e2; cases ix; cases iy; exact ⟨i, j, rfl, rfl, c, k.now q (h i j μ H) st⟩
theorem sim_U {f : Int → V} {g : Int → D} (h : ∀ i μ H, Is K μ H (f i) (g i)) : Sim1 K T (rU f) (vU g) := fun x v μ H Φ Q ix st ⟨i, e1, q⟩ k => by
  subst e1; cases ix; exact ⟨i, rfl, k.now q (h i μ H) st⟩
def vAdd : V2 := vI0 fun i j => .int (i + j)
def vSub : V2 := vI0 fun i j => .int (i - j)
def vMul : V2 := vI CMul fun i j => .int (i * j)
def vMod : V2 := vI (fun _ j => 0 < j) fun i j => .int (i % j)
def vFdiv : V2 := vI CDivA fun i j => .int (i.fdiv j)
def vPow : V2 := vI CPow fun i j => .int (i ^ j.toNat)
def vLt : V2 := vI0 fun i j => .bl (decide (i < j))
def vLe : V2 := vI0 fun i j => .bl (decide (i ≤ j))
def vGt : V2 := vI0 fun i j => .bl (decide (j < i))
def vGe : V2 := vI0 fun i j => .bl (decide (j ≤ i))
def vNeg : V1 := vU fun i => .int (-i)
theorem s_add : Sim2 K T (rI0 fun i j => .int (i + j)) vAdd := sim_I0 fun _ _ _ _ => .int _
theorem s_sub : Sim2 K T (rI0 fun i j => .int (i - j)) vSub := sim_I0 fun _ _ _ _ => .int _
theorem s_mul : Sim2 K T (rI CMul fun i j => .int (i * j)) vMul := sim_I fun _ _ _ _ => .int _
theorem s_mod : Sim2 K T (rI (fun _ j => 0 < j) fun i j => .int (i % j)) vMod := sim_I fun _ _ _ _ => .int _
theorem s_fdiv : Sim2 K T (rI CDivA fun i j => .int (i.fdiv j)) vFdiv := sim_I fun _ _ _ _ => .int _
theorem s_pow : Sim2 K T (rI CPow fun i j => .int (i ^ j.toNat)) vPow := sim_I fun _ _ _ _ => .int _
theorem s_neg : Sim1 K T (rU fun i => .int (-i)) vNeg := sim_U fun _ _ _ => .int _
/-! ### == by value -/
def pyEq (p q : PyData) : Option Bool := if (SeqAt.shaped p && SeqAt.shaped q) = true then some (PyData.eqv p q) else none
def eqD (μ : Mu) : D → D → Option Bool
  | .int a, .int b => some (decide (a = b))
  | .str a, .str b => some (decide (a = b))
  | .bl a, .bl b => some (decide (a = b))
  | .non, .str _ => some false
  | .str _, .non => some false
  | .int _, .str _ => some false
  | .str _, .int _ => some false
  | .bl _, .str _ => some false
  | .str _, .bl _ => some false
  | x, y => match toPyT μ x, toPyT μ y with
    | some p, some q => pyEq p q
    | _, _ => none
def vEq (neg : Bool) : V2 := fun x y μ Φ => ∃ b, eqD μ x y = some b ∧ Φ (.bl (if neg then !b else b)) μ
def rEqA (K : PySem.W.Frag) : R2 := fun x y H Q => rEq x y H Q ∨ rEqD K x y H Q
def rNeA (K : PySem.W.Frag) : R2 := fun x y H Q => rNe x y H Q ∨ rNeD K x y H Q
theorem op_eqA {X : Cx} (hu : X.A.units + 64 < cLine) : OpR X (compareOp .Eq) (rEqA X.K) := by
  intro pins s σ H x y v u Q I rx ry h
  rcases h with h | h
  · exact op_eq pins s σ H x y v u Q I rx ry h
  · exact op_eqD hu pins s σ H x y v u Q I rx ry h
theorem op_neA {X : Cx} (hu : X.A.units + 64 < cLine) : OpR X (compareOp .NotEq) (rNeA X.K) := by
  intro pins s σ H x y v u Q I rx ry h
  rcases h with h | h
  · exact op_ne pins s σ H x y v u Q I rx ry h
  · exact op_neD hu pins s σ H x y v u Q I rx ry h
theorem eqD_is {μ : Mu} {H : Hp} {v w : V} {x y : D} {b : Bool} (st : Sto K T μ H) (ix : Is K μ H v x) (iy : Is K μ H w y) (e : eqD μ x y = some b) : (scal v w = true ∧ decide (v = w) = b) ∨ ∃ p q, Dp K H v p ∧ Dp K H w q ∧ SeqAt.shaped p = true ∧ SeqAt.shaped q = true ∧ PyData.eqv p q = b := by
  have other : (match toPyT μ x, toPyT μ y with | some p, some q => pyEq p q | _, _ => none) = some b → ∃ p q, Dp K H v p ∧ Dp K H w q ∧ SeqAt.shaped p = true ∧ SeqAt.shaped q = true ∧ PyData.eqv p q = b := fun h => by
    cases h1 : toPyT μ x with
    | none => rw [h1] at h; cases h
    | some p =>
      cases h2 : toPyT μ y with
      | none => rw [h1, h2] at h; cases h
      | some q =>
        rw [h1, h2] at h
        have h : pyEq p q = some b := h
        unfold pyEq at h
        split at h
        · rename_i hs
          rw [Bool.and_eq_true] at hs
          cases h
          exact ⟨p, q, is_pyT st ix h1, is_pyT st iy h2, hs.1, hs.2, rfl⟩
        · cases h
  unfold eqD at e
  split at e
  · cases ix; cases iy; simp only [Option.some.injEq] at e; subst e; exact .inl ⟨rfl, by rw [dec_int]; exact (Bool.beq_eq_decide_eq _ _)⟩
  · cases ix; cases iy; simp only [Option.some.injEq] at e; subst e; exact .inl ⟨rfl, by simp⟩
  · cases ix; cases iy; simp only [Option.some.injEq] at e; subst e; exact .inl ⟨rfl, by simp⟩
  · cases ix; cases iy; cases e; exact .inl ⟨rfl, rfl⟩
  · cases ix; cases iy; cases e; exact .inl ⟨rfl, rfl⟩
  · cases ix; cases iy; cases e; exact .inl ⟨rfl, rfl⟩
  · cases ix; cases iy; cases e; exact .inl ⟨rfl, rfl⟩
  · cases ix; cases iy; cases e; exact .inl ⟨rfl, rfl⟩
  · cases ix; cases iy; cases e; exact .inl ⟨rfl, rfl⟩
  · exact .inr (other e)
theorem s_eq : Sim2 K T (rEqA K) (vEq false) := fun x y v w μ H Φ Q ix iy st ⟨b, e, h⟩ k => by
  rcases eqD_is st ix iy e with ⟨h1, h2⟩ | ⟨p, q, h1, h2, h3, h4, h5⟩
  · exact .inl ⟨h1, by rw [h2]; exact k.now h (.bl _) st⟩
  · exact .inr ⟨p, q, h1, h2, h3, h4, by rw [h5]; exact k.now h (.bl _) st⟩
theorem s_ne : Sim2 K T (rNeA K) (vEq true) := fun x y v w μ H Φ Q ix iy st ⟨b, e, h⟩ k => by
  rcases eqD_is st ix iy e with ⟨h1, h2⟩ | ⟨p, q, h1, h2, h3, h4, h5⟩
  · exact .inl ⟨h1, by rw [h2]; exact k.now h (.bl _) st⟩
  · exact .inr ⟨p, q, h1, h2, h3, h4, by rw [h5]; exact k.now h (.bl _) st⟩
def vIsB (neg : Bool) : V2 := fun x y μ Φ => ∃ a b, x = .bl a ∧ y = .bl b ∧ Φ (.bl (if neg then !decide (a = b) else decide (a = b))) μ
theorem s_isB : Sim2 K T rIsB (vIsB false) := fun x y v w μ H Φ Q ix iy st ⟨a, b, e1, e2, h⟩ k => by
  subst e1 e2; cases ix; cases iy; exact ⟨a, b, rfl, rfl, k.now h (.bl _) st⟩
theorem s_isnotB : Sim2 K T (fun x y H Q => ∃ a b, x = .bl a ∧ y = .bl b ∧ Q (.bl (!decide (a = b))) H) (vIsB true) := fun x y v w μ H Φ Q ix iy st ⟨a, b, e1, e2, h⟩ k => by
  subst e1 e2; cases ix; cases iy; exact ⟨a, b, rfl, rfl, k.now h (.bl _) st⟩
/-! ### in -/
def flatD : D → Bool
  | .non => true
  | .bl _ => true
  | .int _ => true
  | .str _ => true
  | _ => false
def eqF : D → D → Bool
  | .non, .non => true
  | .bl a, .bl b => a == b
  | .bl a, .int b => (if a then 1 else 0) == b
  | .int a, .bl b => a == (if b then 1 else 0)
  | .int a, .int b => a == b
  | .str a, .str b => a == b
  | _, _ => false
theorem flat_is {μ : Mu} {H : Hp} {v : V} {d : D} (h : Is K μ H v d) (f : flatD d = true) : flatV v = true := by
  cases h <;> first | rfl | cases f
theorem flats_is {μ : Mu} {H : Hp} : ∀ {vs : List V} {ds : List D}, IsAll K μ H vs ds → ds.all flatD = true → vs.all flatV = true
  | _, _, .nil, _ => rfl
  | _, _, .cons a b, f => by
    rw [List.all_cons, Bool.and_eq_true] at f
    rw [List.all_cons, flat_is a f.1, flats_is b f.2]; rfl
theorem eqV_is {μ : Mu} {H : Hp} {v w : V} {x y : D} (h : Is K μ H v x) (g : Is K μ H w y) (f1 : flatD x = true) (f2 : flatD y = true) : eqV v w = eqF x y := by
  cases h <;> cases g <;> first | rfl | cases f1 | cases f2
def inD (x : D) (ds : List D) : Bool := ds.any fun y => eqF y x
theorem inV_is {μ : Mu} {H : Hp} {v : V} {x : D} (h : Is K μ H v x) (f : flatD x = true) : ∀ {vs : List V} {ds : List D}, IsAll K μ H vs ds → ds.all flatD = true → inV v vs = inD x ds
  | _, _, .nil, _ => rfl
  | _, _, .cons a b, g => by
    rw [List.all_cons, Bool.and_eq_true] at g
    have ih := inV_is h f b g.2
    unfold inV inD at ih ⊢
    rw [List.any_cons, List.any_cons, ih, eqV_is a h g.1 f]
def vIn (neg : Bool) : V2 := fun x y μ Φ => ∃ ds, seqOf μ y = some ds ∧ flatD x = true ∧ ds.all flatD = true ∧ Φ (.bl (if neg then !inD x ds else inD x ds)) μ
theorem s_in {neg : Bool} : Sim2 K T (rIn K neg) (vIn neg) := fun x y v w μ H Φ Q ix iy st ⟨ds, e, f, g, q⟩ k => by
  obtain ⟨a, vs, rfl, sq, ia⟩ := is_seq st iy e
  exact ⟨a, vs, rfl, sq, flat_is ix f, flats_is ia g, by rw [inV_is ix f ia g]; exact k.now q (.bl _) st⟩
/-! ### lists together, lists times a number -/
def vCat : V2 := fun x y μ Φ => ∃ ds es, lstOf μ x = some ds ∧ lstOf μ y = some es ∧ ds.length + es.length ≤ sizeLine ∧ Φ (.lst (ds ++ es)) μ
def vCatM : V2 := fun x y μ Φ => ∃ ds es, lstOf μ x = some ds ∧ lstOf μ y = some es ∧ ds.length + es.length ≤ sizeLine ∧ ∀ p, μ p = none → Φ (.ref p) (μ.set p (.lst (ds ++ es)))
theorem s_cat : Sim2 K T rCat vCat := fun x y v w μ H Φ Q ix iy st ⟨ds, es, e1, e2, hl, q⟩ k => by
  obtain ⟨a, vs, rfl, h1, i1⟩ := is_lst st ix e1
  obtain ⟨b, us, rfl, h2, i2⟩ := is_lst st iy e2
  exact ⟨a, b, vs, us, rfl, rfl, h1, h2, by rw [i1.len, i2.len]; exact hl, fun p hp => k.lst q (i1.app i2) st p hp⟩
theorem s_catM : Sim2 K T rCat vCatM := fun x y v w μ H Φ Q ix iy st ⟨ds, es, e1, e2, hl, q⟩ k => by
  obtain ⟨a, vs, rfl, h1, i1⟩ := is_lst st ix e1
  obtain ⟨b, us, rfl, h2, i2⟩ := is_lst st iy e2
  exact ⟨a, b, vs, us, rfl, rfl, h1, h2, by rw [i1.len, i2.len]; exact hl, fun p hp => k.lstM q (i1.app i2) st p hp⟩
def vCatT : V2 := fun x y μ Φ => ∃ ds es, tupOf x = some ds ∧ tupOf y = some es ∧ ds ≠ [] ∧ ds.length + es.length ≤ sizeLine ∧ Φ (.tup (ds ++ es)) μ
def vRep : V2 := fun x y μ Φ => ∃ ds n, lstOf μ x = some ds ∧ y = .int n ∧ -(2 ^ 63) ≤ n ∧ n < 2 ^ 63 ∧ ds.length * n.toNat ≤ sizeLine ∧ Φ (.lst (List.replicate n.toNat ds).flatten) μ
def vRepM : V2 := fun x y μ Φ => ∃ ds n, lstOf μ x = some ds ∧ y = .int n ∧ -(2 ^ 63) ≤ n ∧ n < 2 ^ 63 ∧ ds.length * n.toNat ≤ sizeLine ∧ ∀ p, μ p = none → Φ (.ref p) (μ.set p (.lst (List.replicate n.toNat ds).flatten))
theorem s_rep : Sim2 K T rRep vRep := fun x y v w μ H Φ Q ix iy st ⟨ds, n, e1, e2, n1, n2, hl, q⟩ k => by
  obtain ⟨a, vs, rfl, h1, i1⟩ := is_lst st ix e1
  subst e2; cases iy
  exact ⟨a, n, vs, rfl, rfl, h1, n1, n2, by rw [i1.len]; exact hl, fun p hp => k.lst q (i1.rep _) st p hp⟩
theorem s_repM : Sim2 K T rRep vRepM := fun x y v w μ H Φ Q ix iy st ⟨ds, n, e1, e2, n1, n2, hl, q⟩ k => by
  obtain ⟨a, vs, rfl, h1, i1⟩ := is_lst st ix e1
  subst e2; cases iy
  exact ⟨a, n, vs, rfl, rfl, h1, n1, n2, by rw [i1.len]; exact hl, fun p hp => k.lstM q (i1.rep _) st p hp⟩
/-! ### subscripts, slices -/
theorem atI_is {μ : Mu} {H : Hp} {vs : List V} {ds : List D} {k : Int} {d : D} (h : IsAll K μ H vs ds) (e : atI ds k = some d) : ∃ v, atI vs k = some v ∧ Is K μ H v d := by
  unfold atI at e ⊢
  rw [h.len]
  cases q : ixN ds.length k with
  | none => rw [q] at e; cases e
  | some j =>
    rw [q] at e
    obtain ⟨v, e1, e2⟩ := h.get (show ds[j]? = some d from e)
    exact ⟨v, e1, e2⟩
def vIx : V2 := fun x y μ Φ => ∃ ds k d, seqOf μ x = some ds ∧ y = .int k ∧ atI ds k = some d ∧ Φ d μ
def vIxS : V2 := fun x y μ Φ => ∃ (z : Str) (k : Int) (c : Nat), x = .str z ∧ y = .int k ∧ z.length ≤ sizeLine ∧ atI z.cps.toList k = some c ∧ Φ (.str ⟨#[c]⟩) μ
theorem s_ix : Sim2 K T (rIx K) vIx := fun x y v w μ H Φ Q ix iy st ⟨ds, n, d, e1, e2, e3, q⟩ k => by
  obtain ⟨a, vs, rfl, sq, ia⟩ := is_seq st ix e1
  subst e2; cases iy
  obtain ⟨u, h1, h2⟩ := atI_is ia e3
  rcases sq with sq | sq
  · exact .inl ⟨a, vs, n, u, rfl, rfl, sq, h1, k.now q h2 st⟩
  · exact .inr (.inl ⟨a, vs, n, u, rfl, rfl, sq, h1, k.now q h2 st⟩)
theorem s_ixS : Sim2 K T (rIx K) vIxS := fun x y v w μ H Φ Q ix iy st ⟨z, n, c, e1, e2, hz, e3, q⟩ k => by
  subst e1 e2; cases ix; cases iy
  exact .inr (.inr ⟨z, n, c, rfl, rfl, hz, e3, k.now q (.str _) st⟩)
def cutD (ds : List D) (lo hi : Option Int) : List D := (ds.drop (HT.sIx ds.length 0 lo)).take (HT.sIx ds.length ds.length hi - HT.sIx ds.length 0 lo)
theorem cut_is {μ : Mu} {H : Hp} {vs : List V} {ds : List D} (h : IsAll K μ H vs ds) (lo hi : Option Int) : IsAll K μ H (cutV vs lo hi) (cutD ds lo hi) := by
  unfold cutV cutD
  rw [h.len]
  exact (h.drop _).take _
def vSlL : VS := fun x lo hi μ Φ => ∃ ds, (fzL x = some ds ∨ lstOf μ x = some ds) ∧ Φ (.lst (cutD ds lo hi)) μ
def vSlM : VS := fun x lo hi μ Φ => ∃ ds, (fzL x = some ds ∨ lstOf μ x = some ds) ∧ ∀ p, μ p = none → Φ (.ref p) (μ.set p (.lst (cutD ds lo hi)))
def vSlS : VS := fun x lo hi μ Φ => ∃ z, x = .str z ∧ z.length ≤ sizeLine ∧ Φ (.str (cutS z lo hi)) μ
theorem sqL_of {μ : Mu} {H : Hp} {v : V} {x : D} {ds : List D} (st : Sto K T μ H) (h : Is K μ H v x) (e : fzL x = some ds ∨ lstOf μ x = some ds) : ∃ a vs, v = .ref a ∧ SqL K H a vs ∧ IsAll K μ H vs ds := by
  rcases e with e | e
  · obtain ⟨a, vs, rfl, at_, ia⟩ := fzL_is h e
    exact ⟨a, vs, rfl, at_.sq, ia⟩
  · obtain ⟨a, vs, rfl, at_, ia⟩ := is_lst st h e
    exact ⟨a, vs, rfl, SqL.of at_, ia⟩
theorem s_slL : SimS K T (rSlL K) vSlL := fun x v lo hi μ H Φ Q ix st ⟨ds, e, q⟩ k => by
  obtain ⟨a, vs, rfl, sq, ia⟩ := sqL_of st ix e
  exact ⟨a, vs, rfl, sq, fun p hp => k.lst q (cut_is ia lo hi) st p hp⟩
theorem s_slM : SimS K T (rSlL K) vSlM := fun x v lo hi μ H Φ Q ix st ⟨ds, e, q⟩ k => by
  obtain ⟨a, vs, rfl, sq, ia⟩ := sqL_of st ix e
  exact ⟨a, vs, rfl, sq, fun p hp => k.lstM q (cut_is ia lo hi) st p hp⟩
theorem s_slS : SimS K T rSlS vSlS := fun x v lo hi μ H Φ Q ix st ⟨z, e, hz, q⟩ k => by
  subst e; cases ix; exact ⟨z, rfl, hz, k.now q (.str _) st⟩
def vSetL : VSet := fun o i d μ Φ => ∃ a ds k j, o = .ref a ∧ i = .int k ∧ μ a = some (.lst ds) ∧ ixN ds.length k = some j ∧ Φ (μ.set a (.lst (ds.set j d)))
theorem s_setL : SimSet K T rSetL vSetL := fun o i d vo vi vd μ H Φ Q io ii id st ⟨a, ds, n, j, e1, e2, hm, hj, q⟩ k => by
  subst e1 e2; cases io; cases ii
  obtain ⟨vs, h1, ia⟩ := st.mo _ _ hm
  have s := step_set (H := H) (m' := .lst (ds.set j d)) (o := .lst (vs.set j vd)) hm
  exact ⟨a, vs, n, j, rfl, rfl, h1, by rw [ia.len]; exact hj, k _ _ q (st.set (m' := .lst (ds.set j d)) hm ⟨_, upd_same, (ia.set id j).step s⟩) s⟩
/-! ### built-ins -/
def lenOf (μ : Mu) : D → Option Nat
  | .str z => if z.length ≤ sizeLine then some z.length else none
  | .lst ds => some ds.length
  | .tup ds => some ds.length
  | .sq ds => some ds.length
  | .ref a => match μ a with
    | some (.lst ds) => some ds.length
    | _ => none
  | _ => none
theorem lenOf_of {μ : Mu} {a : Addr} {ds : List D} (e : μ a = some (.lst ds)) : lenOf μ (.ref a) = some ds.length := by show (match μ a with | some (.lst ds) => some ds.length | _ => none) = some ds.length; rw [e]
theorem lenOf_seq {μ : Mu} {x : D} {n : Nat} (h : lenOf μ x = some n) : (∃ z, x = .str z ∧ z.length ≤ sizeLine ∧ n = z.length) ∨ ∃ ds, seqOf μ x = some ds ∧ n = ds.length := by
  cases x with
  | str z =>
    have h2 : (if z.length ≤ sizeLine then some z.length else none) = some n := h
    split at h2
    · cases h2; exact .inl ⟨z, rfl, ‹_›, rfl⟩
    · cases h2
  | lst ds => cases h; exact .inr ⟨ds, rfl, rfl⟩
  | tup ds => cases h; exact .inr ⟨ds, rfl, rfl⟩
  | sq ds => cases h; exact .inr ⟨ds, rfl, rfl⟩
  | ref a =>
    have e2 : (match μ a with | some (.lst ds) => some ds.length | _ => none) = some n := h
    cases q : μ a with
    | none => rw [q] at e2; cases e2
    | some m => rw [q] at e2; cases m <;> first | (cases e2; exact .inr ⟨_, seqOf_of q, rfl⟩) | cases e2
  | _ => cases h
def vLen : VL_ := fun xs μ Φ => ∃ x n, xs = [x] ∧ lenOf μ x = some n ∧ Φ (.int (n : Nat)) μ
theorem s_len : SimL K T (FW.rLen K) vLen := fun xs vs μ H Φ Q ia st ⟨x, n, e, hl, q⟩ k => by
  subst e
  cases ia with
  | cons ix c =>
    cases c
    rcases lenOf_seq hl with ⟨z, rfl, hz, rfl⟩ | ⟨ds, hs, rfl⟩
    · cases ix
      exact ⟨.str z, z.length, rfl, ⟨hz, rfl⟩, k.now q (.int _) st⟩
    · obtain ⟨a, us, rfl, sq, i⟩ := is_seq st ix hs
      refine ⟨.ref a, ds.length, rfl, ?_, k.now q (.int _) st⟩
      rcases sq with sq | sq
      · exact .inl ⟨us, sq, i.len.symm⟩
      · exact .inr ⟨us, sq, i.len.symm⟩
def vInt1 : VL_ := fun xs μ Φ => match xs with
  | [.int i] => Φ (.int i) μ
  | [.bl b] => Φ (.int (if b then 1 else 0)) μ
  | _ => False
theorem s_int : SimL K T rInt1 vInt1 := fun xs vs μ H Φ Q ia st h k => by
  match xs, ia, h with
  | [.int i], .cons (.int _) .nil, h => exact k.now h (.int i) st
  | [.bl b], .cons (.bl _) .nil, h => exact k.now h (.int _) st
def vAbs : VL_ := fun xs μ Φ => ∃ i, xs = [.int i] ∧ Φ (.int (if i < 0 then -i else i)) μ
theorem s_abs : SimL K T rAbs vAbs := fun xs vs μ H Φ Q ia st ⟨i, e, q⟩ k => by
  subst e
  cases ia with | cons ix c => cases ix; cases c; exact ⟨i, rfl, k.now q (.int _) st⟩
/-- what repr shows -/
def ShowOk (p : PyData) : Prop := p.showable = true ∧ p.depth ≤ 60 ∧ p.shown.length ≤ sizeLine
theorem noDict_py {μ : Mu} : ∀ {d : D} {p : PyData}, toPy μ d = some p → p.hasDict = false := by
  have go : ∀ n : Nat, (∀ {d : D} {p : PyData}, sizeOf d < n → toPy μ d = some p → p.hasDict = false) ∧ (∀ {ds : List D} {ps : List PyData}, sizeOf ds < n → toPys μ ds = some ps → PyData.hasDictAll ps = false) := by
    intro n
    induction n with
    | zero => exact ⟨fun h => absurd h (Nat.not_lt_zero _), fun h => absurd h (Nat.not_lt_zero _)⟩
    | succ n ih =>
      refine ⟨fun {d p} h e => ?_, fun {ds ps} h e => ?_⟩
      · cases d with
        | non => simp [toPy] at e; subst e; rfl
        | bl b => simp [toPy] at e; subst e; rfl
        | int i => simp [toPy] at e; subst e; rfl
        | str s => simp [toPy] at e; subst e; rfl
        | lst ds => simp [toPy] at e; obtain ⟨ps, h1, rfl⟩ := e; rw [PyData.hasDict]; exact ih.2 (by simp at h; omega) h1
        | sq ds => simp [toPy] at e; obtain ⟨ps, h1, rfl⟩ := e; rw [PyData.hasDict]; exact ih.2 (by simp at h; omega) h1
        | tup ds => simp [toPy] at e; obtain ⟨ps, h1, rfl⟩ := e; rw [PyData.hasDict]; exact ih.2 (by simp at h; omega) h1
        | _ => simp [toPy] at e
      · cases ds with
        | nil => simp [toPys] at e; subst e; rfl
        | cons d ds =>
          unfold toPys at e
          split at e
          · rename_i p ps h1 h2
            cases e
            rw [PyData.hasDictAll, ih.1 (by simp at h; omega) h1, ih.2 (by simp at h; omega) h2]; rfl
          · cases e
  exact fun {d p} => (go (sizeOf d + 1)).1 (Nat.lt_succ_self _)
theorem noDict_pys {μ : Mu} {ds : List D} {ps : List PyData} (h : toPys μ ds = some ps) : (PyData.list ps).hasDict = false := noDict_py (μ := μ) (d := .lst ds) (by simp [toPy, h])
def vRepr : VL_ := fun xs μ Φ => ∃ x p, xs = [x] ∧ (∀ s, x ≠ .str s) ∧ toPyT μ x = some p ∧ ShowOk p ∧ Φ (.str p.shown) μ
theorem s_repr : SimL K T (rShowA K) vRepr := fun xs vs μ H Φ Q ia st ⟨x, p, e, ns, hp, ⟨h1, h2, h3⟩, q⟩ k => by
  subst e
  cases ia with
  | cons ix c =>
    cases c
    have dp := is_pyT st ix hp
    have done := k.now q (.str _) st
    cases x with
    | non => cases ix; simp [toPyT, toPy] at hp; subst hp; exact .inr (.inl ⟨rfl, done⟩)
    | bl b => cases ix; simp [toPyT, toPy] at hp; subst hp; exact .inr (.inr ⟨b, rfl, done⟩)
    | int i =>
      cases ix; simp [toPyT, toPy] at hp; subst hp
      exact .inl (.inl ⟨i, rfl, by simpa [PyData.showable] using h1, done⟩)
    | str s => exact (ns s rfl).elim
    | ref a =>
      cases ix
      have e : (match μ a with | some (.lst ds) => (toPys μ ds).map .list | _ => none) = some p := hp
      have nd : p.hasDict = false := by
        cases q : μ a with
        | none => rw [q] at e; cases e
        | some m => rw [q] at e; cases m <;> first | (simp at e; obtain ⟨ps, g1, rfl⟩ := e; exact noDict_pys g1) | cases e
      exact .inl (.inr ⟨a, p, rfl, dp, h1, nd, h2, h3, done⟩)
    | lst ds => cases ix; exact .inl (.inr ⟨_, p, rfl, dp, h1, noDict_py (show toPy μ (.lst ds) = some p from hp), h2, h3, done⟩)
    | sq ds => cases ix; exact .inl (.inr ⟨_, p, rfl, dp, h1, noDict_py (show toPy μ (.sq ds) = some p from hp), h2, h3, done⟩)
    | tup ds => cases ix; exact .inl (.inr ⟨_, p, rfl, dp, h1, noDict_py (show toPy μ (.tup ds) = some p from hp), h2, h3, done⟩)
    | _ => simp [toPyT, toPy] at hp
def vListOf : VL_ := fun xs μ Φ => ∃ x ds, xs = [x] ∧ seqOf μ x = some ds ∧ Φ (.lst ds) μ
def vListOfM : VL_ := fun xs μ Φ => ∃ x ds, xs = [x] ∧ seqOf μ x = some ds ∧ ∀ p, μ p = none → Φ (.ref p) (μ.set p (.lst ds))
def vTupOf : VL_ := fun xs μ Φ => ∃ x ds, xs = [x] ∧ seqOf μ x = some ds ∧ Φ (.tup ds) μ
theorem s_list : SimL K T (fun xs H Q => ∃ p ys, xs = [.ref p] ∧ (SqL K H p ys ∨ SqT K H p ys) ∧ ∀ l, H l = none → Q (.ref l) (upd H l (.lst ys))) vListOf := fun xs vs μ H Φ Q ia st ⟨x, ds, e, hs, q⟩ k => by
  subst e
  cases ia with
  | cons ix c =>
    cases c
    obtain ⟨a, vs, rfl, sq, i⟩ := is_seq st ix hs
    exact ⟨a, vs, rfl, sq, fun p hp => k.lst q i st p hp⟩
theorem s_listM : SimL K T (fun xs H Q => ∃ p ys, xs = [.ref p] ∧ (SqL K H p ys ∨ SqT K H p ys) ∧ ∀ l, H l = none → Q (.ref l) (upd H l (.lst ys))) vListOfM := fun xs vs μ H Φ Q ia st ⟨x, ds, e, hs, q⟩ k => by
  subst e
  cases ia with
  | cons ix c =>
    cases c
    obtain ⟨a, vs, rfl, sq, i⟩ := is_seq st ix hs
    exact ⟨a, vs, rfl, sq, fun p hp => k.lstM q i st p hp⟩
theorem s_tuple : SimL K T (fun xs H Q => ∃ p ys, xs = [.ref p] ∧ ((SqL K H p ys ∧ ∀ l, H l = none → Q (.ref l) (upd H l (.tup ys))) ∨ (SqT K H p ys ∧ Q (.ref p) H))) vTupOf := fun xs vs μ H Φ Q ia st ⟨x, ds, e, hs, q⟩ k => by
  subst e
  cases ia with
  | @cons v _ _ _ ix c =>
    cases c
    have other : (∀ es, x ≠ .tup es) → ∃ p ys, [v] = [V.ref p] ∧ ((SqL K H p ys ∧ ∀ l, H l = none → Q (.ref l) (upd H l (.tup ys))) ∨ (SqT K H p ys ∧ Q (.ref p) H)) := fun nt => by
      have e2 : fzL x = some ds ∨ lstOf μ x = some ds := by
        cases x with
        | lst es => exact .inl hs
        | sq es => exact .inl hs
        | ref a => exact .inr (lstOf_of (seqOf_ref hs))
        | tup es => exact (nt es rfl).elim
        | _ => simp [seqOf] at hs
      obtain ⟨a, us, rfl, sq, i⟩ := sqL_of st ix e2
      exact ⟨a, us, rfl, .inl ⟨sq, fun p hp => k.tup q i st p hp⟩⟩
    cases x with
    | tup es =>
      simp only [seqOf, Option.some.injEq] at hs
      subst hs
      have ix2 := ix
      cases ix with
      | tup at_ i => exact ⟨_, _, rfl, .inr ⟨at_.sq, k.now q ix2 st⟩⟩
    | _ => exact other nofun
def vAll (an : Bool) : VL_ := fun xs μ Φ => ∃ (x : D) (bs : List Bool), xs = [x] ∧ (fzL x = some (bs.map .bl) ∨ lstOf μ x = some (bs.map .bl)) ∧ Φ (.bl (if an then bs.any id else bs.all id)) μ
theorem s_any : SimL K T (rAny K) (vAll true) := fun xs vs μ H Φ Q ia st ⟨x, bs, e, hs, q⟩ k => by
  subst e
  cases ia with
  | cons ix c =>
    cases c
    obtain ⟨a, us, rfl, sq, i⟩ := sqL_of st ix hs
    rw [vs_bls i] at sq
    exact ⟨a, bs, rfl, sq, k.now q (.bl _) st⟩
theorem s_all : SimL K T (rAll K) (vAll false) := fun xs vs μ H Φ Q ia st ⟨x, bs, e, hs, q⟩ k => by
  subst e
  cases ia with
  | cons ix c =>
    cases c
    obtain ⟨a, us, rfl, sq, i⟩ := sqL_of st ix hs
    rw [vs_bls i] at sq
    exact ⟨a, bs, rfl, sq, k.now q (.bl _) st⟩
/-! ### isinstance, built-in classes -/
/-- the name of a value's built-in class -/
def tyD (μ : Mu) : D → Option String
  | .non => some "NoneType"
  | .bl _ => some "bool"
  | .int _ => some "int"
  | .str _ => some "str"
  | .lst _ => some "list"
  | .tup _ => some "tuple"
  | .dic _ _ => some "dict"
  | .ref a => match μ a with
    | some (.lst _) => some "list"
    | some (.dic _ _) => some "dict"
    | _ => none
  | _ => none
theorem tyX_is {μ : Mu} {H : Hp} {v : V} {x : D} {t : String} (st : Sto K T μ H) (h : Is K μ H v x) (e : tyD μ x = some t) : TyX K H v (.type t) := by
  cases h with
  | non => cases e; exact .base .non
  | bl b => cases e; exact .base (.bl b)
  | int b => cases e; exact .base (.int b)
  | str b => cases e; exact .base (.str b)
  | lst a i => cases e; exact .base (.lst a.2)
  | tup a i =>
    cases e
    rcases a with ⟨_, h⟩ | h
    · exact .base (.tup h)
    · rcases h with (h | ⟨o, h⟩) | ⟨o, its, n, h1, h2, _⟩
      · cases h
      · cases h
      · exact .kTuple h1 h2
  | dic m h l i => cases e; exact .base (.dK h)
  | ref a =>
    have e2 : (match μ a with | some (.lst _) => some "list" | some (.dic _ _) => some "dict" | _ => none) = some t := e
    cases q : μ a with
    | none => rw [q] at e2; cases e2
    | some m =>
      rw [q] at e2
      have mo := st.mo _ _ q
      cases m with
      | lst ds => cases e2; obtain ⟨vs, h1, _⟩ := mo; exact .base (.lst h1)
      | dic ks ds => cases e2; obtain ⟨vs, h1, _⟩ := mo; exact .base (.dK h1)
      | ins _ _ _ => cases e2
      | raw _ => cases e2
  | _ => simp [tyD] at e
/-- of one built-in class, or of one of a row -/
def vIsi : VL_ := fun xs μ Φ => ∃ x n t b, xs = [x, .ty n] ∧ tyD μ x = some t ∧ kitB t n = some b ∧ Φ (.bl b) μ
theorem s_isi : SimL K T (rIsi K) vIsi := fun xs vs μ H Φ Q ia st ⟨x, n, t, b, e, ht, kb, q⟩ k => by
  subst e
  cases ia with
  | cons ix c => cases c with
    | cons iy c =>
      cases iy; cases c
      exact ⟨_, _, _, _, b, rfl, .ty n, tyX_is st ix ht, kit_ty kb, k.now q (.bl b) st⟩
def vIsi2 : VL_ := fun xs μ Φ => ∃ x n m t b c, xs = [x, .tup [.ty n, .ty m]] ∧ tyD μ x = some t ∧ kitB t n = some b ∧ kitB t m = some c ∧ Φ (.bl (b || c)) μ
end
end VL

set_option maxRecDepth 100000
set_option maxHeartbeats 4000000
/-! values as trees: attributes, methods of lists, exceptions -/
namespace VL
open PySem L2 FW PyProof.Rows
/-! ### attributes -/
def putN (f : Str) : List Str → List Str
  | [] => [f]
  | n :: ns => if n = f then n :: ns else n :: putN f ns
def putX {α : Type} (f : Str) (x : α) : List Str → List α → List α
  | [], _ => [x]
  | _ :: _, [] => [x]
  | n :: ns, y :: ys => if n = f then x :: ys else y :: putX f x ns ys
theorem put_zip (f : Str) (v : V) : ∀ {ns : List Str} {vs : List V}, ns.length = vs.length → (putN f ns).zip (putX f v ns vs) = putF f v (ns.zip vs) ∧ (putN f ns).length = (putX f v ns vs).length
  | [], [], _ => ⟨rfl, rfl⟩
  | [], _ :: _, h => by cases h
  | _ :: _, [], h => by cases h
  | n :: ns, y :: ys, h => by
    have ih := put_zip f v (ns := ns) (vs := ys) (by simpa using h)
    unfold putN putX
    by_cases e : n = f
    · rw [if_pos e, if_pos e]
      refine ⟨?_, by simpa using h⟩
      show (n, v) :: ns.zip ys = if n = f then (n, v) :: ns.zip ys else _
      rw [if_pos e]
    · rw [if_neg e, if_neg e]
      refine ⟨?_, by simpa using ih.2⟩
      show (n, y) :: _ = if n = f then _ else (n, y) :: putF f v (ns.zip ys)
      have ih1 : List.zipWith Prod.mk (putN f ns) (putX f v ns ys) = putF f v (ns.zip ys) := ih.1
      rw [if_neg e, ih1]
theorem put_len (f : Str) {ns : List Str} {m : Nat} (h : ns.length < m) : (putN f ns).length ≤ m := by
  induction ns generalizing m with
  | nil => simp [putN]; omega
  | cons n ns ih =>
    unfold putN
    split
    · simp at h ⊢; omega
    · simp only [List.length_cons] at h ⊢
      have := ih (m := m - 1) (by omega)
      omega
theorem is_put {K : PySem.W.Frag} {μ : Mu} {H : Hp} {v : V} {d : D} {f : Str} (h : Is K μ H v d) : ∀ {ns : List Str} {vs : List V} {ds : List D}, IsAll K μ H vs ds → IsAll K μ H (putX f v ns vs) (putX f d ns ds)
  | [], _, _, _ => .cons h .nil
  | _ :: _, _, _, .nil => .cons h .nil
  | n :: ns, _, _, .cons a b => by
    unfold putX
    split
    · exact .cons h b
    · exact .cons a (is_put h b)
def lookD (f : Str) : List Str → List D → Option D
  | n :: ns, d :: ds => if f = n then some d else lookD f ns ds
  | _, _ => none
theorem look_is {K : PySem.W.Frag} {μ : Mu} {H : Hp} {f : Str} {d : D} : ∀ {ns : List Str} {vs : List V} {ds : List D}, IsAll K μ H vs ds → lookD f ns ds = some d → ∃ v, (ns.zip vs).lookup f = some v ∧ Is K μ H v d
  | [], _, _, _, e => by cases e
  | _ :: _, _, _, .nil, e => by cases e
  | n :: ns, _, _, .cons (v := v) a b, e => by
    unfold lookD at e
    rw [List.zip_cons_cons, List.lookup_cons]
    split at e
    · rename_i q
      cases e
      subst q
      exact ⟨v, by simp, a⟩
    · rename_i q
      have : (f == n) = false := by simp [q]
      rw [this]
      exact look_is b e
def wFld (C : Addr) (f : Str) (w : WE) : WE := fun ρ μ ev Φ => w ρ μ ev fun x μ1 => ∃ ns ds d, insOf μ1 x = some (C, ns, ds) ∧ lookD f ns ds = some d ∧ Φ d μ1
def wSetF (C : Addr) (f : Str) (wo wv : WE) : WS := fun DD ρ μ ev => wv ρ μ ev fun y μ1 => wo ρ μ1 ev fun x μ2 => ∃ a ns ds, x = .ref a ∧ μ2 a = some (.ins C ns ds) ∧ ns.length < 999 ∧ DD.nx ρ (μ2.set a (.ins C (putN f ns) (putX f y ns ds)))
section
variable {X : Cx} {T : List (Addr × Str)} {E : XK} {e o v : Expr} {f : Str} {C : Addr} {w wo wv : WE} {pos pos' tpos : Pos}
theorem ve_fld (c : Cls X.K C) (n : NoAttr X.K C f) (h : PE X e (up X.K T E w)) (hb : attributeBase e f X.env (eval e X.env) = eval e X.env := by rfl) : PE X (.Attribute e f pos) (up X.K T E (wFld C f w)) :=
  pe_mono (pe_fld h hb) fun σ H Q ⟨ρ, μ, ev, Φ, en, st, xo, h, k⟩ => ⟨ρ, μ, ev, _, en, st, xo, h, fun x μ1 u H1 ⟨ns, ds, d, hi, hl, q⟩ ix st1 s1 => by
    obtain ⟨a, dx, vs, rfl, ha, _, ia⟩ := is_ins st1 ix hi
    obtain ⟨z, h1, h2⟩ := look_is ia hl
    exact ⟨a, C, dx, _, z, rfl, ha, c, n, h1, (k.step s1).now q h2 st1⟩⟩
/-- what is stored where an instance changes -/
theorem ins_set {K : PySem.W.Frag} {μ : Mu} {H : Hp} {a : Addr} {ns : List Str} {ds : List D} {y : V} {d : D} (st : Sto K T μ H) (hm : μ a = some (.ins C ns ds)) (hn : ns.length < 999) (iy : Is K μ H y d) : ∃ dx vs, H a = some (.ins C dx (ns.zip vs)) ∧ (ns.zip vs).length < 1000 ∧
    Sto K T (μ.set a (.ins C (putN f ns) (putX f d ns ds))) (upd H a (.ins C dx (putF f y (ns.zip vs)))) ∧ Step μ H (μ.set a (.ins C (putN f ns) (putX f d ns ds))) (upd H a (.ins C dx (putF f y (ns.zip vs)))) := by
  obtain ⟨dx, vs, h1, hl, ia⟩ := st.mo _ _ hm
  have pz := put_zip f y hl
  have s := step_set (H := H) (m' := .ins C (putN f ns) (putX f d ns ds)) (o := .ins C dx ((putN f ns).zip (putX f y ns vs))) hm
  have st2 := st.set (m' := .ins C (putN f ns) (putX f d ns ds)) hm ⟨dx, _, upd_same, pz.2, (is_put iy ia).step s⟩
  refine ⟨dx, vs, h1, by rw [List.length_zip]; omega, ?_, ?_⟩
  · rw [← pz.1]; exact st2
  · rw [← pz.1]; exact s
theorem vs_fld (c : Cls X.K C) (n : NoAttr X.K C f) (ho : PE X o (up X.K T E wo)) (hv : PE X v (up X.K T E wv)) (hs : swapsWith v (some (.Attribute o f pos')) pos.line X.env = pure false := by rfl) : PS X (.Assign [.Attribute o f pos'] v pos) (upS X.K T E (wSetF C f wo wv)) :=
  ps_mono (ps_fld ho hv hs) fun Dn σ H ⟨ρ, μ, ev, DD, en, st, xo, h, k⟩ => ⟨ρ, μ, ev, _, en, st, xo, h, fun y μ1 u H1 hy iy st1 s1 => ⟨ρ, μ1, ev, _, en.step s1, st1, xo.step s1, hy, fun x μ2 vx H2 ⟨a, ns, ds, e, hm, hn, q⟩ ix st2 s2 => by
    subst e
    cases ix
    obtain ⟨dx, vs, h1, hl, st3, s3⟩ := ins_set (f := f) st2 hm hn (iy.step s2)
    exact ⟨a, C, dx, _, rfl, h1, c, n, hl, (k.step (s1.trans (s2.trans s3))).nx q (en.step (s1.trans (s2.trans s3))) st3⟩⟩⟩
/-- o.f op= e; n op= e, ints -/
def wAugF (C : Addr) (f : Str) (r : V2) (wo wv : WE) : WS := fun DD ρ μ ev => wo ρ μ ev fun x μ1 => ∃ a ns ds d, x = .ref a ∧ μ1 a = some (.ins C ns ds) ∧ lookD f ns ds = some d ∧ wv ρ μ1 ev fun y μ2 => r d y μ2 fun z μ3 => ∃ ns ds, μ3 a = some (.ins C ns ds) ∧ ns.length < 999 ∧ DD.nx ρ (μ3.set a (.ins C (putN f ns) (putX f z ns ds)))
theorem vs_augf {op : Operator} {r : R2} {rd : V2} (c : Cls X.K C) (n : NoAttr X.K C f) (hop : InOp X op r) (sim : Sim2 X.K T r rd) (ho : PE X o (up X.K T E wo)) (hv : PE X v (up X.K T E wv)) : PS X (.AugAssign (.Attribute o f tpos) op v pos) (upS X.K T E (wAugF C f rd wo wv)) :=
  ps_mono (ps_fldaug ho hv hop) fun Dn σ H ⟨ρ, μ, ev, DD, en, st, xo, h, k⟩ => ⟨ρ, μ, ev, _, en, st, xo, h, fun x μ1 u H1 ⟨a, ns, ds, d, e, hm, hl, q⟩ ix st1 s1 => by
    subst e
    cases ix
    obtain ⟨dx, vs, h1, hz, ia⟩ := st1.mo _ _ hm
    obtain ⟨z, h3, h4⟩ := look_is ia hl
    refine ⟨a, C, dx, _, z, rfl, h1, c, n, h3, ρ, μ1, ev, _, en.step s1, st1, xo.step s1, q, fun y μ2 vy H2 hy iy st2 s2 => sim d y z vy μ2 H2 _ _ (h4.step s2) iy st2 hy fun g μ3 vg H3 ⟨ns, ds, hm3, hn3, q3⟩ ig st3 s3 => ?_⟩
    obtain ⟨dx', vs', k1, kl, st4, s4⟩ := ins_set (f := f) st3 hm3 hn3 ig
    have ss := s1.trans (s2.trans (s3.trans s4))
    exact ⟨dx', _, k1, kl, (k.step ss).nx q3 (en.step ss) st4⟩⟩
def wAug (i : Nat) (r : V2) (w : WE) : WS := fun DD ρ μ ev => ∃ d, ρ[i]? = some (some d) ∧ w ρ μ ev fun y μ1 => r d y μ1 fun z μ2 => DD.nx (ρ.set i (some z)) μ2
theorem vs_aug {i : Nat} {x : Str} {op : Operator} {r : R2} {rd : V2} (hN : X.N.Nodup) (hi : X.N[i]? = some x) (hx : Loc X.env.scope x) (hop : InOp X op r) (sim : Sim2 X.K T r rd) (he : PE X e (up X.K T E w)) (hf : X.fn x = true ∨ X.env.scope.names.lookup x = some .local := by first | exact .inl rfl | exact .inr rfl | assumption) : PS X (.AugAssign (.Name x pos') op e pos) (upS X.K T E (wAug i rd w)) :=
  ps_mono (ps_aug (ti := r) hN hi hx he (fun pins s σ H a b u v Q I ra rb q => hop pins s σ H a b u v Q I ra rb q) hf) fun Dn σ H ⟨ρ, μ, ev, DD, en, st, xo, ⟨d, hd, h⟩, k⟩ => by
    obtain ⟨u, e1, e2⟩ := en.2 i d hd
    exact ⟨u, e1, ρ, μ, ev, _, en, st, xo, h, fun y μ1 vy H1 hy iy st1 s1 => sim d y u vy μ1 H1 _ _ (e2.step s1) iy st1 hy fun z μ2 vz H2 q iz st2 s2 => (k.step (s1.trans s2)).nx q ((en.step (s1.trans s2)).set i iz) st2⟩
theorem inop {X : Cx} {op : Operator} {r : R2} (h : OpR X (inplaceOp op) r) : InOp X op r := fun pins s σ H x y u v Q I rx ry q => h pins s σ H x y u v Q I rx ry q
/-! ### methods of built-in values -/
abbrev VM := D → List D → Mu → WK → Prop
def SimM (K : PySem.W.Frag) (T : List (Addr × Str)) (Ty : String) (r : V → List V → Hp → VK → Prop) (ok : D → Mu → Prop) (rd : VM) : Prop :=
  (∀ x v μ H, Is K μ H v x → Sto K T μ H → ok x μ → tyV K Ty v H) ∧ ∀ x xs v vs μ H Φ Q, Is K μ H v x → IsAll K μ H vs xs → Sto K T μ H → rd x xs μ Φ → KOk K T μ H Φ Q → r v vs H Q
def wBM (ok : D → Mu → Prop) (r : VM) (wo : WE) (w : WA) : WE := fun ρ μ ev Φ => wo ρ μ ev fun x μ1 => ok x μ1 ∧ w ρ μ1 ev fun xs μ2 => r x xs μ2 Φ
variable {es : List Expr} {wa : WA} {Ty id : String} {r : V → List V → Hp → VK → Prop} {ok : D → Mu → Prop} {rd : VM} {name : Str} {apos cpos : Pos}
theorem ve_bm (pa : PlainAttrs Ty) (slot : Slot Ty name id) (hty : typeOf (.builtin id) = pure (.type "method_descriptor")) (hm : MtR X id r) (sim : SimM X.K T Ty r ok rd) (ho : PE X o (up X.K T E wo)) (ha : PA X (e :: es) (upA X.K T E wa))
    (p : ∀ to : TE, ∀ t : TA, PE X o to → PA X (e :: es) t → PE X (.Call (.Attribute o name apos) (e :: es) [] cpos) (tBM X.K Ty r to t) := by intro to t h1 h2; exact pe_bm ‹_› ‹_› ‹_› ‹_› h1 h2) : PE X (.Call (.Attribute o name apos) (e :: es) [] cpos) (up X.K T E (wBM ok rd wo wa)) :=
  pe_mono (p _ _ ho ha) fun σ H Q ⟨ρ, μ, ev, Φ, en, st, xo, h, k⟩ => ⟨ρ, μ, ev, _, en, st, xo, h, fun x μ1 v H1 ⟨o1, q⟩ ix st1 s1 => ⟨sim.1 x v μ1 H1 ix st1 o1, ρ, μ1, ev, _, en.step s1, st1, xo.step s1, q, fun xs μ2 vs H2 q2 ia st2 s2 => sim.2 x xs v vs μ2 H2 Φ Q (ix.step s2) ia st2 q2 (k.step (s1.trans s2))⟩⟩
theorem ve_bm0 (hm : MtR X id r) (sim : SimM X.K T Ty r ok rd) (p : ∀ to : TE, PE X o to → PE X (.Call (.Attribute o name apos) [] [] cpos) (tBM0 X.K Ty r to)) (ho : PE X o (up X.K T E wo)) : PE X (.Call (.Attribute o name apos) [] [] cpos) (up X.K T E (wBM ok rd wo wNil)) :=
  pe_mono (p _ ho) fun σ H Q ⟨ρ, μ, ev, Φ, en, st, xo, h, k⟩ => ⟨ρ, μ, ev, _, en, st, xo, h, fun x μ1 v H1 ⟨o1, q⟩ ix st1 s1 => ⟨sim.1 x v μ1 H1 ix st1 o1, sim.2 x [] v [] μ1 H1 Φ Q ix .nil st1 q (k.step s1)⟩⟩
/-- a list that may change -/
def okM (x : D) (μ : Mu) : Prop := ∃ a ds, x = .ref a ∧ μ a = some (.lst ds)
theorem okM_ty {K : PySem.W.Frag} {x : D} {v : V} {μ : Mu} {H : Hp} (ix : Is K μ H v x) (st : Sto K T μ H) (h : okM x μ) : tyV K "list" v H := by
  obtain ⟨a, ds, rfl, hm⟩ := h
  cases ix
  obtain ⟨vs, h1, _⟩ := st.mo _ _ hm
  exact .inl ⟨rfl, vs, SqL.of h1⟩
def vAppend : VM := fun x xs μ Φ => ∃ a ds d, x = .ref a ∧ xs = [d] ∧ μ a = some (.lst ds) ∧ ds.length < sizeLine ∧ Φ .non (μ.set a (.lst (ds ++ [d])))
theorem s_append {K : PySem.W.Frag} : SimM K T "list" rAppend okM vAppend := ⟨fun x v μ H ix st h => okM_ty ix st h, fun x xs v vs μ H Φ Q ix ia st ⟨a, ds, d, e1, e2, hm, hl, q⟩ k => by
  subst e1 e2
  cases ix
  cases ia with
  | cons iy c =>
    cases c
    obtain ⟨us, h1, i1⟩ := st.mo _ _ hm
    exact ⟨a, us, _, rfl, rfl, h1, by rw [i1.len]; exact hl, k.setL hm q (i1.app (.cons iy .nil)) .non st⟩⟩
def vExtend : VM := fun x xs μ Φ => ∃ a ds y es, x = .ref a ∧ xs = [y] ∧ μ a = some (.lst ds) ∧ lstOf μ y = some es ∧ ds.length + es.length ≤ sizeLine ∧ Φ .non (μ.set a (.lst (ds ++ es)))
theorem s_extend {K : PySem.W.Frag} : SimM K T "list" rExtend okM vExtend := ⟨fun x v μ H ix st h => okM_ty ix st h, fun x xs v vs μ H Φ Q ix ia st ⟨a, ds, y, es, e1, e2, hm, he, hl, q⟩ k => by
  subst e1 e2
  cases ix
  cases ia with
  | cons iy c =>
    cases c
    obtain ⟨us, h1, i1⟩ := st.mo _ _ hm
    obtain ⟨b, ws, rfl, h2, i2⟩ := is_lst st iy he
    exact ⟨a, b, us, ws, rfl, rfl, h1, h2, by rw [i1.len, i2.len]; exact hl, k.setL hm q (i1.app i2) .non st⟩⟩
def vPop : VM := fun x xs μ Φ => ∃ a ds d, x = .ref a ∧ xs = [] ∧ μ a = some (.lst ds) ∧ ds[ds.length - 1]? = some d ∧ Φ d (μ.set a (.lst ds.dropLast))
theorem s_pop {K : PySem.W.Frag} : SimM K T "list" rPop okM vPop := ⟨fun x v μ H ix st h => okM_ty ix st h, fun x xs v vs μ H Φ Q ix ia st ⟨a, ds, d, e1, e2, hm, hd, q⟩ k => by
  subst e1 e2
  cases ix; cases ia
  obtain ⟨us, h1, i1⟩ := st.mo _ _ hm
  obtain ⟨u, h2, h3⟩ := i1.get hd
  exact ⟨a, us, u, rfl, rfl, h1, by rw [i1.len]; exact h2, k.setL hm q i1.dropLast h3 st⟩⟩
def vPopAt : VM := fun x xs μ Φ => ∃ a ds i j d, x = .ref a ∧ xs = [.int i] ∧ μ a = some (.lst ds) ∧ -(2 ^ 63) ≤ i ∧ i < 2 ^ 63 ∧ seqIndex? i ds.length = some j ∧ ds[j]? = some d ∧ Φ d (μ.set a (.lst (ds.eraseIdx j)))
theorem s_popAt {K : PySem.W.Frag} : SimM K T "list" rPopAt okM vPopAt := ⟨fun x v μ H ix st h => okM_ty ix st h, fun x xs v vs μ H Φ Q ix ia st ⟨a, ds, i, j, d, e1, e2, hm, n1, n2, hj, hd, q⟩ k => by
  subst e1 e2
  cases ix
  cases ia with
  | cons iy c =>
    cases iy; cases c
    obtain ⟨us, h1, i1⟩ := st.mo _ _ hm
    obtain ⟨u, h2, h3⟩ := i1.get hd
    exact ⟨a, us, i, j, u, rfl, rfl, h1, n1, n2, by rw [i1.len]; exact hj, h2, k.setL hm q (i1.erase j) h3 st⟩⟩
def vClear : VM := fun x xs μ Φ => ∃ a ds, x = .ref a ∧ xs = [] ∧ μ a = some (.lst ds) ∧ Φ .non (μ.set a (.lst []))
theorem s_clear {K : PySem.W.Frag} : SimM K T "list" rClear okM vClear := ⟨fun x v μ H ix st h => okM_ty ix st h, fun x xs v vs μ H Φ Q ix ia st ⟨a, ds, e1, e2, hm, q⟩ k => by
  subst e1 e2
  cases ix; cases ia
  obtain ⟨us, h1, i1⟩ := st.mo _ _ hm
  exact ⟨a, us, rfl, rfl, h1, k.setL hm q .nil .non st⟩⟩
/-! ### raise, an own exception of one field -/
def wRaise (C : Addr) (f : Str) (w : WA) : WS := fun _ ρ μ ev => w ρ μ ev fun ds μ1 => ∃ d, ds = [d] ∧ ev C [f] [d] μ1
theorem vs_raise {cn : Str} {p pos2 : Pos} (Te : Exn X.prog X.w X.K X.mg X.base cn f C) (hc : X.calm = true) (hr : Room 2 X.A) (tk : Takes X fun cls d _ H => E cls d H) (ha : PA X [e] (upA X.K T E wa)) (hg : Gl X cn) (hdb : (cn == ("__debug__" : Str)) = false := by decide)
    (he : starEach (e :: []) X.env = (false, eval e X.env) :: starEach [] X.env := by rfl) (hpl : (backTo pos (starEach [] X.env)).any (·.1) = false := by rfl) : PS X (.Raise (some (.Call (.Name cn p) [e] [] pos)) none pos2) (upS X.K T E (wRaise C f wa)) :=
  ps_mono (ps_raise1 Te hc hr tk ha hg hdb he hpl) fun Dn σ H ⟨ρ, μ, ev, DD, en, st, xo, h, k⟩ => ⟨ρ, μ, ev, _, en, st, xo, h, fun ds μ1 vs H1 ⟨d, e, q⟩ ia st1 s1 => by
    subst e
    cases ia with
    | @cons v _ _ _ iv c =>
      cases c
      refine w_mk1 Te.oex Te.no fun dd nd => ?_
      have s2 := step_new (o := .xd [(f, v)]) nd (st1.free nd)
      exact xo C [f] [d] [v] dd μ1 _ q (by rw [upd_same]; rfl) (st1.free nd) rfl (.cons (iv.step s2) .nil) (st1.new nd) (s1.trans s2)⟩
/-! ### properties -/
def wProp (sel : EV → EV) (C : Addr) (sp : VSp) (w : WE) : WE := fun ρ μ ev Φ => w ρ μ ev fun x μ1 => ∃ ns fs, insOf μ1 x = some (C, ns, fs) ∧ sp [x] μ1 (sel ev) Φ
end
section
variable {X : Cx} {C p g : Addr} {k : Nat} {fd : FuncData} {ps : List Str} {sp : Sp} {E : XK} {CX : CXT} {f : Str}
theorem getprop_g {pins : List (Addr × Obj)} {σ : L2.St} {H : Hp} {s : Shared} {Q : VK} {b : Bool} {a dx : Addr} {fs : List (Str × V)} {E2 : Value → Shared → Prop} (I : Inv X pins σ H s) (ea : H a = some (.ins C dx fs)) (c : Cls X.K C) (hp : PropOf X.K C f p g) (F : FnG X.prog X.w X.K X.mg X.base CX k g fd ps sp) (hG : X.A.guards = some [])
    (hr : Room (k + 1) X.A) (hb : Binds X.K fd ps []) (hx : Passes CX X.nox E) (h : sp [.ref a] H Q E) : wpAny (model X.prog X.w) X.A (getAttr (.ref a) f b) (EP X pins σ Q) E2 s := by
  obtain ⟨mA, O, _, _, _, _⟩ := ins_get I.hok ea
  obtain ⟨od, J, _⟩ := O.look
  obtain ⟨rest, hrec⟩ := hp.rec_
  have J1 := I.tok (s.toks + 1)
  have hl : [Value.ref a].length = ps.length := F.size _ _ _ _ h
  have bind := hb { s with toks := s.toks + 1 } [.ref a] J1.kIn (by rw [List.append_nil]; exact hl)
  have isC : (PySem.W.clsIn X.K C).isSome = true := by
    obtain ⟨cd, q, _⟩ := PySem.W.any_some c.hd
    rw [q]; rfl
  have pg := PySem.W.plainGet_of (c.get f)
  refine PySem.W.get_bind I.kIn J pg.1 (PySem.W.findObj_data isC hp.at_ hp.get hp.tak) pg.2 (wpAny_call (PySem.W.prop_get (s := { s with toks := s.toks + 1 }) I.kIn hrec ?_))
  have go := F.goes X.A.in1 X.stack { s with toks := s.toks + 1 } H ⟨[.ref a], []⟩ [.ref a] [.ref a] Q E hG hr.in1 J1.env0.in1 (by rw [List.append_nil] at bind; exact bind) (.cons rfl .nil) h
  refine codeAny_mono go fun r s2 hz => ?_
  match r, hz with
  | .error e, hz => exact (hx pins σ H _ e s2 (J1.wish _) hz).elim
  | .ok (.ret u), hz =>
    obtain ⟨v, H2, J2, rv, q⟩ := J1.after hz
    show wpAny _ _ (handedOut u) _ _ _
    rw [PySem.W.handedOut_of (handed_of rv)]
    exact wpAny_pure ⟨v, H2, J2, rv, q⟩
  | .ok .next, hz => exact (show False from hz).elim
  | .ok .brk, hz => exact (show False from hz).elim
  | .ok .cont, hz => exact (show False from hz).elim
end
section
variable {X : Cx} {T : List (Addr × Str)} {C p g : Addr} {k j : Nat} {sp : VSp} {E E' : XK} {CX : CXT} {f : Str} {e : Expr} {w : WE} {pos : Pos} {sel : EV → EV}
/-- a getter -/
structure GetV (P : Program) (w : World) (K : PySem.W.Frag) (mg : Str → Option Value) (base : Heap) (CX : CXT) (T : List (Addr × Str)) (k : Nat) (g : Addr) (sp : VSp) : Prop where
  ex : ∃ (fd : FuncData) (ps : List Str), FnG P w K mg base CX k g fd ps (lift K T sp) ∧ Binds K fd ps []
theorem ve_prop (cl : Cls X.K C) (hp : PropOf X.K C f p g) (G : GetV X.prog X.w X.K X.mg X.base CX T k g sp) (hG : X.A.guards = some []) (hr : Room j X.A) (hk : k + 1 ≤ j) (hx : Passes CX X.nox E') (hs : Sel E E' sel) (he : PE X e (up X.K T E w)) (hab : attributeBase e f X.env (eval e X.env) = eval e X.env := by rfl) : PE X (.Attribute e f pos) (up X.K T E (wProp sel C sp w)) := by
  obtain ⟨fd, ps, F, b⟩ := G.ex
  refine ⟨fun pins s σ H Q I ⟨ρ, μ, ev, Φ, en, st, xo, h, k⟩ => attr_of hab (thn (he.run pins s σ H _ I (show up X.K T E w σ H (fun x H1 => ∃ a dx fs, x = .ref a ∧ H1 a = some (.ins C dx fs) ∧ lift X.K T sp [.ref a] H1 Q E') from
    ⟨ρ, μ, ev, _, en, st, xo, h, fun x μ1 v H1 ⟨ns, fs, hi, q⟩ ix st1 s1 => by
      obtain ⟨a, dx, us, rfl, ha, hl, iu⟩ := is_ins st1 ix hi
      exact ⟨a, dx, _, rfl, ha, [x], μ1, _, Φ, .cons ix .nil, st1, hs _ _ _ _ _ (xo.step s1), q, k.step s1⟩⟩)) fun u s1 y => ?_)⟩
  obtain ⟨x, H1, I1, rx, a, dx, fs, ex, ea, q⟩ := y
  subst ex
  obtain rfl : u = Value.ref a := rx
  exact getprop_g I1 ea cl hp F hG (hr.mono hk) b hx q
end
end VL

set_option maxRecDepth 100000
set_option maxHeartbeats 4000000
/-! values as trees: more forms -/
namespace VL
open PySem L2 FW PyProof.Rows
section
variable {X : Cx} {T : List (Addr × Str)} {E : XK} {tg iter : Expr}
theorem vv (i : Nat) {x : Str} {pos : Pos} (hN : X.N[i]? = some x := by rfl) (hv : Vis X.env.scope x := by first | exact Or.inl rfl | exact Or.inr (Or.inl rfl) | exact Or.inr (Or.inr rfl)) (hd : (x == ("__debug__" : Str)) = false := by decide) (hcd : (x == ("__classdict__" : Str)) = false := by decide) : PE X (.Name x pos) (up X.K T E (wVar i)) := ve_var hN hv hd hcd
/-- «y = [..]», frozen at once -/
theorem vs_setLcZ {i : Nat} {y : Str} {py : Pos} {elt : Expr} {ifs : List Expr} {scope : Scope} {own : List (Str × Nat)} {spos pos : Pos} {wi : WI} {p : Pat} {t : WT} {w : WE} (hc : X.calm = true) (hN : X.N.Nodup) (hy : X.N[i]? = some y) (hyl : X.env.scope.names.lookup y = some .local)
    (hsw : swapsWith (.ListComp elt [⟨tg, iter, ifs, 0⟩] scope pos) (some (.Name y py)) spos.line X.env = pure true) (hi : PI X tg iter (upI X.K T E wi)) (ok : BlkOk X.N X.env.scope scope own)
    (hg : ∀ (s : Shared) (H : Hp) (C : Addr) (cl : List (Str × Addr)) (fp : List Addr), PG (X.blk s H scope (compEnvC scope cl C X.env) fp) tg (p.tg X.K)) (ht : ∀ (s : Shared) (H : Hp) (C : Addr) (cl : List (Str × Addr)) (fp : List Addr), PTs (X.blk s H scope (compEnvC scope cl C X.env) fp) ifs (upT X.K T E0 t))
    (he : ∀ (s : Shared) (H : Hp) (C : Addr) (cl : List (Str × Addr)) (fp : List Addr), PE (X.blk s H scope (compEnvC scope cl C X.env) fp) elt (up X.K T E0 w)) (hv : ∀ i ∈ p.slots, i ∈ own.map (·.2)) (hs : ∀ x, foldedSetIterable iter X.env x = pure x := by intro _; rfl) :
    PS X (.Assign [.Name y py] (.ListComp elt [⟨tg, iter, ifs, 0⟩] scope pos) spos) (upS X.K T E (wAsg (wZ fun ρ μ _ Φ => wLc wi p t w (own.map (·.2)) ρ μ ev0 Φ) (wName i))) :=
  ps_mono (ps_setLc (own := own) hc hN hy hyl hsw hi ok hg ht he hs) fun Dn σ H ⟨ρ, μ, ev, DD, en, st, xo, h, k⟩ => by
    have kk : KOk X.K T μ H (fun d μ1 => ∃ a t, d = .ref a ∧ frzOf μ1 a = some t ∧ wName i t ρ (μ1.del a) ev DD.nx) (fun x H1 => gName i x σ H1 Dn.nx) := fun d μ1 v H1 ⟨a, t, e1, e2, q⟩ iv st1 s1 => by
      subst e1
      cases iv
      have s2 := s1.trans (step_del (a := a))
      exact (k.step s2).nx q ((en.step s2).set i (is_frz st1 e2)) st1.del
    exact ⟨ρ, μ, ev0, _, en, st, xok0, h, fun ds P μ1 J H1 q st1 s1 it Ds nD => lcD_up (en.step s1) st1 xok0 (kk.step s1) it hv q Ds nD⟩
theorem tPar3_up {i j l : Nat} {s : Stmt} {w : WA} {tp : Nat → Nat → Nat → TA → TS} (ht : ∀ (Dn : Ends) (σ : L2.St) (H : Hp) (ta : TA), (ta σ H fun vs H1 => ∃ a b c, vs = [a, b, c] ∧ Dn.nx (((σ.set i (some a)).set j (some b)).set l (some c)) H1) → tp i j l ta Dn σ H) (h : PS X s (tp i j l (upA X.K T E w))) :
    PS X s (upS X.K T E fun DD ρ μ ev => w ρ μ ev fun ds μ1 => ∃ a b c, ds = [a, b, c] ∧ DD.nx (((ρ.set i (some a)).set j (some b)).set l (some c)) μ1) :=
  ps_mono h fun Dn σ H ⟨ρ, μ, ev, DD, en, st, xo, h, k⟩ => ht Dn σ H _ ⟨ρ, μ, ev, _, en, st, xo, h, fun ds μ1 vs H1 ⟨a, b, c, q, hd⟩ iv st1 s1 => by
    subst q
    cases iv with
    | cons ia r => cases r with
      | cons ib r => cases r with
        | cons ic r => cases r; exact ⟨_, _, _, rfl, (k.step s1).nx hd ((((en.step s1).set i ia).set j ib).set l ic) st1⟩⟩
end
section
variable {K : PySem.W.Frag} {T : List (Addr × Str)}
/-! ### + and * by what stands there -/
def rAddA : R2 := fun x y H Q => rI0 (fun i j => .int (i + j)) x y H Q ∨ rCat x y H Q ∨ ∃ i j, x = .str i ∧ y = .str j ∧ i.length + j.length ≤ sizeLine ∧ Q (.str (i ++ j)) H
theorem op_addA {X : Cx} : OpR X (binaryOp .Add) rAddA := by
  intro pins s σ H x y v u Q I rx ry h
  rcases h with h | h | h
  · exact op_add pins s σ H x y v u Q I rx ry h
  · exact op_cat pins s σ H x y v u Q I rx ry h
  · exact op_add_str pins s σ H x y v u Q I rx ry h
def vAddA : V2 := fun x y μ Φ => match x, y with
  | .int i, .int j => Φ (.int (i + j)) μ
  | .str a, .str b => a.length + b.length ≤ sizeLine ∧ Φ (.str (a ++ b)) μ
  | x, y => vCat x y μ Φ
theorem s_addA : Sim2 K T rAddA vAddA := fun x y v w μ H Φ Q ix iy st h k => by
  unfold vAddA at h
  split at h
  · cases ix; cases iy; exact .inl ⟨_, _, rfl, rfl, k.now h (.int _) st⟩
  · cases ix; cases iy; exact .inr (.inr ⟨_, _, rfl, rfl, h.1, k.now h.2 (.str _) st⟩)
  · exact .inr (.inl (s_cat _ _ _ _ μ H Φ Q ix iy st h k))
def rMulA : R2 := fun x y H Q => rI CMul (fun i j => .int (i * j)) x y H Q ∨ rRep x y H Q
theorem op_mulA {X : Cx} : OpR X (binaryOp .Mult) rMulA := by
  intro pins s σ H x y v u Q I rx ry h
  rcases h with h | h
  · exact op_mul pins s σ H x y v u Q I rx ry h
  · exact op_rep pins s σ H x y v u Q I rx ry h
def vMulA : V2 := fun x y μ Φ => match x, y with
  | .int i, .int j => CMul i j ∧ Φ (.int (i * j)) μ
  | x, y => vRep x y μ Φ
theorem s_mulA : Sim2 K T rMulA vMulA := fun x y v w μ H Φ Q ix iy st h k => by
  unfold vMulA at h
  split at h
  · cases ix; cases iy; exact .inl ⟨_, _, rfl, rfl, h.1, k.now h.2 (.int _) st⟩
  · exact .inr (s_rep _ _ _ _ μ H Φ Q ix iy st h k)
theorem s_lt : Sim2 K T (rI0 fun i j => .bl (decide (i < j))) vLt := sim_I0 fun _ _ _ _ => .bl _
theorem s_le : Sim2 K T (rI0 fun i j => .bl (decide (i ≤ j))) vLe := sim_I0 fun _ _ _ _ => .bl _
theorem s_gt : Sim2 K T (rI0 fun i j => .bl (decide (j < i))) vGt := sim_I0 fun _ _ _ _ => .bl _
theorem s_ge : Sim2 K T (rI0 fun i j => .bl (decide (j ≤ i))) vGe := sim_I0 fun _ _ _ _ => .bl _
/-! ### isinstance of a row of built-in classes -/
def kitAnyB (t : String) : List String → Option Bool
  | [] => some false
  | n :: ns => match kitB t n with
    | some true => some true
    | some false => kitAnyB t ns
    | none => none
theorem kitAnyB_ok {t : String} : ∀ {ns : List String} {b : Bool}, kitAnyB t ns = some b → PySem.W.kitAny K (.type t) (ns.map Value.type) = some b
  | [], b, h => h
  | n :: ns, b, h => by
    unfold kitAnyB at h
    cases q : kitB t n with
    | none => rw [q] at h; cases h
    | some c =>
      rw [q] at h
      cases c with
      | true => cases h; exact kitAny_cons (kit_ty q) (fun z => nomatch z) (fun _ => rfl)
      | false => exact kitAny_cons (kit_ty q) (fun _ => kitAnyB_ok h) (fun z => nomatch z)
def vIsiT : VL_ := fun xs μ Φ => ∃ x ns t b, xs = [x, .tup (ns.map D.ty)] ∧ tyD μ x = some t ∧ kitAnyB t ns = some b ∧ Φ (.bl b) μ
theorem vs_tys {μ : Mu} {H : Hp} : ∀ {ns : List String} {vs : List V}, IsAll K μ H vs (ns.map D.ty) → Paired ClsV vs (ns.map Value.type)
  | [], _, .nil => .nil
  | n :: ns, _, .cons (.ty _) b => .cons (.ty n) (vs_tys b)
def rIsiA (K : PySem.W.Frag) : List V → Hp → VK → Prop := fun xs H Q => rIsiT K xs H Q ∨ rIsiK K xs H Q
theorem call_isiA {X : Cx} : CallR X (.builtin "isinstance") (rIsiA X.K) := by
  intro pins s σ H xs us Q I r h
  rcases h with h | h
  · exact call_isiT pins s σ H xs us Q I r h
  · exact call_isiK pins s σ H xs us Q I r h
theorem paired_val : ∀ {us : List V} {ns : List String} {its : List Value}, Paired ClsV us (ns.map Value.type) → Vals us its → its = ns.map Value.type
  | [], [], _, .nil, .nil => rfl
  | _ :: _, n :: ns, _, .cons a b, .cons r rs => by rw [a.eq r, paired_val b rs]; rfl
theorem s_isiT : SimL K T (rIsiA K) vIsiT := fun xs vs μ H Φ Q ia st ⟨x, ns, t, b, e, ht, kb, q⟩ k => by
  subst e
  cases ia with
  | cons ix c => cases c with
    | cons iy c =>
      cases c
      cases iy with
      | tup at_ i =>
        rename_i v a us
        have done := k.now q (.bl b) st
        rcases at_ with ⟨_, hT⟩ | hK
        · exact .inl ⟨_, a, us, _, _, b, rfl, hT, vs_tys i, tyX_is st ix ht, kitAnyB_ok kb, done⟩
        · rcases hK with (h | ⟨o, h⟩) | ⟨o, its, n, h1, h2, h3, _, h5⟩
          · cases h
          · cases h
          · obtain ⟨oc, odd, dt, sl⟩ := o
            simp only at h2 h3
            subst h2 h3
            have e := paired_val (vs_tys i) h5
            exact .inr ⟨_, a, odd, _, n, sl, _, b, rfl, by rw [h1, ← e], tyX_is st ix ht, kitAnyB_ok kb, done⟩
end
end VL

set_option maxRecDepth 100000
set_option maxHeartbeats 4000000
/-! values as trees: own classes' ==, !=, iteration -/
namespace VL
open PySem L2 FW PyProof.Rows
section
variable {X : Cx} {CX : CXT} {k n : Nat} {f C : Addr} {fd : FuncData} {ps ks : List Str} {sp : Sp} {E : XK} {g : List Value → List Value → List Value} {gV : List V → List V → List V} {pins : List (Addr × Obj)} {σ : L2.St} {H : Hp} {s : Shared} {Q : VK} {us ws : List Value} {vs zs : List V}
/-- a def called from within a built-in -/
theorem run_gA {A : Around} (sb : Sub X k A) (F : FnG X.prog X.w X.K X.mg X.base CX k f fd ps sp) (hG : A.guards = some []) (hb : KBn X.K fd ps n [] g gV) (hx : Passes CX X E) (I : Inv X pins σ H s) (r : Vals vs us) (l1 : vs.length = n) (h : sp (gV vs []) H Q E) :
    wpAny (model X.prog X.w) A (call (.ref f) us []) (CE X.stack X.prog X.w H s Q) X.xe s := by
  have e0 : Env0 X.prog X.w X.K X.mg X.base A X.stack s H := by
    have e := I.env0
    exact ⟨by rw [sb.fr]; exact e.frames, e.mod, e.bs, e.bsz, e.funs, e.frf, e.hok, e.bare⟩
  have go := F.goes A X.stack s H ⟨us, []⟩ (g us []) (gV vs []) Q E hG sb.room e0 (hb.to s us [] I.kIn (by rw [← r.length]; exact l1) rfl) (hb.rel r .nil) h
  refine wpAny_call (codeAny_mono go fun z s2 hz => ?_)
  match z, hz with
  | .error e, hz => exact hx pins σ H s e s2 I hz
  | .ok (.ret u), hz => exact hz
  | .ok .next, hz => exact (show False from hz).elim
  | .ok .brk, hz => exact (show False from hz).elim
  | .ok .cont, hz => exact (show False from hz).elim
/-- a method that one of Python's own operators calls: with n values besides self -/
structure SpecV (P : Program) (w : World) (K : PySem.W.Frag) (mg : Str → Option Value) (base : Heap) (T : List (Addr × Str)) (k : Nat) (C : Addr) (m : Str) (n : Nat) (sp : VSp) : Prop where
  ex : ∃ f as, PySem.W.findIn K (.ref C) m = some (some (.ref f)) ∧ PySem.W.isFn K (.ref f) = true ∧ CanV P w K mg base CX0 T k f (n + 1) [] as sp ∧ ∀ ds : List D, ds.length = n + 1 → argsD as ds [] = ds
/-- x == y, x of an own class with __eq__, y of the same class -/
def rEqO (X : Cx) (T : List (Addr × Str)) (C : Addr) (sp : VSp) : R2 := fun x y H Q => ∃ (a b dx dy : Addr) (fs gs : List (Str × V)) (dd : D × D), x = .ref a ∧ y = .ref b ∧ H a = some (.ins C dx fs) ∧ H b = some (.ins C dy gs) ∧
  ∃ μ, Is X.K μ H x dd.1 ∧ Is X.K μ H y dd.2 ∧ Sto X.K T μ H ∧ ∃ Φ, sp [dd.1, dd.2] μ ev0 Φ ∧ ∀ d μ' v H', Φ d μ' → Is X.K μ' H' v d → Sto X.K T μ' H' → Step μ H μ' H' → ∃ c, v = .bl c ∧ Q (.bl c) H'
/-- x != y: not x == y -/
def rNeO (X : Cx) (T : List (Addr × Str)) (C : Addr) (sp : VSp) : R2 := fun x y H Q => rEqO X T C sp x y H fun v H' => ∃ c, v = .bl c ∧ Q (.bl (!c)) H'
theorem eqO_run {T : List (Addr × Str)} {sp : VSp} {A : Around} {x y : V} {v u : Value} (S : SpecV X.prog X.w X.K X.mg X.base T k C "__eq__" 1 sp) (sb : Sub X k A) (hG : A.guards = some []) (I : Inv X pins σ H s) (rx : RelV x v) (ry : RelV y u) (h : rEqO X T C sp x y H Q) :
    ∃ f a b, v = .ref a ∧ u = .ref b ∧ PySem.W.findIn X.K (.ref C) "__eq__" = some (some (.ref f)) ∧ PySem.W.isFn X.K (.ref f) = true ∧ (∃ dx fs, H a = some (.ins C dx fs)) ∧ (∃ dx fs, H b = some (.ins C dx fs)) ∧
      wpAny (model X.prog X.w) A (call (.ref f) [v, u] []) (fun r s' => ∃ c H', r = .bool c ∧ Inv X pins σ H' s' ∧ Q (.bl c) H') X.xe s := by
  obtain ⟨a, b, dx, dy, fs, gs, ⟨d1, d2⟩, e1, e2, ha, hb, μ, i1, i2, st, Φ, hsp, hk⟩ := h
  obtain ⟨f, as, hs, hf, ⟨⟨fd, ps, g, F, kp, hB⟩, ok⟩, idA⟩ := S.ex
  subst e1 e2
  cases rx
  cases ry
  refine ⟨f, a, b, rfl, rfl, hs, hf, ⟨_, _, ha⟩, ⟨_, _, hb⟩, ?_⟩
  have hsp' : lift X.K T sp (argsV as [.ref a, .ref b] []) H (fun v H' => ∃ c, v = .bl c ∧ Q (.bl c) H') E0 :=
    ⟨_, μ, _, Φ, is_argsD (.cons i1 (.cons i2 .nil)) .nil as (by simpa using ok), st, xok0, by rw [idA [d1, d2] rfl]; exact hsp, fun d μ' v H' q iv st' s' => hk d μ' v H' q iv st' s'⟩
  refine wpAny_mono (run_gA (vs := [.ref a, .ref b]) sb F hG hB (fun _ _ _ _ _ _ _ z => z.elim) I (.cons rfl (.cons rfl .nil)) rfl hsp') (fun r s' q => ?_) fun _ _ x => x
  obtain ⟨v, H', I', rv, c, ev, q2⟩ := I.after q
  subst ev
  cases rv
  exact ⟨c, H', rfl, I', q2⟩
theorem op_eqO {T : List (Addr × Str)} {sp : VSp} (S : SpecV X.prog X.w X.K X.mg X.base T k C "__eq__" 1 sp) (hG : X.A.guards = some []) (hr : Room k X.A) : OpR X (compareOp .Eq) (rEqO X T C sp) := by
  intro pins s σ H x y v u Q I rx ry h
  obtain ⟨f, a, b, rfl, rfl, hs, hf, ⟨dx, fs, ha⟩, ⟨dy, gs, hb⟩, run⟩ := eqO_run S ⟨hr, rfl⟩ hG I rx ry h
  obtain ⟨mA, J, _⟩ := ins_get I.hok ha
  obtain ⟨mB, J', _⟩ := ins_get I.hok hb
  obtain ⟨od, J, _⟩ := J.look
  obtain ⟨od', J', _⟩ := J'.look
  obtain ⟨m, hF⟩ := I.fr
  refine PySem.W.cmp_K (op := .Eq) (tb := .ref C) hr.units0 hF I.ok.mod.kin J J'.type (by simp [PySem.W.notFirst]) hs hf ?_
  refine wpAny_mono run (fun r s' q => ?_) fun _ _ x => x
  obtain ⟨c, H', rfl, I', q⟩ := q
  exact ⟨.bl c, H', I', rfl, q⟩
theorem op_neO {T : List (Addr × Str)} {sp : VSp} (S : SpecV X.prog X.w X.K X.mg X.base T k C "__eq__" 1 sp) (hn : PySem.W.findIn X.K (.ref C) "__ne__" = some (some (.builtin "object.__ne__"))) (ob : PySem.W.mroIn X.K C (Value.type "object") = some true)
    (hG : X.A.guards = some []) (hr : Room (k + 1) X.A) : OpR X (compareOp .NotEq) (rNeO X T C sp) := by
  intro pins s σ H x y v u Q I rx ry h
  obtain ⟨f, a, b, rfl, rfl, hs, hf, ⟨dx, fs, ha⟩, ⟨dy, gs, hb⟩, run⟩ := eqO_run (A := X.A.in1) S ⟨hr.in1, rfl⟩ hG I rx ry h
  obtain ⟨mA, J, _⟩ := ins_get I.hok ha
  obtain ⟨mB, J', _⟩ := ins_get I.hok hb
  obtain ⟨od, J, _⟩ := J.look
  obtain ⟨od', J', _⟩ := J'.look
  obtain ⟨m, hF⟩ := I.fr
  have inst : PySem.W.Looks (model X.prog X.w) s.heap (isInstance (.ref a) (.type "object")) true := J.type.andThen (PySem.W.looks_mroIn I.kIn ob)
  have body : wpAny (model X.prog X.w) X.A.in1 (Builtin.«object.__ne__» ⟨[.ref a, .ref b], []⟩) (fun fin s' => ∃ c H', fin = .done (.ret (.bool (!c))) ∧ Inv X pins σ H' s' ∧ Q (.bl (!c)) H') X.xe s := by
    unfold Builtin.«object.__ne__»
    show wpAny _ _ (cRoomFor "comparison" [.ref a, .ref b] >>= fun _ => callSpecialIfBound? (.ref a) "__eq__" [.ref b] >>= _) _ _ _
    refine wpAny_bind (wpAny_cRoomFor (hr.in1).units0 ?_)
    refine wpAny_bind (PySem.W.ifBound_K I.kIn J hs hf (wpAny_mono run (fun r s' q => ?_) fun _ _ x => x))
    obtain ⟨c, H', rfl, I', c', ec, q⟩ := q
    cases ec
    refine wpAny_bind (wpAny_truthy_bool ?_)
    exact wpAny_pure ⟨c, H', rfl, I', q⟩
  have one : wpAny (model X.prog X.w) X.A (tryCompare (.ref a) "__ne__" (.ref b)) (fun r s' => ∃ v, r = some v ∧ EP X pins σ Q v s') X.xe s := by
    unfold tryCompare
    have fin : wpAny (model X.prog X.w) X.A (call (.builtin "object.__ne__") [.ref a, .ref b]) (fun r s' => ∃ c H', r = .bool (!c) ∧ Inv X pins σ H' s' ∧ Q (.bl (!c)) H') X.xe s := by
      refine wpAny_call (codeAny_call_builtin F.cmp_object.ne.plain F.cmpEntry_ne (@PySem.W.check_slot (model X.prog X.w) _ _ s "object.__ne__" "object" "__ne__" (.ref a) [.ref b] [] _ F.cmpKind_ne F.cmpSplit_ne inst (F.cmpArgs_ne _ _) ?_))
      refine wpAny_mono body (fun fin s' q => ?_) fun _ _ x => x
      obtain ⟨c, H', rfl, I', q⟩ := q
      exact ⟨c, H', rfl, I', q⟩
    have fin2 : wpAny (model X.prog X.w) X.A (call (.builtin "object.__ne__") ([.ref a] ++ [.ref b]) >>= fun v => pure (some v)) (fun r s' => ∃ c H', r = some (.bool (!c)) ∧ Inv X pins σ H' s' ∧ Q (.bl (!c)) H') X.xe s :=
      wpAny_bind (wpAny_mono fin (fun r s' ⟨c, H', e, q⟩ => wpAny_pure ⟨c, H', by rw [e], q⟩) fun _ _ z => z)
    have sp : wpAny (model X.prog X.w) X.A (callSpecialIfBound? (.ref a) "__ne__" [.ref b]) (fun r s' => ∃ c H', r = some (.bool (!c)) ∧ Inv X pins σ H' s' ∧ Q (.bl (!c)) H') X.xe s := by
      simp only [callSpecialIfBound?, bindSpecialIfBound?]
      refine wpAny_holding (wpAny_bind (wpAny_bind (wpAny_bind (J.type.here ((PySem.W.looks_findIn I.kIn hn).here ?_)))))
      simp only [F.cmp_object.ne.bind]
      refine wpAny_bind (wpAny_askSetting (wpAny_ite ?_))
      split
      · exact wpAny_bind (wpAny_pure (wpAny_pure fin2))
      · exact wpAny_tryCatch (wpAny_bind (wpAny_pure (wpAny_pure fin2)))
    refine wpAny_bind (wpAny_mono sp (fun r s' q => ?_) fun _ _ x => x)
    obtain ⟨c, H', rfl, I', q⟩ := q
    exact wpAny_pure ⟨_, rfl, .bl (!c), H', I', rfl, q⟩
  show wpAny (model X.prog X.w) X.A (richCompare .NotEq (.ref a) (.ref b)) (EP X pins σ Q) X.xe s
  unfold richCompare
  simp only [oneThing_ref]
  refine wpAny_holding (wpAny_bind (wpAny_cRoomFor hr.units0 ?_))
  refine wpAny_bind (J.type.here (wpAny_bind (J'.type.here ?_)))
  rw [show (Value.ref C != Value.ref C) = false from by simp]
  simp only [Bool.false_eq_true, if_false]
  refine wpAny_bind (wpAny_pure ?_)
  simp only [Bool.false_eq_true, if_false]
  refine wpAny_bind (wpAny_mono one (fun r s' z => ?_) fun _ _ e => e)
  obtain ⟨v, rfl, hq⟩ := z
  exact wpAny_pure hq
/-! ### an own class that is walked by a tuple of its own -/
def TiO (r it : Addr) (i : Nat) : HO := .ext fun h => h.IsTupleIter it r i
theorem tiO_ok {P : Program} {w : World} {H : Hp} {h : Heap} {r it : Addr} {i : Nat} (e : h.IsTupleIter it r i) : ObjOk P w H h it (TiO r it i) :=
  ⟨e, ⟨_, e.choose_spec.1⟩, fun h1 h2 q k => by
    obtain ⟨o, a, b⟩ := q
    exact ⟨o, k _ a, b⟩⟩
/-- iter(t), t a tuple; the iterator is young -/
def rIterT (K : PySem.W.Frag) (n : Nat) : List V → Hp → VK → Prop := fun xs H Q => ∃ (l : Addr) (zs : List V), xs = [.ref l] ∧ SqT K H l zs ∧ ∀ it, H it = Option.none → n ≤ it → Q (.ref it) (upd H it (TiO l it 0))
theorem call_iterT : CallR X (.builtin "iter") (rIterT X.K X.s_0.heap.objs.size) := by
  intro pins s σ H xs us Q I r h
  obtain ⟨l, zs, rfl, hq, q⟩ := h
  obtain ⟨u, rfl, ru⟩ := vals1 r
  cases ru
  obtain ⟨its, rv, pl, hz⟩ := I.tuple hq
  refine Calls.call_function_entry (by decide +kernel) (by decide +kernel) PySem.W.kdk_entry_iter (PySem.W.kdk_args_iter _) ?_
  unfold Builtin.«iter»
  refine wpAny_bind (m := someArgs "iter" 1 2 _) (wpAny_of_eq (a := [Value.ref l]) (by first | rfl | kernel_rfl!) ?_)
  show wpAny _ _ (pyIter (.ref l) >>= _) _ _ _
  refine wpAny_bind (wpAny_pyIter_tuple (show s.heap.IsTuple l its.toArray from pl) ?_)
  refine wpAny_pure ⟨_, rfl, ?_⟩
  exact ⟨.ref s.heap.objs.size, _, I.laid (t' := s.toks) (fun b u e => Heap.get?_push_of_some _ e) (Nat.le_refl _) (tiO_ok ⟨_, Heap.get?_push_size _ rfl, rfl, rfl⟩), rfl, q _ (I.hok.fresh (Nat.le_refl _)) I.sz⟩
/-- what __iter__ promises: an iterator over the tuple in the field -/
def spIt (K : PySem.W.Frag) (C : Addr) (fl : Str) (n : Nat) : Sp := fun vs H Q _ => ∃ a dx fs r xs, vs = [.ref a] ∧ H a = some (.ins C dx fs) ∧ fs.lookup fl = some (.ref r) ∧ SqT K H r xs ∧ ∀ it, H it = Option.none → n ≤ it → Q (.ref it) (upd H it (TiO r it 0))
structure FnI (P : Program) (w : World) (K : PySem.W.Frag) (mg : Str → Option Value) (base : Heap) (k : Nat) (f : Addr) (fd : FuncData) (C : Addr) (fl : Str) : Prop where
  goes : ∀ (A : Around) (outer : List Env) (s : Shared) (H : Hp) (u : Value) (v : V) (Q : VK) (E : XK), A.guards = some [] → Room k A → Env0 P w K mg base A outer s H → K.In s.heap → RelV v u →
    spIt K C fl s.heap.objs.size [v] H Q E → codeAny (model P w) A (.call (.ref f) ⟨[u], []⟩) (CR CX0 outer P w H s Q E) s
structure ItV (P : Program) (w : World) (K : PySem.W.Frag) (mg : Str → Option Value) (base : Heap) (k : Nat) (C : Addr) (fl : Str) : Prop where
  ex : ∃ f fd, PySem.W.findIn K (.ref C) "__iter__" = some (some (.ref f)) ∧ PySem.W.isFn K (.ref f) = true ∧ FnI P w K mg base k f fd C fl
def iOwn (K : PySem.W.Frag) (C : Addr) (fl : Str) (t : TE) : TI := fun σ H R => t σ H fun v H1 => ∃ a dx fs r xs, v = .ref a ∧ H1 a = some (.ins C dx fs) ∧ fs.lookup fl = some (.ref r) ∧ SqT K H1 r xs ∧ R (Itt K r) H1
theorem pi_own {tg iter : Expr} {fl : Str} {t : TE} (S : ItV X.prog X.w X.K X.mg X.base k C fl) (hG : X.A.guards = some []) (hr : Room k X.A) (h : PE X iter t) : PI X tg iter (iOwn X.K C fl t) := by
  refine ⟨fun pins s σ H R I hq => ?_⟩
  obtain ⟨f, fd, hs, hf, FI⟩ := S.ex
  refine thn (h.run pins s σ H _ I hq) fun v s1 ⟨x, H1, I1, r1, q1⟩ => ?_
  obtain ⟨a, dx, fs, r, xs, e, ha, hl, hr', q⟩ := q1
  subst e
  cases r1
  obtain ⟨mA, J, _⟩ := ins_get I1.hok ha
  obtain ⟨od, J, _⟩ := J.look
  obtain ⟨m, hF⟩ := I1.fr
  refine PySem.W.owit_iter hF I1.ok.mod.kin J hs hf ?_
  have hsp : spIt X.K C fl s1.heap.objs.size [.ref a] H1 (fun v H' => ∃ it, H1 it = Option.none ∧ s1.heap.objs.size ≤ it ∧ v = .ref it ∧ H' = upd H1 it (TiO r it 0)) E0 :=
    ⟨a, dx, fs, r, xs, rfl, ha, hl, hr', fun it n y => ⟨it, n, y, rfl, rfl⟩⟩
  refine wpAny_call (codeAny_mono (FI.goes X.A X.stack s1 H1 (.ref a) (.ref a) _ E0 hG hr I1.env0 I1.kIn rfl hsp) fun z s2 hz => ?_)
  match z, hz with
  | .error e, hz => exact (show False from hz).elim
  | .ok .next, hz => exact (show False from hz).elim
  | .ok .brk, hz => exact (show False from hz).elim
  | .ok .cont, hz => exact (show False from hz).elim
  | .ok (.ret u), hz =>
    obtain ⟨v, H', I2, rv, it, hn, young, ev, eH⟩ := I1.after hz
    subst ev eH
    cases rv
    have ex : upd H1 it (TiO r it 0) it = some (TiO r it 0) := upd_same
    have st : s2.heap.IsTupleIter it r 0 := (I2.hok it _ ex).1
    obtain ⟨o, ho, hc, hd⟩ := id st
    show PySem.W.OwitIt _ _ _ _ _ _
    unfold PySem.W.OwitIt
    refine wpAny_specialOf ⟨o, ho, hc⟩ PySem.F.slot_tuple_iterator_next.lookup ?_
    have D := ItX.inv_drop I2 (by unfold TiO at ex; exact ex)
    rw [ItX.dropH_upd hn] at D
    refine ⟨it, [it], _, _, H1, rfl, D, turn_tuple r it, st, fun b hb => ?_, q⟩
    have e : b = it := by simpa using hb
    rw [e]
    have fp := ItX.inv_fp I2 ex (Nat.le_trans I1.sz young)
    rw [ItX.dropH_upd hn] at fp
    exact fp
def iwO (C : Addr) (fl : Str) (w : WE) : WI := fun ρ μ ev Ψ => w ρ μ ev fun d μ1 => ∃ ns fs ds, insOf μ1 d = some (C, ns, fs) ∧ lookD fl ns fs = some (.tup ds) ∧ Ψ ds noP μ1
theorem vi_own {T : List (Addr × Str)} {tg iter : Expr} {fl : Str} {w : WE} (S : ItV X.prog X.w X.K X.mg X.base k C fl) (hG : X.A.guards = some []) (hr : Room k X.A) (h : PE X iter (up X.K T E w)) : PI X tg iter (upI X.K T E (iwO C fl w)) :=
  pi_mono (pi_own S hG hr h) fun σ H R ⟨ρ, μ, ev, Ψ, en, st, xo, h, k⟩ => ⟨ρ, μ, ev, _, en, st, xo, h, fun d μ1 v H1 ⟨ns, fs, ds, hi, hl, q⟩ iv st1 s1 => by
    obtain ⟨a, dx, us, rfl, ha, hn, iu⟩ := is_ins st1 iv hi
    obtain ⟨u, e1, e2⟩ := look_is iu hl
    obtain ⟨r, vs, rfl, at_, ia⟩ := tupOf_is e2 rfl
    refine ⟨a, dx, _, r, vs, rfl, ha, e1, at_.sq, k ds _ μ1 _ H1 q st1 s1 fun μ2 H2 s2 st2 _ i => ⟨fun x hx => ?_, fun hl => ⟨vs, (at_.step s2).sq, by rw [ia.len]; exact hl⟩⟩⟩
    obtain ⟨u, e1, e2⟩ := (ia.step s2).get hx
    exact ⟨⟨vs, u, (at_.step s2).sq, e1⟩, fun y H3 ⟨z1, z2⟩ => by subst z1; have := z2 vs (at_.step s2).sq; rw [e1] at this; cases this; exact ⟨e2, st2, Step.refl _ _⟩⟩⟩
/-! the operators over trees -/
def vEqO (C : Addr) (sp : VSp) (neg : Bool) : V2 := fun x y μ Φ => ∃ ns fs ms gs, insOf μ x = some (C, ns, fs) ∧ insOf μ y = some (C, ms, gs) ∧ sp [x, y] μ ev0 fun d μ1 => ∃ c, d = .bl c ∧ Φ (.bl (if neg then !c else c)) μ1
theorem s_eqO {T : List (Addr × Str)} {sp : VSp} : Sim2 X.K T (rEqO X T C sp) (vEqO C sp false) := fun x y v w μ H Φ Q ix iy st ⟨ns, fs, ms, gs, hx, hy, h⟩ k => by
  obtain ⟨a, dx, us, rfl, ha, _, _⟩ := is_ins st ix hx
  obtain ⟨b, dy, ws, rfl, hb, _, _⟩ := is_ins st iy hy
  refine ⟨a, b, dx, dy, _, _, (x, y), rfl, rfl, ha, hb, μ, ix, iy, st, _, h, fun d μ' v H' ⟨c, e, q⟩ iv st' s' => ?_⟩
  subst e
  cases iv
  exact ⟨c, rfl, k _ _ _ _ q (.bl c) st' s'⟩
theorem s_neO {T : List (Addr × Str)} {sp : VSp} : Sim2 X.K T (rNeO X T C sp) (vEqO C sp true) := fun x y v w μ H Φ Q ix iy st ⟨ns, fs, ms, gs, hx, hy, h⟩ k => by
  obtain ⟨a, dx, us, rfl, ha, _, _⟩ := is_ins st ix hx
  obtain ⟨b, dy, ws, rfl, hb, _, _⟩ := is_ins st iy hy
  refine ⟨a, b, dx, dy, _, _, (x, y), rfl, rfl, ha, hb, μ, ix, iy, st, _, h, fun d μ' v H' ⟨c, e, q⟩ iv st' s' => ?_⟩
  subst e
  cases iv
  exact ⟨c, rfl, c, rfl, k _ _ _ _ q (.bl (!c)) st' s'⟩
/-- from the class's text: return iter(self.fl) -/
theorem fnI_of {P : Program} {w : World} {K : PySem.W.Frag} {mg : Str → Option Value} {base : Heap} {x qual fl : Str} {st : Stmt} {f : Addr} {N : List Str} {p1 p2 p3 p4 p5 : Pos} (F : Fun K x qual st f fd) (S : FnScope N ["self"] (defScope st)) (hB : Binds K fd ["self"] [])
    (hbody : defBody st = [.Return (some (.Call (.Name "iter" p1) [.Attribute (.Name "self" p2) fl p3] [] p4)) p5]) (cl : Cls K C) (na : NoAttr K C fl) (hm : mg "iter" = none) (hN : N[0]? = some ("self" : Str))
    (ok : ∀ cdv A outer s H E, Gl (cxOf CX0 P w K mg base N qual (defScope st) f cdv A outer s H E) "iter" ∧ Vis (defScope st) "self" ∧
      attributeBase (.Name "self" p2) fl (cxOf CX0 P w K mg base N qual (defScope st) f cdv A outer s H E).env (eval (.Name "self" p2) (cxOf CX0 P w K mg base N qual (defScope st) f cdv A outer s H E).env) = eval (.Name "self" p2) (cxOf CX0 P w K mg base N qual (defScope st) f cdv A outer s H E).env) :
    FnI P w K mg base (k + 1) f fd C fl := by
  obtain ⟨oc, od, kV, doc, pm, an, cdv, ct, osl, rfl, lk, hcd⟩ := F.ex
  refine ⟨fun A outer s H u v Q E hG hr e0 kin rv hs => ?_⟩
  have bind := hB s [u] kin rfl
  simp only [List.append_nil] at bind
  refine LamX.run_ofS (us := [u]) (vs := [v]) lk hcd S hr e0 bind (.cons rv .nil) rfl fun hr' => ?_
  obtain ⟨a, dx, fs, r, xs, e, ha, hl, hq, hk⟩ := hs
  obtain ⟨h1, h2, h3⟩ := ok cdv A outer s H E
  rw [hbody]
  refine ⟨_, pss_one (ps_ret (pe_callB call_iterT h1 hm (by first | rfl | decide +kernel) (pa_cons (pe_fld (pe_var hN h2) h3) pa_nil))), ?_⟩
  obtain rfl : v = V.ref a := by cases e; rfl
  refine w_ret (w_cb ⟨V.ref a, by unfold L2.start; rfl, a, C, dx, fs, V.ref r, rfl, ha, cl, na, hl, ?_⟩)
  exact ⟨r, xs, rfl, hq, fun it n y => hk it n y⟩
end
end VL

set_option maxRecDepth 100000
set_option maxHeartbeats 4000000
/-! values as trees: the module's dicts and tuples, isinstance of own classes, len of a set of ints -/
namespace VL
open PySem L2 FW PyProof.Rows
/-! ### dicts of the module, text keys -/
structure KMap (K : PySem.W.Frag) (w : World) (d : Addr) (ps : List (Str × V × D)) : Prop where
  kd : ∃ es n, KDict K w d es n
  hit : ∀ z p, ps.lookup z = some p → ∃ u, PySem.W.nsIn K d z = some (some u) ∧ RelV p.1 u
  miss : ∀ z, ps.lookup z = none → PySem.W.nsIn K d z = some none
  ok : ∀ z p, ps.lookup z = some p → ∀ μ H, Is K μ H p.1 p.2
def onlyB (K : PySem.W.Frag) (a : Addr) (ks : List Str) : Bool := match K.lookup a with
  | some ⟨_, _, .dict es _, _⟩ => es.toList.all fun e => match e.key with
    | .str s _ => ks.contains s
    | _ => false
  | _ => false
theorem onlyB_ok {K : PySem.W.Frag} {a : Addr} {ks : List Str} (h : onlyB K a ks = true) {z : Str} (hz : z ∉ ks) : PySem.W.nsIn K a z = some none := by
  unfold onlyB at h
  unfold PySem.W.nsIn
  split at h
  · rename_i es n sl e
    rw [e]
    dsimp only
    have h1 : es.toList.find? (fun x => x.key.isStr z) = none := by
      rw [List.find?_eq_none]
      intro x hx
      have q := List.all_eq_true.mp h x hx
      cases hk : x.key with
      | str s t =>
        rw [hk] at q
        show ¬ (Value.isStr (.str s t) z) = true
        intro e2
        have e3 : s = z := beq_iff_eq.mp (show (s == z) = true from e2)
        rw [e3] at q
        exact hz (List.contains_iff_mem.mp q)
      | _ => rw [hk] at q; cases q
    have h2 : es.toList.any (·.refKey) = false := by
      rw [List.any_eq_false]
      intro x hx
      have q := List.all_eq_true.mp h x hx
      unfold DictEntry.refKey
      cases hk : x.key with
      | ref _ => rw [hk] at q; cases q
      | _ => simp
    rw [h1]
    simp only [h2, Bool.false_eq_true, if_false]
  · cases h
theorem kmap_of {K : PySem.W.Frag} {w : World} {a : Addr} {ps : List (Str × V × D)} {kvs : List (Str × He.Dv)} (d : ∃ es n, KDict K w a es n) (v : He.valsB K a kvs = true) (o : onlyB K a (kvs.map (·.1)) = true) (e : ps.map (fun p => (p.1, p.2.1)) = kvs.map fun q => (q.1, q.2.v K))
    (ok : ∀ p ∈ ps, ∀ μ H, Is K μ H p.2.1 p.2.2) : KMap K w a ps := by
  have mem : ∀ {ps : List (Str × V × D)} {z p}, ps.lookup z = some p → (z, p) ∈ ps := by
    intro ps
    induction ps with
    | nil => intro z p h; cases h
    | cons q ps ih =>
      intro z p h
      rw [List.lookup_cons] at h
      split at h
      · rename_i e2
        cases h
        have : z = q.1 := beq_iff_eq.mp e2
        rw [this]; exact List.mem_cons_self ..
      · exact List.mem_cons_of_mem _ (ih h)
  refine ⟨d, fun z p h => ?_, fun z h => ?_, fun z p h => ok _ (mem h)⟩
  · have m := mem h
    have m2 : (z, p.1) ∈ kvs.map fun q => (q.1, q.2.v K) := by
      rw [← e]; exact List.mem_map.mpr ⟨_, m, rfl⟩
    obtain ⟨q, hq, eq⟩ := List.mem_map.mp m2
    obtain ⟨e1, e2⟩ := Prod.mk.injEq .. ▸ eq
    have w := He.valsB_ok v hq
    rw [show q.1 = z from e1, show q.2.v K = p.1 from e2] at w
    exact w
  · refine onlyB_ok o fun hz => ?_
    have hk : ps.map (·.1) = kvs.map (·.1) := by
      have := congrArg (List.map (·.1)) e
      simpa [List.map_map, Function.comp_def] using this
    rw [← hk] at hz
    obtain ⟨q, hq, e1⟩ := List.mem_map.mp hz
    have no : ∀ {ps : List (Str × V × D)}, q ∈ ps → ps.lookup q.1 ≠ none := by
      intro ps
      induction ps with
      | nil => intro h; cases h
      | cons r ps ih =>
        intro h
        rw [List.lookup_cons]
        split
        · exact nofun
        · rename_i e2
          rcases List.mem_cons.mp h with h | h
          · subst h; simp at e2
          · exact ih h
    rw [← e1] at h
    exact no hq h
section
variable {X : Cx} {K : PySem.W.Frag} {T : List (Addr × Str)} {E : XK} {d : Addr} {ps : List (Str × V × D)}
def rInK (ps : List (Str × V × D)) (d : Addr) (neg : Bool) : R2 := fun x y H Q => ∃ z, x = .str z ∧ y = .ref d ∧ Q (.bl (if neg then !(ps.lookup z).isSome else (ps.lookup z).isSome)) H
def vInK (ps : List (Str × V × D)) (d : Addr) (neg : Bool) : V2 := fun x y μ Φ => ∃ z, x = .str z ∧ y = .ref d ∧ Φ (.bl (if neg then !(ps.lookup z).isSome else (ps.lookup z).isSome)) μ
theorem KMap.get (M : KMap X.K X.w d ps) (z : Str) : ∃ r, PySem.W.nsIn X.K d z = some r ∧ r.isSome = (ps.lookup z).isSome := by
  cases h : ps.lookup z with
  | none => exact ⟨none, M.miss z h, rfl⟩
  | some p => obtain ⟨u, e, _⟩ := M.hit z p h; exact ⟨_, e, rfl⟩
theorem op_inK (M : KMap X.K X.w d ps) : OpR X (compareOp .In) (rInK ps d false) := by
  obtain ⟨es, n, D⟩ := M.kd
  intro pins s σ H x y v u Q I rx ry ⟨z, e1, e2, q⟩
  obtain ⟨r, e3, e4⟩ := M.get z
  exact op_in_kd D pins s σ H x y v u Q I rx ry ⟨z, r, e1, e2, e3, by rw [e4]; exact q⟩
theorem op_notInK (M : KMap X.K X.w d ps) : OpR X (compareOp .NotIn) (rInK ps d true) := by
  obtain ⟨es, n, D⟩ := M.kd
  intro pins s σ H x y v u Q I rx ry ⟨z, e1, e2, q⟩
  obtain ⟨r, e3, e4⟩ := M.get z
  exact op_notIn_kd D pins s σ H x y v u Q I rx ry ⟨z, r, e1, e2, e3, by rw [e4]; exact q⟩
theorem s_inK {neg : Bool} : Sim2 K T (rInK ps d neg) (vInK ps d neg) := fun x y v w μ H Φ Q ix iy st ⟨z, e1, e2, h⟩ k => by
  subst e1 e2; cases ix; cases iy; exact ⟨z, rfl, rfl, k.now h (.bl _) st⟩
def rIxK (ps : List (Str × V × D)) (d : Addr) : R2 := fun x y H Q => ∃ z p, x = .ref d ∧ y = .str z ∧ ps.lookup z = some p ∧ Q p.1 H
def vIxK (ps : List (Str × V × D)) (d : Addr) : V2 := fun x y μ Φ => ∃ z p, x = .ref d ∧ y = .str z ∧ ps.lookup z = some p ∧ Φ p.2 μ
theorem ix_K (M : KMap X.K X.w d ps) : IxR X (rIxK ps d) := by
  obtain ⟨es, n, D⟩ := M.kd
  intro value slice pins s σ H x y v u Q I rx ry ⟨z, p, e1, e2, e3, q⟩ hs
  obtain ⟨u0, e4, r⟩ := M.hit z p e3
  exact ix_kdict value slice pins s σ H x y v u Q I rx ry ⟨d, z, p.1, e1, e2, ⟨es, n, u0, D.at_, D.lit, e4, r⟩, q⟩ hs
theorem s_ixK {w0 : World} (M : KMap K w0 d ps) : Sim2 K T (rIxK ps d) (vIxK ps d) := fun x y v w μ H Φ Q ix iy st ⟨z, p, e1, e2, e3, h⟩ k => by
  subst e1 e2; cases ix; cases iy; exact ⟨z, p, rfl, rfl, e3, k.now h (M.ok z p e3 μ H) st⟩
/-! ### isinstance, an own class -/
structure InsC (K : PySem.W.Frag) (C : Addr) : Prop where
  cl : Cls K C
  ha : PySem.W.findIn K (.ref C) "__class__" = some (some (.builtin "object.__class__"))
  hn : PySem.W.specialIn K (.builtin "object.__class__") "__get__" = some (some (.builtin "getset_descriptor.__get__"))
  ht : PySem.W.takesIn K (.builtin "object.__class__") = some true
  hm : PySem.W.mroIn K C (.type "object") = some true
def insB (K : PySem.W.Frag) (C : Addr) : Bool := decide (PySem.W.findIn K (.ref C) "__class__" = some (some (.builtin "object.__class__"))) && (decide (PySem.W.specialIn K (.builtin "object.__class__") "__get__" = some (some (.builtin "getset_descriptor.__get__"))) &&
  (decide (PySem.W.takesIn K (.builtin "object.__class__") = some true) && decide (PySem.W.mroIn K C (.type "object") = some true)))
theorem insB_ok {C : Addr} (h : insB K C = true) (cl : Cls K C) : InsC K C := by
  unfold insB at h
  simp only [Bool.and_eq_true, decide_eq_true_eq] at h
  obtain ⟨h1, h2, h3, h4⟩ := h
  exact ⟨cl, h1, h2, h3, h4⟩
def tyO (K : PySem.W.Frag) (μ : Mu) (x : D) (t : Value) : Prop := (∃ n, tyD μ x = some n ∧ t = .type n) ∨ ∃ C ns fs, insOf μ x = some (C, ns, fs) ∧ InsC K C ∧ t = .ref C
theorem tyO_is {μ : Mu} {H : Hp} {v : V} {x : D} {t : Value} (st : Sto K T μ H) (h : Is K μ H v x) (e : tyO K μ x t) : TyX K H v t := by
  rcases e with ⟨n, e, rfl⟩ | ⟨C, ns, fs, e, i, rfl⟩
  · exact tyX_is st h e
  · obtain ⟨a, dx, us, rfl, ha, _, _⟩ := is_ins st h e
    exact .base (.ins ha i.cl i.ha i.hn i.ht i.hm)
def vIsiO (K : PySem.W.Frag) : VL_ := fun xs μ Φ => ∃ x C t b, xs = [x, .ref C] ∧ tyO K μ x t ∧ PySem.W.kitOne K t (.ref C) = some b ∧ Φ (.bl b) μ
theorem s_isiO : SimL K T (rIsi K) (vIsiO K) := fun xs vs μ H Φ Q ia st ⟨x, C, t, b, e, ht, kb, q⟩ k => by
  subst e
  cases ia with
  | cons ix c => cases c with
    | cons iy c =>
      cases iy; cases c
      exact ⟨_, _, _, _, b, rfl, .own C, tyO_is st ix ht, kb, k.now q (.bl b) st⟩
/-! ### len(set(ns)) -/
def manyOf (ns : List Int) : Nat := (PyProof.Rows.firstMet (fun i => ns.getD i 0) ns.length).length
def tLenSetI (K : PySem.W.Frag) (ta : TE) : TE := fun σ H Q => ta σ H fun x H1 => ∃ (l : Addr) (ns : List Int), x = .ref l ∧ SqL K H1 l (ns.map V.int) ∧ ns.length ≤ 1000 ∧ Q (.int (manyOf ns)) H1
theorem pe_lenSetI {a : Expr} {ta : TE} {p p2 q pos : Pos} (hc : X.calm = true) (hg : Gl X "len") (hm : X.mg "len" = none) (hg2 : Gl X "set") (hm2 : X.mg "set" = none) (ha : PE X a ta)
    (na : starEach [a] X.env = (false, eval a X.env) :: starEach [] X.env := by rfl) : PE X (.Call (.Name "len" p) [.Call (.Name "set" p2) [a] [] q] [] pos) (tLenSetI X.K ta) := by
  refine ⟨fun pins s σ H Q I h => ?_⟩
  refine Call_ (ld_blt I hg hm boot_len ?_)
  refine PyProof.Rows.callWith_builtin1 (PyProof.Rows.args_cons ?_ rfl) rfl rfl
  refine Call_ (ld_blt I hg2 hm2 boot_set ?_)
  refine PyProof.Rows.callWith_type1 (PyProof.Rows.args_cons (thn (ha.run pins s σ H _ I h) fun v s1 ⟨x, H1, I1, r1, q1⟩ => PyProof.Rows.args_nil ?_) na) na rfl
  obtain ⟨l, ns, rfl, hq, h1, q1⟩ := q1
  cases r1
  obtain ⟨its, r, pl, hz⟩ := I1.list hq
  have hi : PyProof.Rows.IntsAre its.toArray.toList ns := ints_of_vals r
  have hl : its.toArray.size = ns.length := by rw [List.size_toArray, ← r.length, List.length_map]
  refine PySem.call_set_list (I1.ok.hd hc) pl.isList hi (by rw [hl]; unfold scanBound; omega) fun h' tk hS hk => ?_
  refine PyProof.Rows.args_nil ?_
  rw [hl] at hS
  obtain ⟨o, es, ep, t, ho, hex, hd, _, _, hb, hf, hn⟩ := hS
  have I2 : Inv X pins σ H1 { s1 with heap := h', toks := tk } := I1.kept fun b o e => hk b o (Heap.lt_size e) e
  refine call_len_set ho hex hd hf ?_ ⟨.int (manyOf ns), H1, I2.tok _, ⟨_, by rw [hn]; rfl⟩, q1⟩
  unfold scanBound at hb
  omega
def wLenSet (w : WE) : WE := fun ρ μ ev Φ => w ρ μ ev fun x μ1 => ∃ ns : List Int, (fzL x = some (ns.map .int) ∨ lstOf μ1 x = some (ns.map .int)) ∧ ns.length ≤ 1000 ∧ Φ (.int (manyOf ns)) μ1
theorem ve_lenSet {a : Expr} {w : WE} {p p2 q pos : Pos} (hc : X.calm = true) (hg : Gl X "len") (hm : X.mg "len" = none) (hg2 : Gl X "set") (hm2 : X.mg "set" = none) (ha : PE X a (up X.K T E w))
    (na : starEach [a] X.env = (false, eval a X.env) :: starEach [] X.env := by rfl) : PE X (.Call (.Name "len" p) [.Call (.Name "set" p2) [a] [] q] [] pos) (up X.K T E (wLenSet w)) :=
  pe_mono (pe_lenSetI hc hg hm hg2 hm2 ha na) fun σ H Q ⟨ρ, μ, ev, Φ, en, st, xo, h, k⟩ => ⟨ρ, μ, ev, _, en, st, xo, h, fun x μ1 v H1 ⟨ns, e, hl, hx⟩ ix st1 s1 => by
    obtain ⟨a, us, rfl, sq, i⟩ := sqL_of st1 ix e
    rw [vs_ints i] at sq
    exact ⟨a, ns, rfl, sq, hl, (k.step s1).now hx (.int _) st1⟩⟩
end
end VL

set_option maxRecDepth 100000
set_option maxHeartbeats 4000000
/-! values as trees: defs of the text, however they are called; what is never reached -/
namespace VL
open PySem L2 FW PyProof.Rows
section
variable {X : Cx} {T : List (Addr × Str)} {E : XK}
theorem vs_never {st : Stmt} : PS X st (upS X.K T E fun _ _ _ _ => False) := ⟨fun _ _ _ _ _ _ ⟨_, _, _, _, _, _, _, h, _⟩ => h.elim⟩
theorem vss_never {st : List Stmt} : PSs X st (upS X.K T E fun _ _ _ _ => False) := ⟨fun _ _ _ _ _ _ ⟨_, _, _, _, _, _, _, h, _⟩ => h.elim⟩
theorem ve_never {e : Expr} : PE X e (up X.K T E fun _ _ _ _ => False) := ⟨fun _ _ _ _ _ _ ⟨_, _, _, _, _, _, _, h, _⟩ => h.elim⟩
theorem vt_never {e : Expr} : PT X e (upT X.K T E fun _ _ _ _ => False) := ⟨fun _ _ _ _ _ _ ⟨_, _, _, _, _, _, _, h, _⟩ => h.elim⟩
end
section
variable {P : Program} {w : World} {K : PySem.W.Frag} {mg : Str → Option Value} {base : Heap} {CX : CXT} {T : List (Addr × Str)}
theorem fun_okD {x qual : Str} {st : Stmt} {dvs : List V} {f : Addr} {fd : FuncData} {N ps : List Str} {k : Nat} {sp : VSp} (F : FunD K x qual (defArgs st) (defBody st) (defScope st) dvs [] f fd) (S : FnScope N ps (defScope st)) (size : ∀ ds μ ev Φ, sp ds μ ev Φ → ds.length = ps.length)
    (walk : ∀ (cdv : Value) (A : Around) (outer : List PySem.Env) (s : Shared) (H : Hp) (E : XK), (A.deeper (envOfC qual (defScope st) s.heap.objs.size f cdv)).guards = some [] → Room k (A.deeper (envOfC qual (defScope st) s.heap.objs.size f cdv)) →
      ∃ t, PSs (cxOf CX P w K mg base N qual (defScope st) f cdv A outer s H E) (defBody st) (upS K T E t) ∧ ∀ ds μ ev Φ, sp ds μ ev Φ → t { nx := fun _ μ' => Φ .non μ', rt := Φ } (vstart N ds) μ ev) : FnG P w K mg base CX (k + 1) f fd ps (lift K T sp) := by
  obtain ⟨oc, od, dV, kV, doc, pm, an, cdv, ct, osl, rfl, lk, hcd, _, _⟩ := F.ex
  refine ⟨fun vs H Q E ⟨ds, μ, ev, Φ, ia, _, _, h, _⟩ => by rw [ia.len]; exact size _ _ _ _ h, fun A outer s H args us vs Q E hG hr e0 hb hv hs => ?_⟩
  obtain ⟨ds, μ, ev, Φ, ia, st', xo, h, k'⟩ := hs
  refine LamX.run_ofS lk hcd S hr e0 hb hv (by rw [ia.len]; exact size _ _ _ _ h) fun hr' => ?_
  obtain ⟨t, ht, hq⟩ := walk cdv A outer s H E (guards_in hG) hr'
  refine ⟨_, ht, vstart N ds, μ, ev, _, env_start ia, st', xo, hq ds μ ev Φ h, fun ρ' μ' σ' H' q en st2 s2 => ?_, k', fun _ _ _ _ z => z.elim, fun _ _ _ _ z => z.elim⟩
  exact k' .non μ' .non H' q .non st2 s2
/-- where a parameter's value comes from: the i-th written one, the j-th default -/
def toArg (dvs : List V) (dds : List D) : Nat ⊕ Nat → Arg
  | .inl i => .pos i
  | .inr j => .dflt (dvs.getD j .non) (dds.getD j .non)
def pickU (all its : List Value) : Nat ⊕ Nat → Value
  | .inl i => all.getD i .none
  | .inr j => its.getD j .none
theorem vals_getD : ∀ {vs : List V} {us : List Value} (i : Nat), Vals vs us → RelV (vs.getD i .non) (us.getD i .none)
  | [], [], _, .nil => by simp; rfl
  | _ :: _, _ :: _, 0, .cons r _ => r
  | _ :: _, _ :: _, i + 1, .cons _ rs => vals_getD i rs
theorem vals_pick {vs zs dvs : List V} {us ws its : List Value} {dds : List D} (r : Vals vs us) (rz : Vals zs ws) (rd : Vals dvs its) : ∀ bs : List (Nat ⊕ Nat), Vals (argsV (bs.map (toArg dvs dds)) vs zs) (bs.map (pickU (us ++ ws) its))
  | [] => .nil
  | .inl i :: bs => .cons (vals_getD i (r.append rz)) (vals_pick r rz rd bs)
  | .inr j :: bs => .cons (vals_getD j rd) (vals_pick r rz rd bs)
/-- a def without defaults -/
theorem canV_of {x qual : Str} {st : Stmt} {f : Addr} {ps ks : List Str} {k n : Nat} {sp : VSp} (bs : List (Nat ⊕ Nat)) (F : ∃ fd, FunD K x qual (defArgs st) (defBody st) (defScope st) [] [] f fd) (ok : ∀ fd, FunD K x qual (defArgs st) (defBody st) (defScope st) [] [] f fd → FnG P w K mg base CX k f fd ps (lift K T sp))
    (hb : ∀ (kV doc pm : Value) (an : Option Addr) (cdv ct : Value) (us ws : List Value), us.length = n → ws.length = ks.length → bindArgs (PySem.W.fnOf x qual (defArgs st) (defBody st) (defScope st) .none kV doc pm an cdv ct) ⟨us, ks.zip ws⟩ = pure (ps.zip (bs.map (pickU (us ++ ws) []))))
    (hbs : bs.all (fun b => match b with | .inl i => decide (i < n + ks.length) | .inr _ => false) = true) : CanV P w K mg base CX T k f n ks (bs.map (toArg [] [])) sp := by
  obtain ⟨fd, F⟩ := F
  have G := ok fd F
  obtain ⟨oc, od, dV, kV, doc, pm, an, cdv, ct, osl, rfl, lk, hcd, hD, _⟩ := F.ex
  rcases hD with ⟨_, rfl⟩ | ⟨e, _⟩
  · refine ⟨⟨_, ps, fun us ws => bs.map (pickU (us ++ ws) []), G, F.kp, fun s us ws X l1 l2 => ?_, fun r rz => vals_pick r rz .nil bs⟩, fun a ha => ?_⟩
    · exact BindsTo.of_looks fun M => .of_pure (hb kV doc pm an cdv ct us ws l1 l2)
    · obtain ⟨b, hm, rfl⟩ := List.mem_map.mp ha
      have q := List.all_eq_true.mp hbs b hm
      cases b with
      | inl i => exact (of_decide_eq_true (p := i < n + ks.length) q)
      | inr j => cases q
  · exact absurd rfl e
/-- a def with defaults -/
theorem canV_dfl {x qual : Str} {st : Stmt} {f : Addr} {ps ks : List Str} {k n : Nat} {sp : VSp} {dvs : List V} (dds : List D) (bs : List (Nat ⊕ Nat)) (F : ∃ fd, FunD K x qual (defArgs st) (defBody st) (defScope st) dvs [] f fd) (ok : ∀ fd, FunD K x qual (defArgs st) (defBody st) (defScope st) dvs [] f fd → FnG P w K mg base CX k f fd ps (lift K T sp)) (hd : dvs ≠ [])
    (hv : ∀ j, ∀ μ H, Is K μ H (dvs.getD j .non) (dds.getD j .non))
    (hb : ∀ (T : Addr) (kV doc pm : Value) (an : Option Addr) (cdv ct : Value) (us its ws : List Value), us.length = n → its.length = dvs.length → ws.length = ks.length →
      ∃ k, bindArgs (PySem.W.fnOf x qual (defArgs st) (defBody st) (defScope st) (.ref T) kV doc pm an cdv ct) ⟨us, ks.zip ws⟩ = seqItems? (.ref T) >>= k ∧ k (some its.toArray) = pure (ps.zip (bs.map (pickU (us ++ ws) its))))
    (hbs : bs.all (fun b => match b with | .inl i => decide (i < n + ks.length) | .inr _ => true) = true) : CanV P w K mg base CX T k f n ks (bs.map (toArg dvs dds)) sp := by
  obtain ⟨fd, F⟩ := F
  have G := ok fd F
  obtain ⟨oc, od, dV, kV, doc, pm, an, cdv, ct, osl, rfl, lk, hcd, hD, _⟩ := F.ex
  rcases hD with ⟨e, _⟩ | ⟨_, T, o, its, m, rfl, lT, oT, rT⟩
  · exact absurd e hd
  · refine ⟨⟨_, ps, fun us ws => bs.map (pickU (us ++ ws) its), G, F.kp, fun s us ws X l1 l2 => ?_, fun r rz => vals_pick r rz rT bs⟩, fun a ha => ?_⟩
    · obtain ⟨k, e1, e2⟩ := hb T kV doc pm an cdv ct us its ws l1 rT.length.symm l2
      refine BindsTo.of_looks fun M => ?_
      rw [e1]
      exact looks_items X lT oT (.of_pure e2)
    · obtain ⟨b, hm, rfl⟩ := List.mem_map.mp ha
      have q := List.all_eq_true.mp hbs b hm
      cases b with
      | inl i => exact (of_decide_eq_true (p := i < n + ks.length) q)
      | inr j => exact hv j
end
end VL

set_option maxRecDepth 100000
set_option maxHeartbeats 4000000
/-! values as trees: truth of what stands there; footprints -/
namespace VL
open PySem L2 FW PyProof.Rows
def truD (μ : Mu) : D → Option Bool
  | .bl b => some b
  | x => (seqOf μ x).map fun ds => !ds.isEmpty
def wTru (w : WE) : WT := fun ρ μ ev Φ => w ρ μ ev fun x μ1 => ∃ k, truD μ1 x = some k ∧ Φ k μ1
section
variable {X : Cx} {T : List (Addr × Str)} {E : XK} {e : Expr} {w : WE}
theorem tru_is {K : PySem.W.Frag} {μ : Mu} {H : Hp} {v : V} {x : D} {k : Bool} (st : Sto K T μ H) (h : Is K μ H v x) (e : truD μ x = some k) : TruV K v H k := by
  have other : (seqOf μ x).map (fun ds => !ds.isEmpty) = some k → TruV K v H k := fun e => by
    cases q : seqOf μ x with
    | none => rw [q] at e; cases e
    | some ds =>
      rw [q] at e
      cases e
      obtain ⟨a, vs, rfl, sq, i⟩ := is_seq st h q
      have hl : (!ds.isEmpty) = !vs.isEmpty := by
        have := i.len
        cases vs <;> cases ds <;> first | rfl | simp at this
      show TruV K (V.ref a) H (!ds.isEmpty)
      rw [hl]
      rcases sq with sq | sq
      · exact .inl ⟨vs, sq, rfl⟩
      · exact .inr (.inl ⟨vs, sq, rfl⟩)
  cases h with
  | bl b => cases e; exact rfl
  | _ => exact other e
theorem vt_tru (h : PE X e (up X.K T E w)) (he : ∀ whole, isTrue e X.env whole = (do let v ← whole; standAt e.pos; holding [v] (truthy v)) := by intro _; rfl) : PT X e (upT X.K T E (wTru w)) :=
  pt_mono (pt_truth h he) fun σ H Q ⟨ρ, μ, ev, Φ, en, st, xo, h, k⟩ => ⟨ρ, μ, ev, _, en, st, xo, h, fun x μ1 v H1 ⟨c, e, q⟩ ix st1 s1 => ⟨c, tru_is st1 ix e, k c μ1 H1 q st1 s1⟩⟩
end
/-! ### footprints -/
/-- what is not in F stays as it is -/
def Kp (F : List Addr) (μ μ' : Mu) : Prop := ∀ a, a ∉ F → μ a ≠ none → μ' a = μ a
/-- F' has nothing of what stood there but F -/
def Nw (F F' : List Addr) (μ : Mu) : Prop := ∀ a, a ∈ F' → a ∈ F ∨ μ a = none
theorem Kp.refl {F : List Addr} {μ : Mu} : Kp F μ μ := fun _ _ _ => rfl
theorem Nw.refl {F : List Addr} {μ : Mu} : Nw F F μ := fun _ h => .inl h
theorem Kp.trans {F F' : List Addr} {μ μ1 μ2 : Mu} (k : Kp F μ μ1) (n : Nw F F' μ) (k2 : Kp F' μ1 μ2) : Kp F μ μ2 := fun a h e => by
  have e1 := k a h e
  rw [k2 a (fun z => (n a z).elim h e) (by rw [e1]; exact e), e1]
theorem Nw.trans {F F1 F2 : List Addr} {μ μ1 : Mu} (n : Nw F F1 μ) (k : Kp F μ μ1) (n2 : Nw F1 F2 μ1) : Nw F F2 μ := fun a h => by
  by_cases hF : a ∈ F
  · exact .inl hF
  · rcases n2 a h with z | z
    · exact n a z
    · by_cases hm : μ a = none
      · exact .inr hm
      · rw [k a hF hm] at z; exact .inr z
theorem Kp.set {F : List Addr} {μ : Mu} {a : Addr} {m : MO} (h : a ∈ F) : Kp F μ (μ.set a m) := fun b hb _ => Mu.ne fun z => hb (z ▸ h)
theorem Kp.new {F : List Addr} {μ : Mu} {a : Addr} {m : MO} (h : μ a = none) : Kp F μ (μ.set a m) := fun b _ hm => Mu.ne fun z => hm (z ▸ h)
theorem Kp.del {F : List Addr} {μ : Mu} {a : Addr} (h : a ∈ F) : Kp F μ (μ.del a) := fun b hb _ => Mu.dne fun z => hb (z ▸ h)
theorem Kp.sub {F G : List Addr} {μ μ' : Mu} (k : Kp F μ μ') (h : ∀ a ∈ F, a ∈ G) : Kp G μ μ' := fun a ha hm => k a (fun z => ha (h a z)) hm
/-- two footprints that share nothing, and stand -/
def Ap (F G : List Addr) : Prop := ∀ a, a ∈ F → a ∉ G
def Hs (F : List Addr) (μ : Mu) : Prop := ∀ a, a ∈ F → μ a ≠ none
theorem Ap.symm {F G : List Addr} (h : Ap F G) : Ap G F := fun a h1 h2 => h a h2 h1
theorem Ap.step {F F' G : List Addr} {μ : Mu} (h : Ap F G) (hs : Hs G μ) (n : Nw F F' μ) : Ap F' G := fun a h1 h2 => (n a h1).elim (fun z => h a z h2) (hs a h2)
theorem Hs.step {F G : List Addr} {μ μ' : Mu} (hs : Hs G μ) (ap : Ap F G) (k : Kp F μ μ') : Hs G μ' := fun a h => by rw [k a (fun z => ap a z h) (hs a h)]; exact hs a h
theorem Kp.same {F G : List Addr} {μ μ' : Mu} (k : Kp F μ μ') (ap : Ap F G) (hs : Hs G μ) : ∀ a ∈ G, μ' a = μ a := fun a h => k a (fun z => ap a z h) (hs a h)
theorem Mu.set_comm {μ : Mu} {a b : Addr} {m n : MO} (h : a ≠ b) : (μ.set a m).set b n = (μ.set b n).set a m := by
  funext c; unfold Mu.set
  by_cases h1 : c = a <;> by_cases h2 : c = b <;> simp [h1, h2, h, Ne.symm h]
end VL

set_option maxRecDepth 100000
set_option maxHeartbeats 4000000
/-! values as trees: what readings come to, leaf by leaf -/
namespace VL
open PySem L2 FW PyProof.Rows
section
variable {μ : Mu} {Φ : WK} {x y : D} {ds es : List D}
theorem seqOf_lst : seqOf μ (.lst ds) = some ds := rfl
theorem seqOf_tup : seqOf μ (.tup ds) = some ds := rfl
theorem lstOf_lst : lstOf μ (.lst ds) = some ds := rfl
theorem tupOf_tup : tupOf (.tup ds) = some ds := rfl
theorem fzL_lst : fzL (.lst ds) = some ds := rfl
theorem ty_mem {t : String} (h : tyD μ x = some t) : t = "NoneType" ∨ t = "bool" ∨ t = "int" ∨ t = "str" ∨ t = "list" ∨ t = "tuple" ∨ t = "dict" := by
  cases x <;> simp [tyD] at h <;> first | (subst h; simp) | skip
  split at h <;> simp at h <;> subst h <;> simp
def Kd (μ : Mu) (x : D) : Prop := ∃ t, tyD μ x = some t
def isLst (μ : Mu) (x : D) : Bool := tyD μ x == some "list" || tyD μ x == some "tuple"
def isTy (μ : Mu) (x : D) (n : String) : Bool := tyD μ x == some n
theorem l_isi (n : String) (hk : Kd μ x) (hn : n = "str" ∨ n = "bool" := by first | exact .inl rfl | exact .inr rfl) (q : Φ (.bl (isTy μ x n)) μ) : vIsi [x, .ty n] μ Φ := by
  obtain ⟨t, ht⟩ := hk
  refine ⟨x, n, t, isTy μ x n, rfl, ht, ?_, q⟩
  unfold isTy; rw [ht]
  rcases hn with rfl | rfl <;> rcases ty_mem ht with rfl | rfl | rfl | rfl | rfl | rfl | rfl <;> decide +kernel
theorem l_isiInt (hk : Kd μ x) (q : Φ (.bl (isTy μ x "int" || isTy μ x "bool")) μ) : vIsi [x, .ty "int"] μ Φ := by
  obtain ⟨t, ht⟩ := hk
  refine ⟨x, "int", t, _, rfl, ht, ?_, q⟩
  unfold isTy; rw [ht]
  rcases ty_mem ht with rfl | rfl | rfl | rfl | rfl | rfl | rfl <;> decide +kernel
theorem l_isiSeq (hk : Kd μ x) (q : Φ (.bl (isLst μ x)) μ) : vIsiT [x, .tup [.ty "list", .ty "tuple"]] μ Φ := by
  obtain ⟨t, ht⟩ := hk
  refine ⟨x, ["list", "tuple"], t, isLst μ x, rfl, ht, ?_, q⟩
  unfold isLst; rw [ht]
  rcases ty_mem ht with rfl | rfl | rfl | rfl | rfl | rfl | rfl <;> decide +kernel
theorem l_len {n : Nat} (h : lenOf μ x = some n) (q : Φ (.int (n : Nat)) μ) : vLen [x] μ Φ := ⟨x, n, rfl, h, q⟩
theorem l_ix {k : Int} {d : D} (h : seqOf μ x = some ds) (e : atI ds k = some d) (q : Φ d μ) : vIx x (.int k) μ Φ := ⟨ds, k, d, h, rfl, e, q⟩
theorem l_eq {b neg : Bool} (h : eqD μ x y = some b) (q : Φ (.bl (if neg then !b else b)) μ) : vEq neg x y μ Φ := ⟨b, h, q⟩
theorem l_in {neg : Bool} (h : seqOf μ y = some ds) (hx : flatD x = true) (hd : ds.all flatD = true) (q : Φ (.bl (if neg then !inD x ds else inD x ds)) μ) : vIn neg x y μ Φ := ⟨ds, h, hx, hd, q⟩
end
/-! ### leaves, as equations -/
section
variable {μ : Mu} {Φ : WK} {x y : D} {ds es : List D} {neg : Bool}
theorem vLen_iff {n : Nat} (h : lenOf μ x = some n) : vLen [x] μ Φ ↔ Φ (.int (n : Nat)) μ :=
  ⟨fun ⟨z, m, e, h2, q⟩ => by cases e; rw [h] at h2; cases h2; exact q, fun q => ⟨x, n, rfl, h, q⟩⟩
theorem vLen_lst : vLen [.lst ds] μ Φ ↔ Φ (.int (ds.length : Nat)) μ := vLen_iff rfl
theorem vLen_tup : vLen [.tup ds] μ Φ ↔ Φ (.int (ds.length : Nat)) μ := vLen_iff rfl
theorem vEq_iff {b : Bool} (h : eqD μ x y = some b) : vEq neg x y μ Φ ↔ Φ (.bl (if neg = true then !b else b)) μ :=
  ⟨fun ⟨z, e, q⟩ => by rw [h] at e; cases e; exact q, fun q => ⟨b, h, q⟩⟩
theorem vEq_ii {i j : Int} : vEq neg (.int i) (.int j) μ Φ ↔ Φ (.bl (if neg = true then !decide (i = j) else decide (i = j))) μ := vEq_iff rfl
theorem vEq_ss {i j : Str} : vEq neg (.str i) (.str j) μ Φ ↔ Φ (.bl (if neg = true then !decide (i = j) else decide (i = j))) μ := vEq_iff rfl
theorem vEq_bb {i j : Bool} : vEq neg (.bl i) (.bl j) μ Φ ↔ Φ (.bl (if neg = true then !decide (i = j) else decide (i = j))) μ := vEq_iff rfl
theorem vIx_iff {k : Int} (h : seqOf μ x = some ds) : vIx x (.int k) μ Φ ↔ ∃ d, atI ds k = some d ∧ Φ d μ :=
  ⟨fun ⟨es, k, d, h1, h2, h3, q⟩ => by rw [h] at h1; cases h1; cases h2; exact ⟨d, h3, q⟩, fun ⟨d, h3, q⟩ => ⟨ds, k, d, h, rfl, h3, q⟩⟩
theorem vIx_lst {k : Int} : vIx (.lst ds) (.int k) μ Φ ↔ ∃ d, atI ds k = some d ∧ Φ d μ := vIx_iff rfl
theorem vIx_tup {k : Int} : vIx (.tup ds) (.int k) μ Φ ↔ ∃ d, atI ds k = some d ∧ Φ d μ := vIx_iff rfl
theorem vIn_iff (h : seqOf μ y = some ds) (hx : flatD x = true) (hd : ds.all flatD = true) : vIn neg x y μ Φ ↔ Φ (.bl (if neg = true then !inD x ds else inD x ds)) μ :=
  ⟨fun ⟨es, h1, _, _, q⟩ => by rw [h] at h1; cases h1; exact q, fun q => ⟨ds, h, hx, hd, q⟩⟩
theorem inD_strs (w : Str) : ∀ ws : List Str, inD (.str w) (ws.map D.str) = ws.contains w
  | [] => rfl
  | z :: ws => by
    have ih := inD_strs w ws
    unfold inD at ih ⊢
    rw [List.map_cons, List.any_cons, ih, List.contains_cons]
    congr 1
    show (z == w) = (w == z)
    by_cases e : z = w
    · rw [e]
    · rw [beq_eq_false_iff_ne.mpr e, beq_eq_false_iff_ne.mpr (Ne.symm e)]
theorem flat_strs (ws : List Str) : (ws.map D.str).all flatD = true := List.all_eq_true.mpr fun x hx => by obtain ⟨z, _, rfl⟩ := List.mem_map.mp hx; rfl
theorem vIn_strs {w : Str} {ws : List Str} : vIn neg (.str w) (.tup (ws.map D.str)) μ Φ ↔ Φ (.bl (if neg = true then !ws.contains w else ws.contains w)) μ := by
  rw [← inD_strs]; exact vIn_iff rfl rfl (flat_strs ws)
theorem vIn_s2 {w a b : Str} : vIn neg (.str w) (.tup [.str a, .str b]) μ Φ ↔ Φ (.bl (if neg = true then !(w == a || w == b) else (w == a || w == b))) μ := by
  have h := vIn_strs (neg := neg) (w := w) (ws := [a, b]) (μ := μ) (Φ := Φ)
  have e : List.contains [a, b] w = (w == a || w == b) := by simp only [List.contains_cons, List.contains_nil, Bool.or_false]
  rw [e] at h; exact h
theorem vIn_s3 {w a b c : Str} : vIn neg (.str w) (.tup [.str a, .str b, .str c]) μ Φ ↔ Φ (.bl (if neg = true then !(w == a || (w == b || w == c)) else (w == a || (w == b || w == c)))) μ := by
  have h := vIn_strs (neg := neg) (w := w) (ws := [a, b, c]) (μ := μ) (Φ := Φ)
  have e : List.contains [a, b, c] w = (w == a || (w == b || w == c)) := by simp only [List.contains_cons, List.contains_nil, Bool.or_false]
  rw [e] at h; exact h
theorem vAll_map {an : Bool} {f : D → Bool} : vAll an [.lst (ds.map fun r => .bl (f r))] μ Φ ↔ Φ (.bl (if an = true then ds.any f else ds.all f)) μ := by
  have e0 : (ds.map fun r => D.bl (f r)) = (ds.map f).map D.bl := by rw [List.map_map]; rfl
  have e1 : (if an = true then (ds.map f).any id else (ds.map f).all id) = (if an = true then ds.any f else ds.all f) := by cases an <;> simp [List.any_map, List.all_map, Function.comp_def]
  constructor
  · rintro ⟨x, bs, e, h, q⟩
    cases e
    have e2 : ds.map f = bs := by
      have h2 : (ds.map f).map D.bl = bs.map D.bl := by
        rcases h with h | h
        · rw [← e0]; exact Option.some.inj h
        · rw [← e0]; exact Option.some.inj h
      have inj : ∀ {xs ys : List Bool}, xs.map D.bl = ys.map D.bl → xs = ys := by
        intro xs
        induction xs with
        | nil => intro ys h; cases ys with | nil => rfl | cons _ _ => cases h
        | cons x xs ih => intro ys h; cases ys with
          | nil => cases h
          | cons y ys =>
            simp only [List.map_cons, List.cons.injEq, D.bl.injEq] at h
            rw [h.1, ih h.2]
      exact inj h2
    rw [← e2, e1] at q
    exact q
  · intro q
    exact ⟨_, ds.map f, rfl, .inl (by rw [← e0]; rfl), by rw [e1]; exact q⟩
theorem vInK_s {ps : List (Str × V × D)} {d : Addr} {z : Str} : vInK ps d neg (.str z) (.ref d) μ Φ ↔ Φ (.bl (if neg = true then !(ps.lookup z).isSome else (ps.lookup z).isSome)) μ :=
  ⟨fun ⟨y, e, _, q⟩ => by cases e; exact q, fun q => ⟨z, rfl, rfl, q⟩⟩
theorem vIxK_s {ps : List (Str × V × D)} {d : Addr} {z : Str} : vIxK ps d (.ref d) (.str z) μ Φ ↔ ∃ p, ps.lookup z = some p ∧ Φ p.2 μ :=
  ⟨fun ⟨y, p, _, e, h, q⟩ => by cases e; exact ⟨p, h, q⟩, fun ⟨p, h, q⟩ => ⟨z, p, rfl, rfl, h, q⟩⟩
theorem vInt_i {i : Int} : vInt1 [.int i] μ Φ ↔ Φ (.int i) μ := Iff.rfl
theorem vAbs_i {i : Int} : vAbs [.int i] μ Φ ↔ Φ (.int (if i < 0 then -i else i)) μ := ⟨fun ⟨j, e, q⟩ => by cases e; exact q, fun q => ⟨i, rfl, q⟩⟩
theorem vSet_iff {a : Addr} {k : Int} {d : D} {Ψ : Mu → Prop} (h : μ a = some (.lst ds)) : vSetL (.ref a) (.int k) d μ Ψ ↔ ∃ j, ixN ds.length k = some j ∧ Ψ (μ.set a (.lst (ds.set j d))) :=
  ⟨fun ⟨b, es, k2, j, e1, e2, h1, h2, q⟩ => by cases e1; cases e2; rw [h] at h1; cases h1; exact ⟨j, h2, q⟩, fun ⟨j, h2, q⟩ => ⟨a, ds, k, j, rfl, rfl, h, h2, q⟩⟩
theorem vApp_iff {a : Addr} {d : D} (h : μ a = some (.lst ds)) : vAppend (.ref a) [d] μ Φ ↔ ds.length < sizeLine ∧ Φ .non (μ.set a (.lst (ds ++ [d]))) :=
  ⟨fun ⟨b, es, d2, e1, e2, h1, h2, q⟩ => by cases e1; cases e2; rw [h] at h1; cases h1; exact ⟨h2, q⟩, fun ⟨h2, q⟩ => ⟨a, ds, d, rfl, rfl, h, h2, q⟩⟩
theorem vPop_iff {a : Addr} (h : μ a = some (.lst ds)) : vPop (.ref a) [] μ Φ ↔ ∃ d, ds[ds.length - 1]? = some d ∧ Φ d (μ.set a (.lst ds.dropLast)) :=
  ⟨fun ⟨b, es, d2, e1, e2, h1, h2, q⟩ => by cases e1; rw [h] at h1; cases h1; exact ⟨d2, h2, q⟩, fun ⟨d, h2, q⟩ => ⟨a, ds, d, rfl, rfl, h, h2, q⟩⟩
theorem set_none {a b : Addr} {m : MO} (h : (μ.set a m) b = none) : b ≠ a ∧ μ b = none := by
  by_cases e : b = a
  · rw [e, Mu.same] at h; cases h
  · rw [Mu.ne e] at h; exact ⟨e, h⟩
theorem vRepM_iff {n : Int} (h : lstOf μ x = some ds) (h1 : -(2 ^ 63) ≤ n) (h2 : n < 2 ^ 63) (h3 : ds.length * n.toNat ≤ sizeLine) : vRepM x (.int n) μ Φ ↔ ∀ p, μ p = none → Φ (.ref p) (μ.set p (.lst (List.replicate n.toNat ds).flatten)) :=
  ⟨fun ⟨es, k, e1, e2, _, _, _, q⟩ => by rw [h] at e1; cases e1; cases e2; exact q, fun q => ⟨ds, n, h, rfl, h1, h2, h3, q⟩⟩
theorem vListM_iff (h : seqOf μ x = some ds) : vListOfM [x] μ Φ ↔ ∀ p, μ p = none → Φ (.ref p) (μ.set p (.lst ds)) :=
  ⟨fun ⟨y, es, e, h1, q⟩ => by cases e; rw [h] at h1; cases h1; exact q, fun q => ⟨x, ds, rfl, h, q⟩⟩
theorem ixN_nat {m n : Nat} (h : n < m) : ixN m (n : Int) = some n := by
  unfold ixN
  rw [if_pos (by omega), if_pos (by omega)]
  simp
theorem okM_iff {a : Addr} (h : μ a = some (.lst ds)) : okM (.ref a) μ ↔ True := ⟨fun _ => trivial, fun _ => ⟨a, ds, rfl, h⟩⟩
theorem atI_0 {α : Type} {x : α} {xs : List α} : atI (x :: xs) 0 = some x := atI_nat (j := 0) rfl
theorem atI_1 {α : Type} {x y : α} {xs : List α} : atI (x :: y :: xs) 1 = some y := atI_nat (j := 1) rfl
theorem atI_2 {α : Type} {x y z : α} {xs : List α} : atI (x :: y :: z :: xs) 2 = some z := atI_nat (j := 2) rfl
theorem lenOf_seqOf (h : seqOf μ x = some es) : lenOf μ x = some es.length := by
  cases x with
  | ref a => exact lenOf_of (seqOf_ref h)
  | lst es => cases h; rfl
  | tup es => cases h; rfl
  | sq es => cases h; rfl
  | _ => cases h
end
/-! ### a list or a tuple that stays, walked -/
section
variable {X : Cx} {T : List (Addr × Str)} {E : XK} {tg iter : Expr}
def iSeq (K : PySem.W.Frag) (tl : TE) : TI := fun σ H R => tl σ H fun v H1 => ∃ a, v = .ref a ∧ ((∃ xs, SqL K H1 a xs) ∧ R (Itl K a) H1 ∨ (∃ xs, SqT K H1 a xs) ∧ R (Itt K a) H1)
theorem pi_seq {l : Expr} {tl : TE} (hl : PE X l tl) : PI X tg l (iSeq X.K tl) := by
  refine ⟨fun pins s σ H R I h => ?_⟩
  refine thn (hl.run pins s σ H _ I h) fun v s1 ⟨x, H1, I1, r1, q1⟩ => ?_
  obtain ⟨a, e, q | q⟩ := q1
  · obtain ⟨⟨xs, hq⟩, q⟩ := q
    subst e
    cases r1
    obtain ⟨its, rv, p, hz⟩ := I1.list hq
    refine wpAny_pyIter_list p.isList ?_
    refine ⟨s1.heap.objs.size, [s1.heap.objs.size], _, _, H1, rfl, I1.kept (t' := s1.toks) fun b o e => Heap.get?_push_of_some _ e, turn_list a _, ⟨_, Heap.get?_push_size _ rfl, rfl, rfl⟩, fun b hb => ?_, q⟩
    have e : b = s1.heap.objs.size := by simpa using hb
    subst e
    exact I1.fpOk (Nat.le_refl _) (I1.hok.fresh (Nat.le_refl _))
  · obtain ⟨⟨xs, hq⟩, q⟩ := q
    subst e
    cases r1
    obtain ⟨its, rv, p, hz⟩ := I1.tuple hq
    refine wpAny_pyIter_tuple (show s1.heap.IsTuple a its.toArray from p) ?_
    refine ⟨s1.heap.objs.size, [s1.heap.objs.size], _, _, H1, rfl, I1.kept (t' := s1.toks) fun b o e => Heap.get?_push_of_some _ e, turn_tuple a _, ⟨_, Heap.get?_push_size _ rfl, rfl, rfl⟩, fun b hb => ?_, q⟩
    have e : b = s1.heap.objs.size := by simpa using hb
    subst e
    exact I1.fpOk (Nat.le_refl _) (I1.hok.fresh (Nat.le_refl _))
def iwS (w : WE) : WI := fun ρ μ ev Ψ => w ρ μ ev fun d μ1 => ∃ ds, (fzL d = some ds ∨ tupOf d = some ds) ∧ Ψ ds noP μ1
theorem vi_seq {w : WE} (h : PE X iter (up X.K T E w)) : PI X tg iter (upI X.K T E (iwS w)) :=
  pi_mono (pi_seq h) fun σ H R ⟨ρ, μ, ev, Ψ, en, st, xo, h, k⟩ => ⟨ρ, μ, ev, _, en, st, xo, h, fun d μ1 v H1 ⟨ds, e, q⟩ iv st1 s1 => by
    rcases e with e | e
    · obtain ⟨a, vs, rfl, at_, ia⟩ := fzL_is iv e
      refine ⟨a, rfl, .inl ⟨⟨vs, at_.sq⟩, k ds _ μ1 _ H1 q st1 s1 fun μ2 H2 s2 st2 _ i => ⟨fun x hx => ?_, fun hl => ⟨vs, (at_.step s2).sq, by rw [ia.len]; exact hl⟩⟩⟩⟩
      obtain ⟨u, e1, e2⟩ := (ia.step s2).get hx
      exact ⟨⟨vs, u, (at_.step s2).sq, e1⟩, fun y H3 ⟨z1, z2⟩ => by subst z1; have := z2 vs (at_.step s2).sq; rw [e1] at this; cases this; exact ⟨e2, st2, Step.refl _ _⟩⟩
    · obtain ⟨a, vs, rfl, at_, ia⟩ := tupOf_is iv e
      refine ⟨a, rfl, .inr ⟨⟨vs, at_.sq⟩, k ds _ μ1 _ H1 q st1 s1 fun μ2 H2 s2 st2 _ i => ⟨fun x hx => ?_, fun hl => ⟨vs, (at_.step s2).sq, by rw [ia.len]; exact hl⟩⟩⟩⟩
      obtain ⟨u, e1, e2⟩ := (ia.step s2).get hx
      exact ⟨⟨vs, u, (at_.step s2).sq, e1⟩, fun y H3 ⟨z1, z2⟩ => by subst z1; have := z2 vs (at_.step s2).sq; rw [e1] at this; cases this; exact ⟨e2, st2, Step.refl _ _⟩⟩⟩
end
/-! ### comprehensions without a trace -/
theorem lcW_map {p : Pat} {w : WE} {vs : List Nat} {ρ : Ro} {ev : EV} {Ds : Addr} {Φ : WK} {g : D → D} {μ : Mu} : ∀ (ds acc : List D), acc.length + ds.length ≤ sizeLine →
    (∀ d ∈ ds, ∃ ρ1, p.bind d (wipeR ρ vs) = some ρ1 ∧ ∀ l (Ψ : WK), Ψ (g d) (μ.set Ds (.lst l)) → w ρ1 (μ.set Ds (.lst l)) ev Ψ) → Φ (.ref Ds) (μ.set Ds (.lst (acc ++ ds.map g))) → lcW noP p wYes w vs ρ ev Ds Φ ds (μ.set Ds (.lst acc))
  | [], acc, _, _, q => ⟨trivial, by simpa using q⟩
  | d :: ds, acc, hl, h, q => by
    obtain ⟨ρ1, e, hw⟩ := h d (List.mem_cons_self ..)
    refine ⟨trivial, ρ1, e, ?_⟩
    simp only [wYes, if_true]
    refine hw acc _ ⟨acc, Mu.same, by simp only [List.length_cons] at hl; omega, ?_⟩
    rw [Mu.set_set]
    refine lcW_map ds (acc ++ [g d]) (by simp only [List.length_append, List.length_cons, List.length_nil] at hl ⊢; omega) (fun d hd => h d (List.mem_cons_of_mem _ hd)) ?_
    rw [List.append_assoc]; exact q
/-- frozen at once -/
theorem lcz {p : Pat} {w : WE} {vs : List Nat} {ρ : Ro} {ev : EV} {Φ : WK} (g : D → D) {μ : Mu} {ds : List D} (hl : ds.length ≤ sizeLine)
    (h : ∀ d ∈ ds, ∃ ρ1, p.bind d (wipeR ρ vs) = some ρ1 ∧ ∀ Ds l (Ψ : WK), μ Ds = none → Ψ (g d) (μ.set Ds (.lst l)) → w ρ1 (μ.set Ds (.lst l)) ev Ψ) (q : Φ (.lst (ds.map g)) μ) :
    ∀ Ds, μ Ds = none → lcW noP p wYes w vs ρ ev Ds (fun d μ1 => ∃ a t, d = .ref a ∧ frzOf μ1 a = some t ∧ Φ t (μ1.del a)) ds (μ.set Ds (.lst [])) := fun Ds nD =>
  lcW_map (g := g) ds [] (by simpa using hl) (fun d hd => by obtain ⟨ρ1, e, hw⟩ := h d hd; exact ⟨ρ1, e, fun l Ψ q => hw Ds l Ψ nD q⟩)
    ⟨Ds, _, rfl, frzOf_lst Mu.same, by rw [Mu.del_set nD]; exact q⟩
/-- left to change -/
theorem lcm {p : Pat} {w : WE} {vs : List Nat} {ρ : Ro} {ev : EV} {Φ : WK} (g : D → D) {μ : Mu} {ds : List D} (hl : ds.length ≤ sizeLine)
    (h : ∀ d ∈ ds, ∃ ρ1, p.bind d (wipeR ρ vs) = some ρ1 ∧ ∀ Ds l (Ψ : WK), μ Ds = none → Ψ (g d) (μ.set Ds (.lst l)) → w ρ1 (μ.set Ds (.lst l)) ev Ψ) (q : ∀ Ds, μ Ds = none → Φ (.ref Ds) (μ.set Ds (.lst (ds.map g)))) :
    ∀ Ds, μ Ds = none → lcW noP p wYes w vs ρ ev Ds Φ ds (μ.set Ds (.lst [])) := fun Ds nD =>
  lcW_map (g := g) ds [] (by simpa using hl) (fun d hd => by obtain ⟨ρ1, e, hw⟩ := h d hd; exact ⟨ρ1, e, fun l Ψ q => hw Ds l Ψ nD q⟩) (q Ds nD)
/-- what no one calls is promised at every level -/
theorem canV_no {P : Program} {w : World} {K : PySem.W.Frag} {mg : Str → Option Value} {base : Heap} {CX : CXT} {T : List (Addr × Str)} {k n : Nat} {f : Addr} {ks : List Str} {as : List Arg} {sp' : VSp} (hn : ∀ ds μ ev Φ, ¬ sp' ds μ ev Φ) (ok : ∀ a ∈ as, a.Ok K (n + ks.length))
    (h : ∃ (fd : FuncData) (ps : List Str) (g : List Value → List Value → List Value), PySem.W.keepIn K (.ref f) = true ∧ KBn K fd ps n ks g (argsV as)) : CanV P w K mg base CX T k f n ks as sp' := by
  obtain ⟨fd, ps, g, kp, b⟩ := h
  exact ⟨⟨fd, ps, g, ⟨fun vs H Q E ⟨ds, μ, ev, Φ, _, _, _, h, _⟩ => (hn _ _ _ _ h).elim, fun _ _ _ _ _ _ _ _ _ _ _ _ _ _ ⟨ds, μ, ev, Φ, _, _, _, h, _⟩ => (hn _ _ _ _ h).elim⟩, kp, b⟩, ok⟩
end VL

set_option maxRecDepth 100000
set_option maxHeartbeats 4000000
namespace VL
open PySem L2 FW PyProof.Rows
/-! ### an object whose parts are laid one by one -/
structure Bd (μ0 : Mu) (old : List Addr) (μ : Mu) (c : Addr) (X : MO) (L : List (Addr × MO)) : Prop where
  at_c : μ c = some X
  all : ∀ q ∈ L, μ q.1 = some q.2
  kp : Kp [c] μ0 μ
  nd : (c :: L.map (·.1)).Nodup
  nw : ∀ q ∈ L, q.1 ∈ old ∨ μ0 q.1 = none
section
variable {μ0 μ : Mu} {old : List Addr} {c p : Addr} {X Y m : MO} {L : List (Addr × MO)}
theorem Bd.setc (b : Bd μ0 old μ c X L) : Bd μ0 old (μ.set c Y) c Y L := ⟨Mu.same, fun q hq => by
  have hn := (List.nodup_cons.mp b.nd).1
  rw [Mu.ne fun e => hn (by rw [← e]; exact List.mem_map.mpr ⟨q, hq, rfl⟩)]
  exact b.all q hq, b.kp.trans Nw.refl (Kp.set (List.mem_singleton.mpr rfl)), b.nd, b.nw⟩
theorem Bd.new (b : Bd μ0 old μ c X L) (h : μ p = none) : Bd μ0 old (μ.set p m) c X ((p, m) :: L) := by
  have pc : p ≠ c := fun e => by rw [e, b.at_c] at h; cases h
  have pl : ∀ q ∈ L, q.1 ≠ p := fun q hq e => by have := b.all q hq; rw [e, h] at this; cases this
  refine ⟨by rw [Mu.ne (Ne.symm pc)]; exact b.at_c, fun q hq => ?_, fun a ha hm => ?_, ?_, fun q hq => ?_⟩
  · rcases List.mem_cons.mp hq with rfl | hq
    · exact Mu.same
    · rw [Mu.ne (pl q hq)]; exact b.all q hq
  · have e := b.kp a ha hm
    rw [Mu.ne fun z => by rw [z, h] at e; rw [z] at hm; exact hm e.symm]
    exact e
  · rw [List.map_cons, List.nodup_cons]
    have nd := List.nodup_cons.mp b.nd
    refine ⟨fun hc => ?_, List.nodup_cons.mpr ⟨fun hc => ?_, nd.2⟩⟩
    · rcases List.mem_cons.mp hc with e | hc
      · exact pc e.symm
      · exact nd.1 hc
    · obtain ⟨q, hq, e⟩ := List.mem_map.mp hc
      exact pl q hq e
  · rcases List.mem_cons.mp hq with rfl | hq
    · refine .inr ?_
      by_cases hm : μ0 p = none
      · exact hm
      · have e := b.kp p (by simpa using pc) hm
        rw [h] at e; exact absurd e.symm hm
    · exact b.nw q hq
end
theorem forW_inv {P : Mu → Prop} {g : WG} {b : WS} {DD : VEnds} {ev : EV} {ds : List D} (Inv : Nat → Ro → Mu → Prop)
    (hs : ∀ i d, ds[i]? = some d → ∀ (N : Ro → Mu → Prop) ρ μ, (∀ ρ' μ', Inv (i + 1) ρ' μ' → N ρ' μ') → Inv i ρ μ → P μ ∧ g d ρ μ ev fun ρ' μ' => b { DD with nx := N, ct := N, bk := DD.nx } ρ' μ' ev)
    (hd : ∀ ρ μ, Inv ds.length ρ μ → P μ ∧ DD.nx ρ μ) {ρ : Ro} {μ : Mu} (h0 : Inv 0 ρ μ) : forW P g b DD ev ds ρ μ := by
  have go : ∀ (m i : Nat) (ρ : Ro) (μ : Mu), ds.length - i = m → i ≤ ds.length → Inv i ρ μ → forW P g b DD ev (ds.drop i) ρ μ := by
    intro m
    induction m with
    | zero =>
      intro i ρ μ hm hi h
      have : i = ds.length := by omega
      subst this
      rw [List.drop_length]
      exact hd ρ μ h
    | succ m ih =>
      intro i ρ μ hm hi h
      have hl : i < ds.length := by omega
      rw [List.drop_eq_getElem_cons hl]
      exact hs i ds[i] (by simp [hl]) _ ρ μ (fun ρ' μ' h' => ih (i + 1) ρ' μ' (by omega) (by omega) h') h
  have := go ds.length 0 ρ μ (by omega) (Nat.zero_le _) h0
  simpa using this
theorem range_get {n i : Nat} {d : D} (h : ((List.range n).map fun k => D.int (k : Nat))[i]? = some d) : i < n ∧ d = .int (i : Nat) := by
  rw [List.getElem?_map] at h
  by_cases hi : i < n
  · rw [List.getElem?_range hi] at h; cases h; exact ⟨hi, rfl⟩
  · rw [List.getElem?_eq_none (by rw [List.length_range]; omega)] at h; cases h
theorem CanV.mono {P : Program} {w : World} {K : PySem.W.Frag} {mg : Str → Option Value} {base : Heap} {CX : CXT} {T : List (Addr × Str)} {k j n : Nat} {f : Addr} {ks : List Str} {as : List Arg} {sp : VSp} (c : CanV P w K mg base CX T k f n ks as sp) (h : k ≤ j) : CanV P w K mg base CX T j f n ks as sp := by
  obtain ⟨⟨fd, ps, g, F, kp, b⟩, ok⟩ := c
  exact ⟨⟨fd, ps, g, ⟨F.size, fun A outer s H args us vs Q E hG hr => F.goes A outer s H args us vs Q E hG (hr.mono h)⟩, kp, b⟩, ok⟩
theorem held2 {P : Program} {w : World} {K : PySem.W.Frag} {mg : Str → Option Value} {base : Heap} {T : List (Addr × Str)} {k j : Nat} {f : Addr} {sp : VSp} (c : CanV P w K mg base CX0 T k f 2 [] ([.inl 0, .inl 1].map (toArg [] [])) sp) (h : k ≤ j) : HeldV P w K mg base T j f 2 sp :=
  ⟨_, c.mono h, fun ds hl => match ds, hl with | [_, _], _ => rfl⟩
end VL

set_option maxRecDepth 100000
set_option maxHeartbeats 4000000
/-! values as trees: texts told apart, comprehensions with a test, a changing list's places -/
namespace VL
open PySem L2 FW PyProof.Rows
/-! ### written texts told apart -/
theorem ofStr_inj (a b : String) : (Str.ofString a = Str.ofString b) = (a = b) := by
  refine propext ⟨fun h => ?_, fun h => by rw [h]⟩
  rw [Str.ofString_eq_toList, Str.ofString_eq_toList] at h
  have h1 : (a.toList.map Char.toNat) = (b.toList.map Char.toNat) := by simpa using h
  have inj : Function.Injective Char.toNat := fun c d e => Char.ext (UInt32.toNat_inj.mp e)
  have h2 : a.toList = b.toList := List.map_inj_right (fun c d e => inj e) |>.mp h1
  exact String.toList_inj.mp h2
theorem ofStr_beq (a b : String) : (Str.ofString a == Str.ofString b) = decide (a = b) := by
  rw [Bool.eq_iff_iff, beq_iff_eq, decide_eq_true_eq, ofStr_inj]
/-! ### the rest of a division by any number but 0 -/
def vModN : V2 := vI (fun _ j => j ≠ 0) fun i j => .int (i.fmod j)
theorem s_modN {K : PySem.W.Frag} {T : List (Addr × Str)} : Sim2 K T (rI (fun _ j => j ≠ 0) fun i j => .int (i.fmod j)) vModN := sim_I fun _ _ _ _ => .int _
/-! ### comprehensions with a test -/
theorem lcW_filt {P : Mu → Prop} {p : Pat} {t : WT} {w : WE} {vs : List Nat} {ρ : Ro} {ev : EV} {Ds : Addr} {Φ : WK} {f : D → Bool} {g : D → D} {μ : Mu} (hP : ∀ l, P (μ.set Ds (.lst l))) : ∀ (ds acc : List D), acc.length + ds.length ≤ sizeLine →
    (∀ d ∈ ds, ∃ ρ1, p.bind d (wipeR ρ vs) = some ρ1 ∧ ∀ l, (∀ Ψ : Bool → Mu → Prop, Ψ (f d) (μ.set Ds (.lst l)) → t ρ1 (μ.set Ds (.lst l)) ev Ψ) ∧ (f d = true → ∀ Ψ : WK, Ψ (g d) (μ.set Ds (.lst l)) → w ρ1 (μ.set Ds (.lst l)) ev Ψ)) →
    Φ (.ref Ds) (μ.set Ds (.lst (acc ++ (ds.filter f).map g))) → lcW P p t w vs ρ ev Ds Φ ds (μ.set Ds (.lst acc))
  | [], acc, _, _, q => ⟨hP _, by simpa using q⟩
  | d :: ds, acc, hl, h, q => by
    obtain ⟨ρ1, e, hw⟩ := h d (List.mem_cons_self ..)
    refine ⟨hP _, ρ1, e, ?_⟩
    refine (hw acc).1 _ ?_
    cases hf : f d with
    | true =>
      rw [if_pos rfl]
      refine (hw acc).2 hf _ ⟨acc, Mu.same, by simp only [List.length_cons] at hl; omega, ?_⟩
      rw [Mu.set_set]
      refine lcW_filt hP ds (acc ++ [g d]) (by simp only [List.length_append, List.length_cons, List.length_nil] at hl ⊢; omega) (fun d hd => h d (List.mem_cons_of_mem _ hd)) ?_
      rw [List.append_assoc]
      rw [List.filter_cons, hf, if_pos rfl, List.map_cons] at q
      exact q
    | false =>
      rw [if_neg (by simp)]
      refine lcW_filt hP ds acc (by simp only [List.length_cons] at hl; omega) (fun d hd => h d (List.mem_cons_of_mem _ hd)) ?_
      rw [List.filter_cons, hf, if_neg (by simp)] at q
      exact q
/-- frozen at once -/
theorem lcf {P : Mu → Prop} {p : Pat} {t : WT} {w : WE} {vs : List Nat} {ρ : Ro} {ev : EV} {Φ : WK} (f : D → Bool) (g : D → D) {μ : Mu} {ds : List D} (hl : ds.length ≤ sizeLine) (hP : ∀ Ds l, μ Ds = none → P (μ.set Ds (.lst l)))
    (h : ∀ d ∈ ds, ∃ ρ1, p.bind d (wipeR ρ vs) = some ρ1 ∧ ∀ Ds l, μ Ds = none → (∀ Ψ : Bool → Mu → Prop, Ψ (f d) (μ.set Ds (.lst l)) → t ρ1 (μ.set Ds (.lst l)) ev Ψ) ∧ (f d = true → ∀ Ψ : WK, Ψ (g d) (μ.set Ds (.lst l)) → w ρ1 (μ.set Ds (.lst l)) ev Ψ)) (q : ∀ Ds, μ Ds = none → Φ (.ref Ds) (μ.set Ds (.lst ((ds.filter f).map g)))) :
    ∀ Ds, μ Ds = none → lcW P p t w vs ρ ev Ds Φ ds (μ.set Ds (.lst [])) := fun Ds nD =>
  lcW_filt (f := f) (g := g) (fun l => hP Ds l nD) ds [] (by simpa using hl) (fun d hd => by obtain ⟨ρ1, e, hw⟩ := h d hd; exact ⟨ρ1, e, fun l => hw Ds l nD⟩) (q Ds nD)
theorem lcW_mapP {P : Mu → Prop} {p : Pat} {w : WE} {vs : List Nat} {ρ : Ro} {ev : EV} {Φ : WK} (g : D → D) {μ : Mu} {ds : List D} (hl : ds.length ≤ sizeLine) (hP : ∀ Ds l, μ Ds = none → P (μ.set Ds (.lst l)))
    (h : ∀ d ∈ ds, ∃ ρ1, p.bind d (wipeR ρ vs) = some ρ1 ∧ ∀ Ds l (Ψ : WK), μ Ds = none → Ψ (g d) (μ.set Ds (.lst l)) → w ρ1 (μ.set Ds (.lst l)) ev Ψ) (q : ∀ Ds, μ Ds = none → Φ (.ref Ds) (μ.set Ds (.lst (ds.map g)))) :
    ∀ Ds, μ Ds = none → lcW P p wYes w vs ρ ev Ds Φ ds (μ.set Ds (.lst [])) :=
  lcf (fun _ => true) g hl hP (fun d hd => by
    obtain ⟨ρ1, e, hw⟩ := h d hd
    exact ⟨ρ1, e, fun Ds l nD => ⟨fun Ψ q => q, fun _ Ψ q => hw Ds l Ψ nD q⟩⟩) (fun Ds nD => by rw [List.filter_eq_self.mpr fun _ _ => rfl]; exact q Ds nD)
/-! ### enumerate, a list that may change -/
def iwEM (w : WA) : WI := fun ρ μ ev Ψ => w ρ μ ev fun xs μ1 => ∃ a ds, xs = [.ref a] ∧ μ1 a = some (.lst ds) ∧ Ψ (enumD ds) (fun μ' => μ' a = some (.lst ds)) μ1
section
variable {X : Cx} {T : List (Addr × Str)} {E : XK}
theorem vi_enumM {e : Expr} {w : WA} {p pos tpos : Pos} {elts : List Expr} {kk : Nat} (hg : Gl X "enumerate") (hm : X.mg "enumerate" = none) (h : PA X [e] (upA X.K T E w)) (hs : starEach [e] X.env = [(false, eval e X.env)] := by rfl) : PI X (.Tuple elts kk tpos) (.Call (.Name "enumerate" p) [e] [] pos) (upI X.K T E (iwEM w)) :=
  pi_mono (pi_enum hg hm h hs) fun σ H R ⟨ρ, μ, ev, Ψ, en, st, xo, h, k⟩ => ⟨ρ, μ, ev, _, en, st, xo, h, fun xs μ1 us H1 ⟨a, ds, e, hm, q⟩ iv st1 s1 => by
    subst e
    cases iv with
    | cons ix b =>
      cases b
      cases ix
      obtain ⟨vs, h1, ia⟩ := st1.mo _ _ hm
      refine ⟨a, vs, rfl, SqL.of h1, k _ _ μ1 _ H1 q st1 s1 fun μ2 H2 s2 st2 hp i => ?_⟩
      obtain ⟨us, h2, ib⟩ := st2.mo _ _ hp
      refine ⟨fun d hd => ?_, fun hl => ⟨us, SqL.of h2, by rw [ib.len]; unfold enumD at hl; rw [List.length_map, List.length_zipIdx] at hl; exact hl⟩⟩
      obtain ⟨z, hz, rfl⟩ := enumD_get hd
      obtain ⟨u, e1, e2⟩ := ib.get hz
      refine ⟨⟨us, u, SqL.of h2, e1⟩, fun y H3 ⟨Tp, x', hy, nT, hH, hv⟩ => ?_⟩
      subst hy hH
      have := hv us (SqL.of h2)
      rw [e1] at this; cases this
      have ss := step_new (μ := μ2) (o := .tup [.int (i : Nat), u]) nT (st2.free nT)
      exact ⟨.tup (.inl ⟨st2.free nT, upd_same⟩) (.cons (.int _) (.cons (e2.step ss) .nil)), st2.new nT, ss⟩⟩
end
end VL

set_option maxRecDepth 100000
set_option maxHeartbeats 4000000
/-! values as trees: what stays, shorter said -/
namespace VL
open PySem L2 FW PyProof.Rows
theorem Kp.setN {F : List Addr} {μ μ' : Mu} {f : Addr} {m : MO} (k : Kp F μ μ') (h : μ f = none) : Kp F μ (μ'.set f m) := fun x hx hm => by
  rw [Mu.ne fun e => hm (by rw [e]; exact h)]; exact k x hx hm
theorem Kp.delN {F : List Addr} {μ μ' : Mu} {f : Addr} (k : Kp F μ μ') (h : μ f = none) : Kp F μ (μ'.del f) := fun x hx hm => by
  rw [Mu.dne fun e => hm (by rw [e]; exact h)]; exact k x hx hm
theorem Kp.at_ {F : List Addr} {μ μ' : Mu} {x : Addr} {m : MO} (k : Kp F μ μ') (h : μ x = some m) (n : x ∉ F) : μ' x = some m := by rw [k x n (by rw [h]; exact nofun)]; exact h
/-- what was free ahead, behind something that kept all but F -/
theorem Kp.free {F : List Addr} {μ μ' : Mu} {x : Addr} (k : Kp F μ μ') (h : μ' x = none) (n : x ∉ F) : μ x = none := by
  by_cases hm : μ x = none
  · exact hm
  · rw [← k x n hm]; exact h
theorem Kp.up {F G : List Addr} {μ μ1 μ2 : Mu} (k : Kp F μ μ1) (k2 : Kp G μ1 μ2) (h : ∀ x ∈ G, x ∈ F ∨ μ x = none) : Kp F μ μ2 := fun x hx hm => by
  have e := k x hx hm
  rw [k2 x (fun z => (h x z).elim hx hm) (by rw [e]; exact hm), e]
theorem Mu.new_ne {μ : Mu} {f x : Addr} {m : MO} (h : μ f = none) (e : μ x = some m) : x ≠ f := fun z => by rw [z, h] at e; cases e
theorem vAddA_ll {μ : Mu} {Φ : WK} {ds es : List D} : vAddA (.lst ds) (.lst es) μ Φ ↔ ds.length + es.length ≤ sizeLine ∧ Φ (.lst (ds ++ es)) μ :=
  ⟨fun ⟨xs, ys, e1, e2, h, q⟩ => by cases e1; cases e2; exact ⟨h, q⟩, fun ⟨h, q⟩ => ⟨_, _, rfl, rfl, h, q⟩⟩
end VL

set_option maxRecDepth 100000
set_option maxHeartbeats 4000000
/-! values as trees: how long what repr shows is, by weight; what is new -/
namespace VL
open PySem L2 FW PyProof.Rows
mutual
def wt : PyData → Nat
  | .int _ => 1921
  | .list xs => wts xs + 4
  | .tuple xs => wts xs + 4
  | .none => 4
  | .bool _ => 5
  | .str s => (reprText s).length
  | .dict kvs => (dictText (PyData.shownKv kvs)).length
def wts : List PyData → Nat
  | [] => 0
  | x :: xs => wt x + 2 + wts xs
end
theorem text_piled : ∀ (ts : List Str) (k : Nat) (acc : Str), (textFrom k acc ts).length ≤ acc.length + piled ts
  | [], k, acc => by show acc.length ≤ _; omega
  | t :: r, k, acc => by
    have ih := text_piled r (k + 1) (acc ++ (if k > 0 then ", " else "" : String) ++ t)
    have hs : ((if k > 0 then ", " else "" : String) : Str).length ≤ 2 := by split <;> decide
    have hp : piled (t :: r) = t.length + 2 + piled r := by unfold piled; rw [List.map_cons, List.sum_cons]
    show (textFrom (k + 1) (acc ++ (if k > 0 then ", " else "" : String) ++ t) r).length ≤ _
    rw [Str.length_append, Str.length_append] at ih
    omega
theorem tuple_piled (ts : List Str) : (tupleText ts).length ≤ piled ts + 4 := by
  have z : (Str.join ", " ts).length ≤ piled ts := by
    cases ts with
    | nil => simp [Str.join, piled]; decide
    | cons t r => have := join_length_add (t :: r) (by simp); omega
  unfold tupleText
  rw [Str.length_append, Str.length_append]
  have a1 : (("(" : Str)).length = 1 := by decide
  have a2 : ((if ts.length == 1 then ",)" else ")" : String) : Str).length ≤ 2 := by split <;> decide
  rw [a1]
  omega
mutual
theorem shown_le : ∀ {p : PyData}, p.showable = true → p.shown.length ≤ wt p
  | .none, _ => by show ("None" : Str).length ≤ _; decide +kernel
  | .bool b, _ => by cases b <;> (show Str.length _ ≤ 5; decide +kernel)
  | .int i, h => by
    have h2 : i.natAbs.log2 < 1920 := by simpa [PyData.showable] using h
    exact int_text_len_1921 h2
  | .str s, _ => Nat.le_refl _
  | .list xs, h => by
    have h2 : PyData.showableAll xs = true := by simpa [PyData.showable] using h
    have i := shownAll_le h2
    show (listText (PyData.shownAll xs)).length ≤ wts xs + 4
    unfold listText
    rw [Str.length_append]
    have z := text_piled (PyData.shownAll xs) 0 "["
    have e1 : (("[" : String) : Str).length = 1 := by decide
    have e2 : (("]" : String) : Str).length = 1 := by decide
    omega
  | .tuple xs, h => by
    have h2 : PyData.showableAll xs = true := by simpa [PyData.showable] using h
    have i := shownAll_le h2
    show (tupleText (PyData.shownAll xs)).length ≤ wts xs + 4
    have := tuple_piled (PyData.shownAll xs)
    omega
  | .dict kvs, _ => Nat.le_refl _
theorem shownAll_le : ∀ {xs : List PyData}, PyData.showableAll xs = true → piled (PyData.shownAll xs) ≤ wts xs
  | [], _ => by simp [PyData.shownAll, piled, wts]
  | x :: xs, h => by
    have h2 : x.showable = true ∧ PyData.showableAll xs = true := by simpa [PyData.showableAll] using h
    have a := shown_le h2.1
    have b := shownAll_le h2.2
    have hp : piled (x.shown :: PyData.shownAll xs) = x.shown.length + 2 + piled (PyData.shownAll xs) := by unfold piled; rw [List.map_cons, List.sum_cons]
    show piled (x.shown :: PyData.shownAll xs) ≤ wt x + 2 + wts xs
    omega
end
theorem showOk_of {p : PyData} (h : p.showable = true) (d : p.depth ≤ 60) (w : wt p ≤ 16777216) : ShowOk p := ⟨h, d, by rw [sizeLine_eq]; exact Nat.le_trans (shown_le h) w⟩
theorem wts_ints : ∀ ns : List Int, wts (ns.map PyData.int) = 1923 * ns.length
  | [] => rfl
  | n :: ns => by show 1921 + 2 + wts (ns.map PyData.int) = _; rw [wts_ints ns, List.length_cons]; omega
theorem wts_app (xs ys : List PyData) : wts (xs ++ ys) = wts xs + wts ys := by
  induction xs with
  | nil => simp [wts]
  | cons x xs ih => show wt x + 2 + wts (xs ++ ys) = wt x + 2 + wts xs + wts ys; rw [ih]; omega
theorem log_small {x : Int} (h : x.natAbs < 2 ^ 64) : x.natAbs.log2 < 1920 := Nat.lt_trans (log2_lt (k := 64) h (by decide)) (by decide)
/-! what is new -/
theorem nw_new {F F' G : List Addr} {μ μc : Mu} (k : Kp G μ μc) (hF : ∀ x ∈ F, μ x = none) (w : Nw F F' μc) (hG : ∀ x ∈ G, μc x ≠ none) : ∀ x ∈ F', μ x = none := fun x hx => by
  rcases w x hx with z | z
  · exact hF x z
  · exact k.free z fun h => hG x h z
theorem nw_off {F F' : List Addr} {μc : Mu} {y : Addr} (w : Nw F F' μc) (hy : y ∉ F) (h : μc y ≠ none) : y ∉ F' := fun z => (w y z).elim hy h
theorem some_ne {μ : Mu} {x : Addr} {m : MO} (h : μ x = some m) : μ x ≠ none := by rw [h]; exact nofun
end VL

set_option maxRecDepth 100000
set_option maxHeartbeats 4000000
/-! values as trees: exceptions that are kept, lambdas that are heard -/
namespace VL
open PySem L2 FW PyProof.Rows LamX
/-! ### isinstance of an exception that is kept -/
section
variable {K : PySem.W.Frag} {T : List (Addr × Str)}
def vIsX (K : PySem.W.Frag) : VL_ := fun xs μ Φ => ∃ C ns ds D b, xs = [.exc C ns ds, .ref D] ∧ ExcC K C ∧ PySem.W.kitOne K (.ref C) (.ref D) = some b ∧ Φ (.bl b) μ
def vIsiE (K : PySem.W.Frag) : VL_ := fun xs μ Φ => vIsiO K xs μ Φ ∨ vIsX K xs μ Φ
theorem s_isiE : SimL K T (rIsA K) (vIsiE K) := fun xs vs μ H Φ Q ia st h k => by
  rcases h with h | ⟨C, ns, ds, D', b, e, eC, kb, q⟩
  · exact .inl (s_isiO xs vs μ H Φ Q ia st h k)
  · subst e
    cases ia with
    | cons ix c => cases c with
      | cons iy c =>
        cases iy; cases c
        cases ix with
        | exc m h m2 h2 l i => exact .inr ⟨_, _, _, _, _, b, rfl, h, eC, .inr ⟨_, _, rfl, h2⟩, .own _, kb, k.now q (.bl b) st⟩
/-- the field of an exception that is kept -/
def wXt (K : PySem.W.Frag) (f : Str) (w : WE) : WE := fun ρ μ ev Φ => w ρ μ ev fun d μ1 => ∃ C ns ds x, d = .exc C ns ds ∧ XfC K C ∧ PySem.W.findIn K (.ref C) f = some none ∧ lookD f ns ds = some x ∧ Φ x μ1
end
section
variable {X : Cx} {T : List (Addr × Str)} {E : XK}
theorem ve_xt {e : Expr} {f : Str} {w : WE} {pos : Pos} (he : PE X e (up X.K T E w)) (hb : attributeBase e f X.env (eval e X.env) = eval e X.env := by rfl) : PE X (.Attribute e f pos) (up X.K T E (wXt X.K f w)) :=
  pe_mono (pe_xt he hb) fun σ H Q ⟨ρ, μ, ev, Φ, en, st, xo, h, k⟩ => ⟨ρ, μ, ev, _, en, st, xo, h, fun d μ1 v H1 ⟨C, ns, ds, x, e, xf, no, hl, q⟩ iv st1 s1 => by
    subst e
    cases iv with
    | exc m h m2 h2 l i =>
      obtain ⟨u, e1, e2⟩ := look_is i hl
      exact ⟨_, _, _, _, u, rfl, h, h2, xf, no, e1, (k.step s1).now q e2 st1⟩⟩
/-! ### a def whose code object is known -/
theorem fun_okDC {P : Program} {w : World} {K : PySem.W.Frag} {mg : Str → Option Value} {base : Heap} {CX : CXT} {x qual : Str} {st : Stmt} {dvs : List V} {f cc : Addr} {fd : FuncData} {N ps : List Str} {k : Nat} {sp : VSp} (F : FunD K x qual (defArgs st) (defBody st) (defScope st) dvs [] f fd) (hc : fd.code = .ref cc) (S : FnScope N ps (defScope st)) (size : ∀ ds μ ev Φ, sp ds μ ev Φ → ds.length = ps.length)
    (walk : ∀ (A : Around) (outer : List PySem.Env) (s : Shared) (H : Hp) (E : XK), (A.deeper (envOfC qual (defScope st) s.heap.objs.size f (.ref cc))).guards = some [] → Room k (A.deeper (envOfC qual (defScope st) s.heap.objs.size f (.ref cc))) →
      ∃ t, PSs (cxOf CX P w K mg base N qual (defScope st) f (.ref cc) A outer s H E) (defBody st) (upS K T E t) ∧ ∀ ds μ ev Φ, sp ds μ ev Φ → t { nx := fun _ μ' => Φ .non μ', rt := Φ } (vstart N ds) μ ev) : FnG P w K mg base CX (k + 1) f fd ps (lift K T sp) := by
  obtain ⟨oc, od, dV, kV, doc, pm, an, cdv, ct, osl, rfl, lk, hcd, _, _⟩ := F.ex
  obtain rfl : cdv = .ref cc := hc
  refine ⟨fun vs H Q E ⟨ds, μ, ev, Φ, ia, _, _, h, _⟩ => by rw [ia.len]; exact size _ _ _ _ h, fun A outer s H args us vs Q E hG hr e0 hb hv hs => ?_⟩
  obtain ⟨ds, μ, ev, Φ, ia, st', xo, h, k'⟩ := hs
  refine LamX.run_ofS lk hcd S hr e0 hb hv (by rw [ia.len]; exact size _ _ _ _ h) fun hr' => ?_
  obtain ⟨t, ht, hq⟩ := walk A outer s H E (guards_in hG) hr'
  refine ⟨_, ht, vstart N ds, μ, ev, _, env_start ia, st', xo, hq ds μ ev Φ h, fun ρ' μ' σ' H' q en st2 s2 => ?_, k', fun _ _ _ _ z => z.elim, fun _ _ _ _ z => z.elim⟩
  exact k' .non μ' .non H' q .non st2 s2
/-! ### a def that hears: y = None; try: a(); except e as n: y = n; rest -/
def hearE (Q : VK) : Ends := { nx := fun _ H' => Q .non H', rt := Q }
def hearD (Φ : WK) : VEnds := { nx := fun _ μ' => Φ .non μ', rt := Φ }
def hearX (K : PySem.W.Frag) (T : List (Addr × Str)) (c : Value) (r : WS) (Q : VK) : XK := fun cls d H' => PySem.W.exmOne K cls c = some true ∧ ∀ (σ' : L2.St) (a : Addr), H' a = none → σ'.length = 3 → upS K T C8.E0 r (hearE Q) (((σ'.set 2 (some (.ref a))).set 1 (some (.ref a))).set 2 none) (upd H' a (ExT a cls d))
def hearQ (K : PySem.W.Frag) (T : List (Addr × Str)) (r : WS) (Q : VK) : VK := fun _ H' => ∀ σ' : L2.St, σ'.length = 3 → σ'[1]? = some (some .non) → upS K T C8.E0 r (hearE Q) σ' H'
def TThear (K : PySem.W.Frag) (T : List (Addr × Str)) (c : Value) (r : WS) : (XK → Hp → VK → Prop) → Hp → VK → Prop := fun tl H Q =>
  ∀ (E' : XK) (Q' : VK), (∀ cls d H', hearX K T c r Q cls d H' → E' cls d H') → (∀ v H', hearQ K T r Q v H' → Q' v H') → tl E' H Q'
theorem hear_gives {Ng : List Str} {x a n y ex q : Str} {sg : Scope} {g : Addr} {cdg c : Value} {rest : List Stmt} {r : WS} {j1 : _} {p1 p2 p3 p4 p5 p6 p7 p8 p9 p10 p11 p12 : Pos} (hNg : Ng = [a, y, n]) (nd : Ng.Nodup)
    (hx1 : Loc sg y) (hx2 : sg.names.lookup y = some .local) (hx3 : sg.names.lookup n = some .local) (hn1 : (n == ("__debug__" : Str)) = false) (hn2 : (n == ("__classdict__" : Str)) = false)
    (hc : ∀ (s : Shared) (H : Hp), Names (cxOf C8.CX0 X.prog X.w X.K X.mg X.base Ng x sg g cdg X.A X.stack s H C8.E0).nox ex c)
    (hrest : ∀ (s : Shared) (H : Hp), PSs (cxOf C8.CX0 X.prog X.w X.K X.mg X.base Ng x sg g cdg X.A X.stack s H C8.E0).nox rest (upS X.K T C8.E0 r)) :
    GivesTo X Ng x sg g cdg (.Assign [.Name y p1] (.Constant .none j1 p2) p3 :: .Try [.Expr (.Call (.Name a p4) [] [] p5) p6] [.ExceptHandler (some (.Name ex p7)) (some n) [.Assign [.Name y p8] (.Name n p9) p10] p11] [] [] p12 :: rest) a q (TThear X.K T c r) := by
  subst hNg
  intro f c' s H Q tl act hk h
  refine ⟨_, pss_cons (ps_set (i := 1) nd rfl hx1 pe_non) (pss_cons (ps_try_keep (i := 2) (j := 1) (c := c) (tb := fun W D σ H => σ[0]? = some (some (.ref f)) ∧ H c' = some (CodeO c' q) ∧ tl (fun cls d H' => ∀ σ', W cls d σ' H') H (fun _ H' => D.nx σ H')) rfl rfl nd rfl hx3 rfl hx2 (by decide) (hc s H)
    (fun W pn xe tk _ => ⟨fun pins s' σ H' D I ⟨h1, h2, h3⟩ => (pss_one (ps_expr (act W pn xe _ _ _ tk (fun cls d σ' H' hh => hh σ')))).run pins s' σ H' D I ⟨h1, h2, h3⟩⟩) rfl hn1 hn2) (hrest s H)), ?_⟩
  exact ⟨by simp [L2.start], rfl, hk, h _ _ (fun cls d H' z σ' => ⟨z.1, fun a na hl => z.2 σ' a na hl⟩) fun v H' z => z _ rfl rfl⟩
end
end VL

set_option maxRecDepth 100000
set_option maxHeartbeats 4000000
/-! values as trees: a lambda handed to a def that hears -/
namespace VL
open PySem PySem.Spec L2 FW PyProof.Rows LamX
def wHear (K : PySem.W.Frag) (c : Value) (r : WS) (w : WE) : WE := fun ρ μ _ Φ => w ρ μ (fun C ns ds μ' => PySem.W.exmOne K (.ref C) c = some true ∧ r (hearD Φ) [none, some (.exc C ns ds), none] μ' ev0) (fun _ μ' => r (hearD Φ) [none, some .non, none] μ' ev0)
section
variable {K : PySem.W.Frag} {T : List (Addr × Str)} {E : XK} {w : WE} {r : WS} {c : Value}
theorem step_extN {μ : Mu} {H H1 : Hp} (eN : ExtN H H1) : Step μ H μ H1 := fun a o h m n => ⟨eN a o h n, m⟩
theorem Sto.extN {μ : Mu} {H H1 : Hp} (st : Sto K T μ H) (eN : ExtN H H1) (T1 : Tabs T H1) : Sto K T μ H1 := ⟨fun a m e => (st.mo a m e).at_ (step_extN eN) (by
  obtain ⟨o, h, n, _⟩ := (st.mo a m e).there
  rw [h]; exact eN a o h n), T1⟩
theorem hear_ends {μ μ' : Mu} {H H' : Hp} {Φ : WK} {Q : VK} (k : KOk K T μ H Φ Q) (s : Step μ H μ' H') : EndsOk K T μ' H' (hearD Φ) (hearE Q) :=
  ⟨fun _ μ2 _ H2 q _ st2 s2 => k .non μ2 .non H2 q .non st2 (s.trans s2), fun d μ2 v H2 q iv st2 s2 => k d μ2 v H2 q iv st2 (s.trans s2), fun _ _ _ _ z => z.elim, fun _ _ _ _ z => z.elim⟩
theorem hear_up {σ : L2.St} {H : Hp} {Q : VK} (h : up K T E (wHear K c r w) σ H Q) : tLam T (TThear K T c r) (fun E' => up K T E' w) σ H Q := by
  obtain ⟨ρ, μ, ev, Φ, en, st, xo, h, k⟩ := h
  refine ⟨st.tab, fun H1 eN T1 E' Q' hE hQ => ?_⟩
  have s0 : Step μ H μ H1 := step_extN eN
  refine ⟨ρ, μ, _, _, en.step s0, st.extN eN T1, ?_, h, ?_⟩
  · intro C ns ds vs dd μ' H' ⟨q1, q2⟩ hd md hl ia st1 s1
    refine hE _ _ _ ⟨q1, fun σ' a na l3 => ?_⟩
    have nd : dd ≠ a := fun e => by rw [e, na] at hd; cases hd
    have s2 := step_new (o := ExT a (.ref C) (some dd)) na (st1.free na)
    refine ⟨_, μ', ev0, hearD Φ, ⟨by simp [l3], fun i d e => ?_⟩, st1.new na, xok0, q2, hear_ends k (s0.trans (s1.trans s2))⟩
    match i, e with
    | 0, e => simp at e
    | 2, e => simp at e
    | j + 3, e => simp at e
    | 1, e =>
      cases e
      refine ⟨.ref a, ?_, .exc (st1.free na) upd_same md (by rw [upd_ne nd]; exact hd) hl (ia.step s2)⟩
      rw [List.getElem?_set_ne (by decide), List.getElem?_set_self (by simp [l3])]
  · intro d μ' v H' q iv st1 s1
    refine hQ _ _ fun σ' l3 h1 => ⟨_, μ', ev0, hearD Φ, ⟨by simp [l3], fun i d e => ?_⟩, st1, xok0, q, hear_ends k (s0.trans s1)⟩
    match i, e with
    | 0, e => simp at e
    | 2, e => simp at e
    | j + 3, e => simp at e
    | 1, e => cases e; exact ⟨.non, h1, .non⟩
end
section
variable {X : Cx}
theorem ve_hearS {T : List (Addr × Str)} {x a y n ex : Str} {g c P : Addr} {k : Nat} {pg : Arguments} {bg : List Stmt} {sg : Scope} {dV kV doc pm cdv ct oc cE : Value} {an od : Option Addr} {osl : Array (Option Value)} {Ng : List Str} {rest : List Stmt} {r : WS} {j1 : _} {p1 p2 p3 p4 p5 p6 p7 p8 p9 p10 p11 p12 : Pos} {E : XK}
    {params : Arguments} {body : Expr} {scope : Scope} {w : WE} {q1 q2 q3 : Pos} (hg : Gl X x) (hm : X.mg x = some (.ref g)) (hk : PySem.W.keepIn X.K (.ref g) = true)
    (lk : X.K.lookup g = some ⟨oc, od, .func (PySem.W.fnOf x x pg bg sg dV kV doc pm an cdv ct), osl⟩) (hcg : PySem.W.codeIn X.K cdv x = true) (hb : L2.Binds X.K (PySem.W.fnOf x x pg bg sg dV kV doc pm an cdv ct) [a] []) (Sg : FnScope Ng [a] sg) (hva : Vis sg a)
    (ebg : bg = .Assign [.Name y p1] (.Constant .none j1 p2) p3 :: .Try [.Expr (.Call (.Name a p4) [] [] p5) p6] [.ExceptHandler (some (.Name ex p7)) (some n) [.Assign [.Name y p8] (.Name n p9) p10] p11] [] [] p12 :: rest)
    (hNg : Ng = [a, y, n]) (nd : Ng.Nodup) (hx1 : Loc sg y) (hx2 : sg.names.lookup y = some .local) (hx3 : sg.names.lookup n = some .local) (hn1 : (n == ("__debug__" : Str)) = false) (hn2 : (n == ("__classdict__" : Str)) = false)
    (hc : ∀ (s : Shared) (H : Hp), Names (cxOf C8.CX0 X.prog X.w X.K X.mg X.base Ng x sg g cdv X.A X.stack s H C8.E0).nox ex cE)
    (hrest : ∀ (s : Shared) (H : Hp), PSs (cxOf C8.CX0 X.prog X.w X.K X.mg X.base Ng x sg g cdv X.A X.stack s H C8.E0).nox rest (upS X.K T C8.E0 r))
    (TB : TabB X.base X.mg c P) (hcode : X.env.code = .ref c) (hmT : (P, X.env.qual ++ "<lambda>") ∈ T) (hu : ∀ b ∈ T, b.1 = P → b.2 = X.env.qual ++ "<lambda>") (hr : Room (k + 2) X.A) (gd : X.A.guards = some [])
    (L : LamS X.env.scope scope) (hd : defaultsOf params X.env = ([], []))
    (bind : ∀ (q : Str) (cl : List (Str × Addr)) (pm cv ctv : Value), bindArgs (PySem.W.kla_fn "<lambda>" q params body scope cl pm cv ctv) ⟨[], []⟩ = pure [])
    (inner : ∀ (A : Around) (outer : List Env) (s : Shared) (H : Hp) (E : XK) (f c' : Addr), (A.deeper (lamEnv X scope s.heap.objs.size f c')).guards = some [] → Room k (A.deeper (lamEnv X scope s.heap.objs.size f c')) → PE (lamCx X A outer s H E scope f c') body (up X.K T E w))
    (n1 : (x == ("__debug__" : Str)) = false := by decide) (n2 : (a == ("__debug__" : Str)) = false := by decide) (n3 : (a == ("__classdict__" : Str)) = false := by decide) :
    PE X (.Call (.Name x q1) [.Lambda params body scope q2] [] q3) (up X.K T E (wHear X.K cE r w)) := by
  subst ebg
  exact pe_mono (pe_lamcallSG hg hm hk lk hcg hb Sg (by rw [hNg]; rfl) hva (hear_gives hNg nd hx1 hx2 hx3 hn1 hn2 hc hrest) TB hcode hmT hu hr gd L hd bind inner n1 n2 n3) fun σ H Q h => hear_up h
end
end VL

set_option maxRecDepth 100000
set_option maxHeartbeats 4000000
/-! values as trees: the code object of a def that makes lambdas -/
namespace VL
open PySem L2 FW PyProof.Rows
theorem code_of {K : PySem.W.Frag} {x qual : Str} {params : Arguments} {body : List Stmt} {scope : Scope} {dvs : List V} {kws : List (Str × V)} {fd : FuncData} (F : FunD K x qual params body scope dvs kws (He.ga K x) fd) : fd.code = .ref (He.cT K (x, none)).1 := by
  obtain ⟨oc, od, dV, kV, doc, pm, an, cdv, ct, osl, rfl, lk, hcd, _, _⟩ := F.ex
  obtain ⟨cc, rfl⟩ := He.codeIn_ref hcd
  show Value.ref cc = .ref (He.codeOf K (x, none))
  rw [He.codeOf_eq (p := (x, none)) lk rfl]
theorem one_in {α β : Type} {a : α} {b : β} : (a, b) ∈ [(a, b)] := List.mem_cons_self ..
theorem one_only {α β : Type} {a : α} {b : β} : ∀ p ∈ [(a, b)], p.1 = a → p.2 = b := fun p hp _ => by rw [List.mem_singleton.mp hp]
end VL
namespace VL
open PySem L2 FW PyProof.Rows
section
variable {X : Cx} {T : List (Addr × Str)} {E : XK} {pos : Pos}
def wDic0 : WE := fun _ μ _ Φ => Φ (.dic [] []) μ
theorem ve_dic0 : PE X (.Dict [] [] pos) (up X.K T E wDic0) := pe_mono pe_dnewK fun σ H Q ⟨ρ, μ, ev, Φ, en, st, xo, h, k⟩ => fun p hp => k.dic h .nil rfl st p hp
end
end VL

set_option maxRecDepth 100000
set_option maxHeartbeats 4000000
/-! values as trees: a sequence of any kind, walked and unpacked -/
namespace VL
open PySem L2 FW PyProof.Rows
/-- a list, a tuple, or a list that may change -/
def SeqA (μ : Mu) (x : D) (ds : List D) : Prop := (fzL x = some ds ∨ tupOf x = some ds) ∨ ∃ a, x = .ref a ∧ μ a = some (.lst ds)
def iwA (w : WE) : WI := fun ρ μ ev Ψ => iwS w ρ μ ev Ψ ∨ iwM w ρ μ ev Ψ
section
variable {X : Cx} {T : List (Addr × Str)} {E : XK} {tg iter : Expr}
theorem vi_any {w : WE} (h : PE X iter (up X.K T E w)) : PI X tg iter (upI X.K T E (iwA w)) := ⟨fun pins s σ H R I ⟨ρ, μ, ev, Ψ, en, st, xo, h2, k⟩ => by
  rcases h2 with h2 | h2
  · exact (vi_seq h).run pins s σ H R I ⟨ρ, μ, ev, Ψ, en, st, xo, h2, k⟩
  · exact (vi_mut h).run pins s σ H R I ⟨ρ, μ, ev, Ψ, en, st, xo, h2, k⟩⟩
def wGLst (n : Nat) (gs : WGs) : WG := fun d ρ μ ev Φ => ∃ ds, (fzL d = some ds ∨ lstOf μ d = some ds) ∧ ds.length = n ∧ gs ds ρ μ ev Φ
theorem vg_lst {es : List Expr} {kk : Nat} {n : Nat} {gs : WGs} {pos : Pos} (p : ∀ t : TGs, PGs X es t → PG X (.Tuple es kk pos) (gLst X.K n t)) (h : PGs X es (upGs X.K T E gs)) : PG X (.Tuple es kk pos) (upG X.K T E (wGLst n gs)) :=
  pg_mono (p _ h) fun v σ H Q ⟨d, ρ, μ, ev, Φ, iv, en, st, xo, ⟨ds, e, hl, h⟩, k⟩ => by
    obtain ⟨a, us, rfl, sq, i⟩ := sqL_of st iv e
    exact ⟨_, _, rfl, sq, by rw [i.len]; exact hl, _, ρ, μ, ev, Φ, i, en, st, xo, h, k⟩
def wGAny (n : Nat) (gs : WGs) : WG := fun d ρ μ ev Φ => ∃ ds, (tupOf d = some ds ∨ (fzL d = some ds ∨ lstOf μ d = some ds)) ∧ ds.length = n ∧ gs ds ρ μ ev Φ
theorem vg_any {es : List Expr} {kk : Nat} {n : Nat} {gs : WGs} {pos : Pos} (p : ∀ t : TGs, PGs X es t → PG X (.Tuple es kk pos) (gTup X.K n t)) (p2 : ∀ t : TGs, PGs X es t → PG X (.Tuple es kk pos) (gLst X.K n t)) (h : PGs X es (upGs X.K T E gs)) : PG X (.Tuple es kk pos) (upG X.K T E (wGAny n gs)) := ⟨fun pins s σ H v u Q I r ⟨d, ρ, μ, ev, Φ, iv, en, st, xo, ⟨ds, e, hl, hh⟩, k⟩ => by
  rcases e with e | e
  · exact (vg_tup p h).run pins s σ H v u Q I r ⟨d, ρ, μ, ev, Φ, iv, en, st, xo, ⟨ds, e, hl, hh⟩, k⟩
  · exact (vg_lst p2 h).run pins s σ H v u Q I r ⟨d, ρ, μ, ev, Φ, iv, en, st, xo, ⟨ds, e, hl, hh⟩, k⟩⟩
end
section
variable {μ μ' : Mu} {x : D} {ds : List D} {F : List Addr}
theorem SeqA.seq (h : SeqA μ x ds) : seqOf μ x = some ds := by
  rcases h with (h | h) | ⟨a, rfl, h⟩
  · cases x <;> simp [fzL] at h <;> subst h <;> rfl
  · cases x <;> simp [tupOf] at h <;> subst h <;> rfl
  · exact seqOf_of h
theorem SeqA.any (h : SeqA μ x ds) : tupOf x = some ds ∨ (fzL x = some ds ∨ lstOf μ x = some ds) := by
  rcases h with (h | h) | ⟨a, rfl, h⟩
  · exact .inr (.inl h)
  · exact .inl h
  · refine .inr (.inr ?_)
    show (match μ a with | some (.lst ds) => some ds | _ => none) = _
    rw [h]
/-- walked, with no change of the list itself -/
theorem iwA_at {i : Nat} {ρ : Ro} {ev : EV} {Ψ : List D → (Mu → Prop) → Mu → Prop} (e : ρ[i]? = some (some x)) (h : SeqA μ x ds) (k : ∀ P : Mu → Prop, (∀ μ', (∀ a, x = .ref a → μ' a = μ a) → P μ') → Ψ ds P μ) : iwA (wVar i) ρ μ ev Ψ := by
  rcases h with h | ⟨a, rfl, h⟩
  · exact .inl ⟨x, e, ds, h, k _ fun _ _ => trivial⟩
  · exact .inr ⟨.ref a, e, a, ds, rfl, h, k _ fun μ' hk => by rw [hk a rfl]; exact h⟩
theorem SeqA.same (s : ∀ a, x = .ref a → μ' a = μ a) (h : SeqA μ x ds) : SeqA μ' x ds := by
  rcases h with h | ⟨a, e, h⟩
  · exact .inl h
  · exact .inr ⟨a, e, by rw [s a e]; exact h⟩
/-- what stands in the store, of values of the kinds that isinstance knows -/
theorem kd_ref {a : Addr} (h : Kd μ (.ref a)) : μ a ≠ none := fun e => by
  obtain ⟨t, h⟩ := h
  simp only [tyD, e] at h
  cases h
theorem tyD_same (h : ∀ a, x = .ref a → μ' a = μ a) : tyD μ' x = tyD μ x := by
  cases x <;> try rfl
  rename_i a
  simp only [tyD, h a rfl]
theorem seqOf_same (h : ∀ a, x = .ref a → μ' a = μ a) : seqOf μ' x = seqOf μ x := by
  cases x <;> try rfl
  rename_i a
  simp only [seqOf, h a rfl]
theorem isLst_same (h : ∀ a, x = .ref a → μ' a = μ a) : isLst μ' x = isLst μ x := by unfold isLst; rw [tyD_same h]
theorem Kd.set_same {Ds : Addr} {m : MO} (k : Kd μ x) (n : μ Ds = none) : ∀ a, x = .ref a → (μ.set Ds m) a = μ a := fun a e => by
  subst e
  exact Mu.ne fun e => kd_ref k (by rw [e]; exact n)
end
end VL

set_option maxRecDepth 100000
set_option maxHeartbeats 4000000
/-! values as trees: a comprehension whose items change the store -/
namespace VL
open PySem L2 FW PyProof.Rows
theorem lcW_inv {P : Mu → Prop} {p : Pat} {w : WE} {vs : List Nat} {ρ : Ro} {ev : EV} {Φ : WK} {Ds : Addr} {ds : List D} (Inv : Nat → List D → Mu → Prop) (hl : ds.length ≤ sizeLine)
    (h : ∀ i d acc μ (Ψ : WK), ds[i]? = some d → acc.length = i → μ Ds = some (.lst acc) → Inv i acc μ → (∀ y μ', μ' Ds = some (.lst acc) → Inv (i + 1) (acc ++ [y]) (μ'.set Ds (.lst (acc ++ [y]))) → Ψ y μ') → P μ ∧ ∃ ρ1, p.bind d (wipeR ρ vs) = some ρ1 ∧ w ρ1 μ ev Ψ)
    (q : ∀ acc μ, acc.length = ds.length → μ Ds = some (.lst acc) → Inv ds.length acc μ → P μ ∧ Φ (.ref Ds) μ) {μ0 : Mu} (e0 : μ0 Ds = some (.lst [])) (h0 : Inv 0 [] μ0) : lcW P p wYes w vs ρ ev Ds Φ ds μ0 := by
  have go : ∀ (rest : List D) (acc : List D) (μ : Mu), ds.drop acc.length = rest → acc.length ≤ ds.length → μ Ds = some (.lst acc) → Inv acc.length acc μ → lcW P p wYes w vs ρ ev Ds Φ rest μ := by
    intro rest
    induction rest with
    | nil =>
      intro acc μ hd hn e hI
      have : acc.length = ds.length := by
        have := congrArg List.length hd
        simp at this
        omega
      rw [this] at hI
      exact q acc μ this e hI
    | cons d rest ih =>
      intro acc μ hd hn e hI
      have hlt : acc.length < ds.length := by
        have := congrArg List.length hd
        simp at this
        omega
      have hd2 : ds[acc.length]? = some d := by
        have := congrArg (fun l => l[0]?) hd
        simpa using this
      have hk := h acc.length d acc μ (fun y μ2 => ∃ acc2, μ2 Ds = some (.lst acc2) ∧ acc2.length < sizeLine ∧ lcW P p wYes w vs ρ ev Ds Φ rest (μ2.set Ds (.lst (acc2 ++ [y])))) hd2 rfl e hI fun y μ' e' hI' => ⟨acc, e', by omega, ih (acc ++ [y]) _ (by
        rw [List.length_append, ← List.drop_drop, hd]; rfl) (by simp; omega) Mu.same (by simpa using hI')⟩
      obtain ⟨hp, ρ1, hb, hw⟩ := hk
      exact ⟨hp, ρ1, hb, by simp only [wYes, if_true]; exact hw⟩
  exact go ds [] μ0 rfl (Nat.zero_le _) e0 h0
end VL

set_option maxRecDepth 100000
set_option maxHeartbeats 4000000
/-! values as trees: three names at once -/
namespace VL
open PySem L2 FW PyProof.Rows
section
variable {X : Cx} {T : List (Addr × Str)} {E : XK}
def wPar3 (i j l : Nat) (w : WA) : WS := fun DD ρ μ ev => w ρ μ ev fun ds μ1 => ∃ c d e, ds = [c, d, e] ∧ DD.nx (((ρ.set i (some c)).set j (some d)).set l (some e)) μ1
theorem vs_par3 {i j l : Nat} {s : Stmt} {w : WA} (h : PS X s (tPar3 i j l (upA X.K T E w))) : PS X s (upS X.K T E (wPar3 i j l w)) :=
  ps_mono h fun Dn σ H ⟨ρ, μ, ev, DD, en, st, xo, h, k⟩ => ⟨ρ, μ, ev, _, en, st, xo, h, fun ds μ1 vs H1 ⟨c, d, e, q, hd⟩ iv st1 s1 => by
    subst q
    cases iv with
    | cons a b => cases b with
      | cons b c => cases c with
        | cons c z => cases z; exact ⟨_, _, _, rfl, (k.step s1).nx hd ((((en.step s1).set i a).set j b).set l c) st1⟩⟩
end
end VL

set_option maxRecDepth 100000
set_option maxHeartbeats 4000000
/-! values as trees: a comprehension with a test, both of which change the store -/
namespace VL
open PySem L2 FW PyProof.Rows
theorem lcW_invT {P : Mu → Prop} {p : Pat} {t : WT} {w : WE} {vs : List Nat} {ρ : Ro} {ev : EV} {Φ : WK} {Ds : Addr} {ds : List D} (Inv : Nat → List D → Mu → Prop) (hl : ds.length ≤ sizeLine)
    (h : ∀ i d acc μ (Ψ : WK) (Ψ0 : Mu → Prop), ds[i]? = some d → acc.length ≤ i → μ Ds = some (.lst acc) → Inv i acc μ → (∀ y μ', μ' Ds = some (.lst acc) → Inv (i + 1) (acc ++ [y]) (μ'.set Ds (.lst (acc ++ [y]))) → Ψ y μ') → (∀ μ', μ' Ds = some (.lst acc) → Inv (i + 1) acc μ' → Ψ0 μ') → P μ ∧ ∃ ρ1, p.bind d (wipeR ρ vs) = some ρ1 ∧ t ρ1 μ ev fun b μ1 => if b = true then w ρ1 μ1 ev Ψ else Ψ0 μ1)
    (q : ∀ acc μ, acc.length ≤ ds.length → μ Ds = some (.lst acc) → Inv ds.length acc μ → P μ ∧ Φ (.ref Ds) μ) {μ0 : Mu} (e0 : μ0 Ds = some (.lst [])) (h0 : Inv 0 [] μ0) : lcW P p t w vs ρ ev Ds Φ ds μ0 := by
  have go : ∀ (rest : List D) (i : Nat) (acc : List D) (μ : Mu), ds.drop i = rest → i ≤ ds.length → acc.length ≤ i → μ Ds = some (.lst acc) → Inv i acc μ → lcW P p t w vs ρ ev Ds Φ rest μ := by
    intro rest
    induction rest with
    | nil =>
      intro i acc μ hd hi hn e hI
      have : i = ds.length := by
        have := congrArg List.length hd
        simp at this
        omega
      rw [this] at hI
      exact q acc μ (by omega) e hI
    | cons d rest ih =>
      intro i acc μ hd hi hn e hI
      have hlt : i < ds.length := by
        have := congrArg List.length hd
        simp at this
        omega
      have hd2 : ds[i]? = some d := by
        have := congrArg (fun l => l[0]?) hd
        simpa using this
      have hd3 : ds.drop (i + 1) = rest := by
        rw [← List.drop_drop, hd]; rfl
      exact h i d acc μ (fun y μ2 => ∃ acc2, μ2 Ds = some (.lst acc2) ∧ acc2.length < sizeLine ∧ lcW P p t w vs ρ ev Ds Φ rest (μ2.set Ds (.lst (acc2 ++ [y])))) (fun μ2 => lcW P p t w vs ρ ev Ds Φ rest μ2) hd2 hn e hI
        (fun y μ' e' hI' => ⟨acc, e', by omega, ih (i + 1) (acc ++ [y]) _ hd3 hlt (by simp; omega) Mu.same hI'⟩) (fun μ' e' hI' => ih (i + 1) acc _ hd3 hlt (by omega) e' hI')
  exact go ds 0 [] μ0 rfl (Nat.zero_le _) (Nat.zero_le _) e0 h0
end VL

set_option maxRecDepth 100000
set_option maxHeartbeats 4000000
/-! a list's slice with a step: xs[lo::c] -/
namespace FW
open PySem PySem.Spec PyProof.Rows L2
def pickS {α : Type} (lo c : Int) (xs : List α) : List α := (sliceRange (sliceBounds (some lo) none (some c) xs.length).1 (sliceBounds (some lo) none (some c) xs.length).2.1 (sliceBounds (some lo) none (some c) xs.length).2.2).filterMap (xs[·]?)
theorem vals_get {vs : List V} {us : List Value} (h : Vals vs us) : ∀ {i : Nat} {v : V}, vs[i]? = some v → ∃ u, us[i]? = some u ∧ RelV v u := by
  induction h with
  | nil => intro i v e; simp at e
  | cons a b ih =>
    intro i v e
    cases i with
    | zero => simp at e; subst e; exact ⟨_, rfl, a⟩
    | succ i => simp at e; obtain ⟨u, h1, h2⟩ := ih e; exact ⟨u, by simpa using h1, h2⟩
theorem vals_pick {vs : List V} {us : List Value} (h : Vals vs us) : ∀ is : List Nat, Vals (is.filterMap (vs[·]?)) (is.filterMap (us[·]?))
  | [] => .nil
  | i :: is => by
    rw [List.filterMap_cons, List.filterMap_cons]
    cases e : vs[i]? with
    | none =>
      have : us[i]? = none := List.getElem?_eq_none (by rw [← h.length]; exact List.getElem?_eq_none_iff.mp e)
      rw [this]
      exact vals_pick h is
    | some v =>
      obtain ⟨u, e2, r⟩ := vals_get h e
      rw [e2]
      exact .cons r (vals_pick h is)
def tSlS (K : PySem.W.Frag) (lo c : Int) (te : TE) : TE := fun σ H Q => te σ H fun x H1 => ∃ a xs, x = .ref a ∧ SqL K H1 a xs ∧ ∀ p, H1 p = none → Q (.ref p) (upd H1 p (.lst (pickS lo c xs)))
variable {X : Cx}
theorem pe_slS {e : Expr} {te : TE} {lo c : Int} {j1 j2 : _} {q1 q2 p3 pos : Pos} (hc : c ≠ 0) (he : PE X e te) : PE X (.Subscript e (.Slice (some (.Constant (.int lo) j1 q1)) none (some (.Constant (.int c) j2 q2)) p3) pos) (tSlS X.K lo c te) := by
  refine ⟨fun pins s σ H Q I h => ?_⟩
  refine Subscript_ (thn (he.run pins s σ H _ I h) fun v s1 ⟨x, H1, I1, r1, q1⟩ => ?_)
  obtain ⟨a, xs, ex, hx, q⟩ := q1
  subst ex
  cases r1
  have hlo : PO X (some (.Constant (.int lo) j1 q1)) (tPart (tC (.int lo))) := po_some pe_int
  have hst : PO X (some (.Constant (.int c) j2 q2)) (tPart (tC (.int c))) := po_some pe_int
  refine wpAny_Slice (thn (hlo.run pins s1 σ H1 (fun o H2 => o = some lo ∧ H2 = H1) I1 ⟨lo, rfl, rfl, rfl⟩) fun vl s2 ⟨l, H2, I2, pl, el, e2⟩ => ?_)
  subst el e2
  refine thn (po_none.run pins s2 σ H2 (fun o H3 => o = none ∧ H3 = H2) I2 ⟨rfl, rfl⟩) fun vu s3 ⟨u, H3, I3, pu, eu, e3⟩ => ?_
  subst eu e3
  refine thn (hst.run pins s3 σ H3 (fun o H4 => o = some c ∧ H4 = H3) I3 ⟨c, rfl, rfl, rfl⟩) fun vs s4 ⟨o, H4, I4, ps, eo, e4⟩ => ?_
  subst eo e4
  have I5 : Inv X pins σ H4 { s4 with heap := s4.heap.push { cls := .type "slice", data := .fields #[vl, vu, vs] } } := I4.kept (t' := s4.toks) fun b ob q => Heap.get?_push_of_some _ q
  obtain ⟨its, r, ht, hz⟩ := I5.list hx
  have hlen := r.length
  refine tail_any (ops := [.ref a, .ref s4.heap.objs.size]) ht.isList.typeIs (PySem.slot_list_getitem.lookup) ?_ (by with_unfolding_all rfl)
  refine wpAny_getItem_list_slice ht.isList (Heap.IsSliceOf.new _ vl vu vs) pl pu ps (by simpa using hc) ?_ (by rw [List.size_toArray]; omega)
  have ep : slicePick its.toArray (some lo) none (some c) = (pickS lo c its).toArray := by
    unfold slicePick pickS
    simp
  have sz := slicePick_size_le its.toArray (some lo) none (some c)
  rw [ep] at sz ⊢
  refine ⟨.ref _, _, I5.laid (t' := s4.toks) (o := .lst (pickS lo c xs)) (fun b ob q => Heap.get?_push_of_some _ q) (Nat.le_refl _) ?_, rfl, q _ (I5.hok.fresh (Nat.le_refl _))⟩
  have rp : Vals (pickS lo c xs) (pickS lo c its) := by
    unfold pickS
    rw [r.length]
    exact vals_pick r _
  refine ⟨?_, _, 0, rp, Heap.get?_push_size _ rfl⟩
  rw [rp.length]
  simp at sz
  omega
end FW
namespace VL
open PySem L2 FW PyProof.Rows
theorem isAll_pick {K : PySem.W.Frag} {μ : Mu} {H : Hp} {vs : List V} {ds : List D} (h : IsAll K μ H vs ds) : ∀ is : List Nat, IsAll K μ H (is.filterMap (vs[·]?)) (is.filterMap (ds[·]?))
  | [] => .nil
  | i :: is => by
    rw [List.filterMap_cons, List.filterMap_cons]
    cases e : ds[i]? with
    | none =>
      have : vs[i]? = none := List.getElem?_eq_none (by rw [h.len]; exact List.getElem?_eq_none_iff.mp e)
      rw [this]
      exact isAll_pick h is
    | some d =>
      obtain ⟨v, e2, r⟩ := h.get e
      rw [e2]
      exact .cons r (isAll_pick h is)
def wSlS (lo c : Int) (w : WE) : WE := fun ρ μ ev Φ => w ρ μ ev fun d μ1 => ∃ ds, (fzL d = some ds ∨ lstOf μ1 d = some ds) ∧ Φ (.lst (pickS lo c ds)) μ1
theorem ve_slS {X : Cx} {T : List (Addr × Str)} {E : XK} {e : Expr} {w : WE} {lo c : Int} {j1 j2 : _} {q1 q2 p3 pos : Pos} (hc : c ≠ 0) (he : PE X e (up X.K T E w)) : PE X (.Subscript e (.Slice (some (.Constant (.int lo) j1 q1)) none (some (.Constant (.int c) j2 q2)) p3) pos) (up X.K T E (wSlS lo c w)) :=
  pe_mono (pe_slS hc he) fun σ H Q ⟨ρ, μ, ev, Φ, en, st, xo, h, k⟩ => ⟨ρ, μ, ev, _, en, st, xo, h, fun d μ1 v H1 ⟨ds, e, q⟩ iv st1 s1 => by
    obtain ⟨a, us, rfl, sq, i⟩ := sqL_of st1 iv e
    refine ⟨a, us, rfl, sq, fun p hp => ?_⟩
    have ip : IsAll X.K μ1 H1 (pickS lo c us) (pickS lo c ds) := by
      unfold pickS
      rw [i.len]
      exact isAll_pick i _
    exact (k.step s1).lst q ip st1 p hp⟩
end VL

set_option maxRecDepth 100000
set_option maxHeartbeats 4000000
/-! a tuple some times -/
namespace VL
open PySem PySem.Spec PyProof.Rows L2 FW
def vRepT : V2 := fun x y μ Φ => ∃ ds k, tupOf x = some ds ∧ y = .int k ∧ ds ≠ [] ∧ 2 ≤ k ∧ k ≤ 1000 ∧ ds.length ≤ 1000 ∧ Φ (.tup (List.replicate k.toNat ds).flatten) μ
theorem s_repT {K : PySem.W.Frag} {T : List (Addr × Str)} : Sim2 K T (rRepT K) vRepT := fun x y v w μ H Φ Q ix iy st ⟨ds, n, e1, e2, ne, n1, n2, hl, q⟩ k => by
  subst e2; cases iy
  cases x with
  | tup es =>
    simp only [tupOf, Option.some.injEq] at e1; subst e1
    cases ix with
    | tup at_ i => exact ⟨_, n, _, rfl, rfl, at_.sq, fun e => ne (by have := i.len; rw [e] at this; exact List.eq_nil_of_length_eq_zero this.symm), n1, n2, by rw [i.len]; exact hl, fun p hp => k.tup q (i.rep _) st p hp⟩
  | _ => simp [tupOf] at e1
end VL

set_option maxRecDepth 100000
set_option maxHeartbeats 4000000
/-! dicts that may change, with keys ints and texts: displays, subscripts, sets of keys that are there -/
namespace VL
open PySem PySem.Spec PyProof.Rows L2 FW
variable {K : PySem.W.Frag} {T : List (Addr × Str)}
theorem units1 {k : Nat} {A : Around} (hr : Room k A) : A.units + 1 < cLine := by have := hr.units; omega
def dicOf (μ : Mu) : D → Option (List Key × List D)
  | .dic ks ds => some (ks, ds)
  | .ref a => match μ a with
    | some (.dic ks ds) => some (ks, ds)
    | _ => none
  | _ => none
theorem dicOf_ref {μ : Mu} {a : Addr} {ks : List Key} {ds : List D} (e : dicOf μ (.ref a) = some (ks, ds)) : μ a = some (.dic ks ds) := by
  have e2 : (match μ a with | some (.dic ks ds) => some (ks, ds) | _ => none) = some (ks, ds) := e
  cases q : μ a with
  | none => rw [q] at e2; cases e2
  | some m => rw [q] at e2; cases m <;> first | (cases e2; rfl) | cases e2
theorem dicOf_of {μ : Mu} {a : Addr} {ks : List Key} {ds : List D} (e : μ a = some (.dic ks ds)) : dicOf μ (.ref a) = some (ks, ds) := by show (match μ a with | some (.dic ks ds) => some (ks, ds) | _ => none) = some (ks, ds); rw [e]
theorem is_dic {μ : Mu} {H : Hp} (st : Sto K T μ H) {v : V} {d : D} {ks : List Key} {ds : List D} (h : Is K μ H v d) (e : dicOf μ d = some (ks, ds)) : ∃ a vs, v = .ref a ∧ H a = some (.dK (ks.zip vs)) ∧ ks.length = vs.length ∧ IsAll K μ H vs ds := by
  cases h with
  | dic m h l i => simp [dicOf] at e; obtain ⟨rfl, rfl⟩ := e; exact ⟨_, _, rfl, h, l, i⟩
  | ref a =>
    obtain ⟨vs, h1, h2, h3⟩ := st.mo _ _ (dicOf_ref e)
    exact ⟨_, vs, rfl, h1, h2, h3⟩
  | _ => simp [dicOf] at e
def keyOf : D → Option Key
  | .int i => some (.inl i)
  | .str s => some (.inr s)
  | _ => none
theorem key_is {μ : Mu} {H : Hp} {v : V} {d : D} {k : Key} (h : Is K μ H v d) (e : keyOf d = some k) : v = kV k := by
  cases h <;> simp [keyOf] at e
  · subst e; rfl
  · subst e; rfl
def lookKD (k : Key) : List Key → List D → Option D
  | x :: ks, d :: ds => if x = k then some d else lookKD k ks ds
  | _, _ => none
theorem valV_look {μ : Mu} {H : Hp} {k : Key} {d : D} : ∀ {ks : List Key} {vs : List V} {ds : List D}, IsAll K μ H vs ds → lookKD k ks ds = some d → ∃ v, valV (ks.zip vs) k = some v ∧ Is K μ H v d
  | [], _, _, _, e => by cases e
  | x :: ks, _, _, .nil, e => by cases e
  | x :: ks, v :: vs, y :: ds, .cons i c, e => by
    unfold lookKD at e
    by_cases q : x = k
    · rw [if_pos q] at e
      cases e
      exact ⟨v, by rw [List.zip_cons_cons, valV_pos q], i⟩
    · rw [if_neg q] at e
      obtain ⟨w, e1, e2⟩ := valV_look c e
      exact ⟨w, by rw [List.zip_cons_cons]; unfold valV at e1 ⊢; rw [List.find?_cons, decide_eq_false q]; exact e1, e2⟩
def vDIx : V2 := fun x y μ Φ => ∃ ks ds k d, dicOf μ x = some (ks, ds) ∧ keyOf y = some k ∧ lookKD k ks ds = some d ∧ Φ d μ
theorem ve_dget {X : Cx} {E : XK} {o i : Expr} {wo wi : WE} {pos : Pos} (hu : X.A.units + 1 < cLine) (ho : PE X o (up X.K T E wo)) (hi : PE X i (up X.K T E wi)) (hs : NoSl i := by exact fun _ _ => rfl) : PE X (.Subscript o i pos) (up X.K T E (wOp vDIx wo wi)) :=
  pe_mono (pe_dget hu ho hi hs) fun σ H Q ⟨ρ, μ, ev, Φ, en, st, xo, h, k⟩ => ⟨ρ, μ, ev, _, en, st, xo, h, fun x μ1 v H1 hx ix st1 s1 =>
    ⟨ρ, μ1, ev, _, en.step s1, st1, xo.step s1, hx, fun y μ2 w H2 hy iy st2 s2 => by
      obtain ⟨ks, ds, kk, d, e1, e2, e3, q⟩ := hy
      obtain ⟨a, vs, rfl, h1, h2, h3⟩ := is_dic st2 (ix.step s2) e1
      obtain ⟨u, f1, f2⟩ := valV_look h3 e3
      have := key_is iy e2
      subst this
      exact ⟨a, u, rfl, by rw [← f1]; exact DGet.k h1, k d μ2 u H2 q f2 st2 (s1.trans s2)⟩⟩⟩
def putX2 {α : Type} (k : Key) (x : α) : List Key → List α → List α
  | y :: ks, a :: as => (if y = k then x else a) :: putX2 k x ks as
  | _, as => as
theorem put_isAll {μ : Mu} {H : Hp} {k : Key} {v : V} {d : D} (h : Is K μ H v d) : ∀ {ks : List Key} {vs : List V} {ds : List D}, IsAll K μ H vs ds → IsAll K μ H (putX2 k v ks vs) (putX2 k d ks ds)
  | [], _, _, i => by cases i with | nil => exact .nil | cons a b => exact .cons a b
  | y :: ks, _, _, .nil => .nil
  | y :: ks, _, _, .cons i c => by
    unfold putX2
    by_cases q : y = k
    · rw [if_pos q, if_pos q]; exact .cons h (put_isAll h c)
    · rw [if_neg q, if_neg q]; exact .cons i (put_isAll h c)
theorem put_len2 {α : Type} {k : Key} {x : α} : ∀ {ks : List Key} {as : List α}, (putX2 k x ks as).length = as.length
  | [], _ => rfl
  | _ :: _, [] => rfl
  | y :: ks, a :: as => by unfold putX2; rw [List.length_cons, List.length_cons, put_len2]
theorem put_map {k : Key} {v : V} : ∀ {ks : List Key} {vs : List V}, ((ks.zip vs).map fun kv => if kv.1 = k then (kv.1, v) else kv) = ks.zip (putX2 k v ks vs)
  | [], _ => rfl
  | _ :: _, [] => rfl
  | y :: ks, u :: vs => by
    unfold putX2
    rw [List.zip_cons_cons, List.map_cons, List.zip_cons_cons, put_map]
    congr 1
    by_cases q : y = k
    · rw [if_pos q, if_pos q]
    · rw [if_neg q, if_neg q]
theorem put_there {k : Key} {v : V} {ks : List Key} {vs : List V} (l : ks.length = vs.length) (h : k ∈ ks) : putK (ks.zip vs) k v = ks.zip (putX2 k v ks vs) := by
  unfold putK
  rw [if_pos, put_map]
  rw [List.any_eq_true]
  obtain ⟨i, hi, e⟩ := List.mem_iff_getElem.mp h
  refine ⟨(k, vs[i]'(by omega)), ?_, by simp⟩
  rw [List.mem_iff_getElem]
  exact ⟨i, by rw [List.length_zip]; omega, by rw [List.getElem_zip, e]⟩
def vDSet : VSet := fun o i d μ Φ => ∃ a ks ds k, o = .ref a ∧ keyOf i = some k ∧ μ a = some (.dic ks ds) ∧ k ∈ ks ∧ ks.length < sizeLine ∧ Φ (μ.set a (.dic ks (putX2 k d ks ds)))
theorem s_setD : SimSet K T rSetD vDSet := fun o i d vo vi vd μ H Φ Q io ii id st ⟨a, ks, ds, kk, e1, e2, hm, hk, hl, q⟩ k => by
  subst e1; cases io
  have := key_is ii e2
  subst this
  obtain ⟨vs, h1, h2, h3⟩ := st.mo _ _ hm
  have s := step_set (H := H) (m' := .dic ks (putX2 kk d ks ds)) (o := .dK (ks.zip (putX2 kk vd ks vs))) hm
  refine ⟨a, _, rfl, DPut.k h1 (by rw [List.length_zip]; omega), ?_⟩
  rw [put_there h2 hk]
  exact k _ _ q (st.set (m' := .dic ks (putX2 kk d ks ds)) hm ⟨_, upd_same, by rw [put_len2]; exact h2, (put_isAll id h3).step s⟩) s
/-! ### displays -/
def upP (K : PySem.W.Frag) (T : List (Addr × Str)) (E : XK) (ks : List Str) (wa : WA) : L2.St → Hp → (List (V × V) → Hp → Prop) → Prop := fun σ H Q => ∃ ρ μ ev Φ, Sl K μ H σ ρ ∧ Sto K T μ H ∧ XOk K T μ H ev E ∧ wa ρ μ ev Φ ∧
  ∀ ds μ' vs H', Φ ds μ' → IsAll K μ' H' vs ds → ks.length = vs.length → Sto K T μ' H' → Step μ H μ' H' → Q ((ks.zip vs).map fun p => (V.str p.1, p.2)) H'
def PPd (X : Cx) (T : List (Addr × Str)) (E : XK) (pos : Pos) (keys : List (Option Expr)) (values : List Expr) (ks : List Str) (wa : WA) : Prop := ∃ trs, PPs X pos keys values trs ∧ ∀ σ H Q, upP X.K T E ks wa σ H Q → tPairs trs σ H Q
variable {X : Cx} {E : XK} {pos : Pos}
theorem vpp_nil : PPd X T E pos [] [] [] wNil := ⟨[], pps_nil, fun σ H Q ⟨ρ, μ, ev, Φ, en, st, xo, h, k⟩ => k [] μ [] H h .nil rfl st (Step.refl _ _)⟩
theorem vpp_cons {kx v : Expr} {z : Str} {w : WE} {ks : List (Option Expr)} {vs : List Expr} {zs : List Str} {wa : WA} (hk : PE X kx (up X.K T E (wC (.str z)))) (hv : PE X v (up X.K T E w)) (hr : PPd X T E pos ks vs zs wa) : PPd X T E pos (some kx :: ks) (v :: vs) (z :: zs) (wCons w wa) := by
  obtain ⟨trs, hp, hs⟩ := hr
  refine ⟨(_, _) :: trs, pps_cons hk hv hp, fun σ H Q ⟨ρ, μ, ev, Φ, en, st, xo, h, k⟩ => ?_⟩
  refine ⟨ρ, μ, ev, fun d μ' => d = .str z ∧ μ' = μ, en, st, xo, ⟨rfl, rfl⟩, fun d μ' u H1 ⟨e1, e2⟩ iv st1 s1 => ?_⟩
  subst e1 e2
  cases iv
  exact ⟨ρ, _, ev, _, en.step s1, st1, xo.step s1, h, fun x μ1 y H2 hx iy st2 s2 => hs σ H2 _ ⟨ρ, μ1, ev, _, en.step (s1.trans s2), st2, xo.step (s1.trans s2), hx, fun ds μ2 vs H3 hd ia hl st3 s3 => k _ μ2 (y :: vs) H3 hd (.cons (iy.step s3) ia) (by rw [List.length_cons, List.length_cons, hl]) st3 (s1.trans (s2.trans s3))⟩⟩
theorem merge_new : ∀ (more acc : List (Key × V)), (acc ++ more).map (·.1) |>.Nodup → mergeK acc more = acc ++ more
  | [], acc, _ => by simp [mergeK]
  | p :: more, acc, h => by
    have hp : valV acc p.1 = none := by
      unfold valV
      rw [Option.map_eq_none_iff, List.find?_eq_none]
      intro x hx e
      rw [List.map_append, List.map_cons, List.nodup_append] at h
      exact h.2.2 x.1 (List.mem_map.mpr ⟨x, hx, rfl⟩) p.1 (List.mem_cons_self ..) (of_decide_eq_true e)
    show mergeK (putK acc p.1 p.2) more = _
    rw [putK_new _ hp, merge_new more (acc ++ [(p.1, p.2)]) (by rw [List.append_assoc]; exact h), List.append_assoc]; rfl
def wDispM (ks : List Str) (wa : WA) : WE := fun ρ μ ev Φ => ∀ p, μ p = none → wa ρ (μ.set p (.dic [] [])) ev fun ds μ1 => μ1 p = some (.dic [] []) ∧ Φ (.ref p) (μ1.set p (.dic (ks.map .inr) ds))
theorem zip_inr (ks : List Str) (vs : List V) : ((ks.zip vs).map fun p => ((.inr p.1 : Key), p.2)) = (ks.map .inr).zip vs := by
  induction ks generalizing vs with
  | nil => rfl
  | cons x ks ih =>
    cases vs with
    | nil => rfl
    | cons v vs => rw [List.zip_cons_cons, List.map_cons, ih, List.map_cons, List.zip_cons_cons]
theorem ve_dispM {keys : List (Option Expr)} {values : List Expr} {ks : List Str} {wa : WA} (h : PPd X T E pos keys values ks wa) (hall : keys.all (·.isSome) = true) (hl : keys.length = values.length) (h0 : keys ≠ []) (h15 : keys.length ≤ 15) (k15 : ks.length ≤ 15) (nd : ks.Nodup) :
    PE X (.Dict keys values pos) (up X.K T E (wDispM ks wa)) := by
  obtain ⟨trs, hp, hs⟩ := h
  refine pe_mono (pe_disp hp hall hl h0 h15) fun σ H Q ⟨ρ, μ, ev, Φ, en, st, xo, h, k⟩ p hpn => ?_
  have s := step_newM (μ := μ) (m := .dic [] []) (o := .dK []) hpn
  have st1 : Sto X.K T (μ.set p (.dic [] [])) (upd H p (.dK [])) := st.newM hpn ⟨[], upd_same, rfl, .nil⟩
  refine hs σ _ _ ⟨ρ, μ.set p (.dic [] []), ev, _, en.step s, st1, xo.step s, h p (st.free hpn), fun ds μ1 vs H1 hq ia hl2 st2 s2 => ?_⟩
  obtain ⟨hm, q⟩ := hq
  refine ⟨?_, (ks.zip vs).map fun p => ((.inr p.1 : Key), p.2), ?_, ?_, ?_⟩
  · obtain ⟨us, h1, _⟩ := st2.mo _ _ hm
    rw [h1]; rfl
  · rw [List.map_map]; rfl
  · rw [List.length_map, List.length_zip]; omega
  · have e : mergeK [] ((ks.zip vs).map fun p => ((.inr p.1 : Key), p.2)) = (ks.map .inr).zip vs := by
      rw [merge_new _ [] (by
        rw [List.nil_append, zip_inr, List.map_fst_zip (by rw [List.length_map]; omega)]
        exact List.pairwise_map.mpr (nd.imp fun h e => h (Sum.inr.inj e))), List.nil_append, zip_inr]
    rw [e]
    have s3 := step_set (H := H1) (m' := .dic (ks.map .inr) ds) (o := .dK ((ks.map .inr).zip vs)) hm
    exact k _ _ _ _ q (.ref p) (st2.set (m' := .dic (ks.map .inr) ds) hm ⟨vs, upd_same, by rw [List.length_map]; exact hl2, ia.step s3⟩) (s.trans (s2.trans s3))
end VL

set_option maxRecDepth 100000
set_option maxHeartbeats 4000000
/-! range with a step -/
namespace VL
open PySem PySem.Spec PyProof.Rows L2 FW
variable {X : Cx} {T : List (Addr × Str)} {E : XK} {tg : Expr}
def iwR3 (w : WA) : WI := fun ρ μ ev Ψ => w ρ μ ev fun xs μ1 => ∃ (i j c : Int) (n : Nat), xs = [.int i, .int j, .int c] ∧ RgC i j c n ∧ Ψ ((List.range n).map fun k => .int (i + (k : Nat) * c)) noP μ1
theorem itOk_rangeC {K : PySem.W.Frag} {lo c : Int} {n : Nat} {μ : Mu} {H : Hp} : ItOk K T (Itc lo c n) ((List.range n).map fun k => .int (lo + (k : Nat) * c)) noP μ H := fun μ2 H2 s2 st2 _ i => by
  refine ⟨fun d hd => ?_, fun hl => by rw [List.length_map, List.length_range] at hl; exact hl⟩
  rw [List.getElem?_map] at hd
  by_cases hi : i < n
  · rw [List.getElem?_range hi] at hd
    cases hd
    exact ⟨hi, fun y H3 ⟨z1, z2⟩ => by subst z1; subst z2; exact ⟨.int _, st2, Step.refl _ _⟩⟩
  · rw [List.getElem?_eq_none (by rw [List.length_range]; omega)] at hd; cases hd
theorem vi_range3 {a b c : Expr} {w : WA} {p pos : Pos} (hg : Gl X "range") (hm : X.mg "range" = none) (h : PA X [a, b, c] (upA X.K T E w)) (hs : starEach [a, b, c] X.env = (false, eval a X.env) :: starEach [b, c] X.env := by rfl) (hpl : (backTo pos (starEach [b, c] X.env)).any (·.1) = false := by rfl) :
    PI X tg (.Call (.Name "range" p) [a, b, c] [] pos) (upI X.K T E (iwR3 w)) :=
  pi_mono (pi_range3 hg hm h hs hpl) fun σ H R ⟨ρ, μ, ev, Ψ, en, st, xo, h, k⟩ => ⟨ρ, μ, ev, _, en, st, xo, h, fun ds μ1 vs H1 ⟨i, j, c, n, e, hh, q⟩ iv st1 s1 => by
    subst e
    cases iv with
    | cons a b =>
      cases b with
      | cons b c =>
        cases c with
        | cons c d =>
          cases a; cases b; cases c; cases d
          exact ⟨i, j, _, n, rfl, hh, k _ _ μ1 _ H1 q st1 s1 itOk_rangeC⟩⟩
end VL

set_option maxRecDepth 100000
set_option maxHeartbeats 4000000
namespace K25
open PySem L2 FW VL
/-! ### the document's tables -/
def NUMS : List (Str × Int × Int) := [("push", -2147483648, 2147483647), ("load", 0, 999), ("store", 0, 999), ("jump", 0, 10000), ("unless", 0, 10000), ("send", 0, 4), ("take", 0, 4)]
def PLAINW : List Str := ["fetch", "put", "not", "drop", "copy", "read", "write", "barrier", "input", "show", "wait"]
def SIGNW : List Str := ["+", "-", "*", "div", "rem", "<", "=", "and", "or"]
def ACTF : List (Str × Str) := [("+", "added"), ("-", "taken_from"), ("*", "multiplied"), ("div", "divided"), ("rem", "left_over"), ("<", "is_less"), ("=", "is_equal"), ("and", "are_both"), ("or", "is_any")]
def DEEDF : List (Str × Str) := [("push", "do_push"), ("load", "do_load"), ("store", "do_store"), ("fetch", "do_fetch"), ("put", "do_put"), ("not", "do_not"), ("drop", "do_drop"), ("copy", "do_copy"), ("jump", "do_jump"), ("unless", "do_unless"), ("read", "do_read"), ("write", "do_write"), ("barrier", "do_barrier"), ("send", "do_send"), ("take", "do_take"), ("input", "do_input"), ("show", "do_show"), ("wait", "do_wait")]
def pathN (w : Str) (K : PySem.W.Frag) : Addr := match PySem.W.nsIn K (He.ga K "NUMBERS") w with
  | some (some (.ref a)) => a
  | _ => 0
def numsP (K : PySem.W.Frag) : List (Str × V × D) := NUMS.map fun q => (q.1, V.ref (pathN q.1 K), D.tup [.int q.2.1, .int q.2.2])
def gloP (K : PySem.W.Frag) (l : List (Str × Str)) : List (Str × V × D) := l.map fun q => (q.1, V.ref (He.ga K q.2), D.ref (He.ga K q.2))
theorem lookup_map {α β : Type} (f : α → β) : ∀ (l : List (Str × α)) (z : Str), (l.map fun q => (q.1, f q.2)).lookup z = (l.lookup z).map f
  | [], _ => rfl
  | q :: l, z => by
    rw [List.map_cons, List.lookup_cons, List.lookup_cons]
    cases h : z == q.1 with
    | true => rfl
    | false => exact lookup_map f l z
theorem gloP_lookup (K : PySem.W.Frag) (l : List (Str × Str)) (z : Str) : (gloP K l).lookup z = (l.lookup z).map fun f => (V.ref (He.ga K f), D.ref (He.ga K f)) := lookup_map (fun f => (V.ref (He.ga K f), D.ref (He.ga K f))) l z
theorem numsP_lookup (K : PySem.W.Frag) (z : Str) : (numsP K).lookup z = (NUMS.lookup z).map fun q => (V.ref (pathN z K), D.tup [.int q.1, .int q.2]) := by
  unfold numsP
  induction NUMS with
  | nil => rfl
  | cons q l ih =>
    rw [List.map_cons, List.lookup_cons, List.lookup_cons]
    cases h : z == q.1 with
    | true => have : z = q.1 := beq_iff_eq.mp h; rw [this]; rfl
    | false => exact ih
def top (i : Nat) : Stmt := PySem.Challenge.pw_fairweather_k25_whole_an_own_computer.main.body.getD i (.Pass ⟨0, 0, 0, 0⟩)
def inClass (s : Stmt) (j : Nat) : Stmt := match s with
  | .ClassDef (body := b) .. => b.getD j (.Pass ⟨0, 0, 0, 0⟩)
  | _ => .Pass ⟨0, 0, 0, 0⟩
abbrev s_is_list : Stmt := top 4
def N_is_list : List Str := ["value"]
theorem sc_is_list : FnScope N_is_list ["value"] (defScope s_is_list) := ⟨rfl, rfl, rfl, by decide +kernel, rfl, by decide +kernel, by decide +kernel⟩
abbrev s_is_integer : Stmt := top 5
def N_is_integer : List Str := ["value"]
theorem sc_is_integer : FnScope N_is_integer ["value"] (defScope s_is_integer) := ⟨rfl, rfl, rfl, by decide +kernel, rfl, by decide +kernel, by decide +kernel⟩
abbrev s_is_within : Stmt := top 6
def N_is_within : List Str := ["value", "least", "most"]
theorem sc_is_within : FnScope N_is_within ["value", "least", "most"] (defScope s_is_within) := ⟨rfl, rfl, rfl, by decide +kernel, rfl, by decide +kernel, by decide +kernel⟩
abbrev s_is_short : Stmt := top 9
def N_is_short : List Str := ["value"]
theorem sc_is_short : FnScope N_is_short ["value"] (defScope s_is_short) := ⟨rfl, rfl, rfl, by decide +kernel, rfl, by decide +kernel, by decide +kernel⟩
abbrev s_are_shorts : Stmt := top 10
def N_are_shorts : List Str := ["value", "many", "item"]
theorem sc_are_shorts : FnScope N_are_shorts ["value", "many"] (defScope s_are_shorts) := ⟨rfl, rfl, rfl, by decide +kernel, rfl, by decide +kernel, by decide +kernel⟩
abbrev s_are_integers : Stmt := top 7
def N_are_integers : List Str := ["value", "item"]
theorem sc_are_integers : FnScope N_are_integers ["value"] (defScope s_are_integers) := ⟨rfl, rfl, rfl, by decide +kernel, rfl, by decide +kernel, by decide +kernel⟩
abbrev s_is_lot : Stmt := top 8
def N_is_lot : List Str := ["value", "many", "least", "number"]
theorem sc_is_lot : FnScope N_is_lot ["value", "many"] (defScope s_is_lot) := ⟨rfl, rfl, rfl, by decide +kernel, rfl, by decide +kernel, by decide +kernel⟩
abbrev s_fixed : Stmt := top 17
def N_fixed : List Str := ["value", "item"]
theorem sc_fixed : FnScope N_fixed ["value"] (defScope s_fixed) := ⟨rfl, rfl, rfl, by decide +kernel, rfl, by decide +kernel, by decide +kernel⟩
abbrev s_short_of : Stmt := top 20
def N_short_of : List Str := ["number"]
theorem sc_short_of : FnScope N_short_of ["number"] (defScope s_short_of) := ⟨rfl, rfl, rfl, by decide +kernel, rfl, by decide +kernel, by decide +kernel⟩
abbrev s_added : Stmt := top 21
def N_added : List Str := ["one", "other"]
theorem sc_added : FnScope N_added ["one", "other"] (defScope s_added) := ⟨rfl, rfl, rfl, by decide +kernel, rfl, by decide +kernel, by decide +kernel⟩
abbrev s_taken_from : Stmt := top 22
def N_taken_from : List Str := ["one", "other"]
theorem sc_taken_from : FnScope N_taken_from ["one", "other"] (defScope s_taken_from) := ⟨rfl, rfl, rfl, by decide +kernel, rfl, by decide +kernel, by decide +kernel⟩
abbrev s_multiplied : Stmt := top 23
def N_multiplied : List Str := ["one", "other"]
theorem sc_multiplied : FnScope N_multiplied ["one", "other"] (defScope s_multiplied) := ⟨rfl, rfl, rfl, by decide +kernel, rfl, by decide +kernel, by decide +kernel⟩
abbrev s_divided : Stmt := top 24
def N_divided : List Str := ["one", "other"]
theorem sc_divided : FnScope N_divided ["one", "other"] (defScope s_divided) := ⟨rfl, rfl, rfl, by decide +kernel, rfl, by decide +kernel, by decide +kernel⟩
abbrev s_left_over : Stmt := top 25
def N_left_over : List Str := ["one", "other"]
theorem sc_left_over : FnScope N_left_over ["one", "other"] (defScope s_left_over) := ⟨rfl, rfl, rfl, by decide +kernel, rfl, by decide +kernel, by decide +kernel⟩
abbrev s_is_less : Stmt := top 26
def N_is_less : List Str := ["one", "other"]
theorem sc_is_less : FnScope N_is_less ["one", "other"] (defScope s_is_less) := ⟨rfl, rfl, rfl, by decide +kernel, rfl, by decide +kernel, by decide +kernel⟩
abbrev s_is_equal : Stmt := top 27
def N_is_equal : List Str := ["one", "other"]
theorem sc_is_equal : FnScope N_is_equal ["one", "other"] (defScope s_is_equal) := ⟨rfl, rfl, rfl, by decide +kernel, rfl, by decide +kernel, by decide +kernel⟩
abbrev s_are_both : Stmt := top 28
def N_are_both : List Str := ["one", "other"]
theorem sc_are_both : FnScope N_are_both ["one", "other"] (defScope s_are_both) := ⟨rfl, rfl, rfl, by decide +kernel, rfl, by decide +kernel, by decide +kernel⟩
abbrev s_is_any : Stmt := top 29
def N_is_any : List Str := ["one", "other"]
theorem sc_is_any : FnScope N_is_any ["one", "other"] (defScope s_is_any) := ⟨rfl, rfl, rfl, by decide +kernel, rfl, by decide +kernel, by decide +kernel⟩
abbrev s_is_instruction : Stmt := top 39
def N_is_instruction : List Str := ["value", "word", "least", "most"]
theorem sc_is_instruction : FnScope N_is_instruction ["value"] (defScope s_is_instruction) := ⟨rfl, rfl, rfl, by decide +kernel, rfl, by decide +kernel, by decide +kernel⟩
abbrev s_is_target_beyond : Stmt := top 40
def N_is_target_beyond : List Str := ["rows", "row"]
theorem sc_is_target_beyond : FnScope N_is_target_beyond ["rows"] (defScope s_is_target_beyond) := ⟨rfl, rfl, rfl, by decide +kernel, rfl, by decide +kernel, by decide +kernel⟩
abbrev s_are_rows : Stmt := top 41
def N_are_rows : List Str := ["value", "row"]
theorem sc_are_rows : FnScope N_are_rows ["value"] (defScope s_are_rows) := ⟨rfl, rfl, rfl, by decide +kernel, rfl, by decide +kernel, by decide +kernel⟩
abbrev s_Code___init__ : Stmt := inClass (top 42) 0
def N_Code___init__ : List Str := ["self", "rows"]
theorem sc_Code___init__ : FnScope N_Code___init__ ["self", "rows"] (defScope s_Code___init__) := ⟨rfl, rfl, rfl, by decide +kernel, rfl, by decide +kernel, by decide +kernel⟩
abbrev s_Code___eq__ : Stmt := inClass (top 42) 1
def N_Code___eq__ : List Str := ["self", "other"]
theorem sc_Code___eq__ : FnScope N_Code___eq__ ["self", "other"] (defScope s_Code___eq__) := ⟨rfl, rfl, rfl, by decide +kernel, rfl, by decide +kernel, by decide +kernel⟩
abbrev s_Code___iter__ : Stmt := inClass (top 42) 3
def N_Code___iter__ : List Str := ["self"]
theorem sc_Code___iter__ : FnScope N_Code___iter__ ["self"] (defScope s_Code___iter__) := ⟨rfl, rfl, rfl, by decide +kernel, rfl, by decide +kernel, by decide +kernel⟩
abbrev s_push_short : Stmt := top 49
def N_push_short : List Str := ["computer", "short"]
theorem sc_push_short : FnScope N_push_short ["computer", "short"] (defScope s_push_short) := ⟨rfl, rfl, rfl, by decide +kernel, rfl, by decide +kernel, by decide +kernel⟩
abbrev s_popped : Stmt := top 50
def N_popped : List Str := ["computer"]
theorem sc_popped : FnScope N_popped ["computer"] (defScope s_popped) := ⟨rfl, rfl, rfl, by decide +kernel, rfl, by decide +kernel, by decide +kernel⟩
abbrev s_do_push : Stmt := top 51
def N_do_push : List Str := ["computer", "short"]
theorem sc_do_push : FnScope N_do_push ["computer", "short"] (defScope s_do_push) := ⟨rfl, rfl, rfl, by decide +kernel, rfl, by decide +kernel, by decide +kernel⟩
abbrev s_do_load : Stmt := top 52
def N_do_load : List Str := ["computer", "address"]
theorem sc_do_load : FnScope N_do_load ["computer", "address"] (defScope s_do_load) := ⟨rfl, rfl, rfl, by decide +kernel, rfl, by decide +kernel, by decide +kernel⟩
abbrev s_do_store : Stmt := top 53
def N_do_store : List Str := ["computer", "address"]
theorem sc_do_store : FnScope N_do_store ["computer", "address"] (defScope s_do_store) := ⟨rfl, rfl, rfl, by decide +kernel, rfl, by decide +kernel, by decide +kernel⟩
abbrev s_do_fetch : Stmt := top 54
def N_do_fetch : List Str := ["computer", "_", "address"]
theorem sc_do_fetch : FnScope N_do_fetch ["computer", "_"] (defScope s_do_fetch) := ⟨rfl, rfl, rfl, by decide +kernel, rfl, by decide +kernel, by decide +kernel⟩
abbrev s_do_put : Stmt := top 55
def N_do_put : List Str := ["computer", "_", "address", "short"]
theorem sc_do_put : FnScope N_do_put ["computer", "_"] (defScope s_do_put) := ⟨rfl, rfl, rfl, by decide +kernel, rfl, by decide +kernel, by decide +kernel⟩
abbrev s_do_not : Stmt := top 57
def N_do_not : List Str := ["computer", "_"]
theorem sc_do_not : FnScope N_do_not ["computer", "_"] (defScope s_do_not) := ⟨rfl, rfl, rfl, by decide +kernel, rfl, by decide +kernel, by decide +kernel⟩
abbrev s_do_drop : Stmt := top 58
def N_do_drop : List Str := ["computer", "_"]
theorem sc_do_drop : FnScope N_do_drop ["computer", "_"] (defScope s_do_drop) := ⟨rfl, rfl, rfl, by decide +kernel, rfl, by decide +kernel, by decide +kernel⟩
abbrev s_do_copy : Stmt := top 59
def N_do_copy : List Str := ["computer", "_", "short"]
theorem sc_do_copy : FnScope N_do_copy ["computer", "_"] (defScope s_do_copy) := ⟨rfl, rfl, rfl, by decide +kernel, rfl, by decide +kernel, by decide +kernel⟩
abbrev s_do_jump : Stmt := top 60
def N_do_jump : List Str := ["computer", "row"]
theorem sc_do_jump : FnScope N_do_jump ["computer", "row"] (defScope s_do_jump) := ⟨rfl, rfl, rfl, by decide +kernel, rfl, by decide +kernel, by decide +kernel⟩
abbrev s_do_unless : Stmt := top 61
def N_do_unless : List Str := ["computer", "row"]
theorem sc_do_unless : FnScope N_do_unless ["computer", "row"] (defScope s_do_unless) := ⟨rfl, rfl, rfl, by decide +kernel, rfl, by decide +kernel, by decide +kernel⟩
abbrev s_do_wait : Stmt := top 69
def N_do_wait : List Str := ["computer", "_"]
theorem sc_do_wait : FnScope N_do_wait ["computer", "_"] (defScope s_do_wait) := ⟨rfl, rfl, rfl, by decide +kernel, rfl, by decide +kernel, by decide +kernel⟩
abbrev s_do_sign : Stmt := top 56
def N_do_sign : List Str := ["computer", "act", "other", "one"]
theorem sc_do_sign : FnScope N_do_sign ["computer", "act"] (defScope s_do_sign) := ⟨rfl, rfl, rfl, by decide +kernel, rfl, by decide +kernel, by decide +kernel⟩
abbrev s_do_read : Stmt := top 62
def N_do_read : List Str := ["computer", "_", "address"]
theorem sc_do_read : FnScope N_do_read ["computer", "_"] (defScope s_do_read) := ⟨rfl, rfl, rfl, by decide +kernel, rfl, by decide +kernel, by decide +kernel⟩
abbrev s_do_write : Stmt := top 63
def N_do_write : List Str := ["computer", "_", "address", "short"]
theorem sc_do_write : FnScope N_do_write ["computer", "_"] (defScope s_do_write) := ⟨rfl, rfl, rfl, by decide +kernel, rfl, by decide +kernel, by decide +kernel⟩
abbrev s_do_barrier : Stmt := top 64
def N_do_barrier : List Str := ["computer", "_", "pairs", "address", "short"]
theorem sc_do_barrier : FnScope N_do_barrier ["computer", "_"] (defScope s_do_barrier) := ⟨rfl, rfl, rfl, by decide +kernel, rfl, by decide +kernel, by decide +kernel⟩
abbrev s_do_send : Stmt := top 65
def N_do_send : List Str := ["computer", "place", "old", "new", "number"]
theorem sc_do_send : FnScope N_do_send ["computer", "place"] (defScope s_do_send) := ⟨rfl, rfl, rfl, by decide +kernel, rfl, by decide +kernel, by decide +kernel⟩
abbrev s_do_take : Stmt := top 66
def N_do_take : List Str := ["computer", "place", "letter"]
theorem sc_do_take : FnScope N_do_take ["computer", "place"] (defScope s_do_take) := ⟨rfl, rfl, rfl, by decide +kernel, rfl, by decide +kernel, by decide +kernel⟩
abbrev s_do_input : Stmt := top 67
def N_do_input : List Str := ["computer", "_"]
theorem sc_do_input : FnScope N_do_input ["computer", "_"] (defScope s_do_input) := ⟨rfl, rfl, rfl, by decide +kernel, rfl, by decide +kernel, by decide +kernel⟩
abbrev s_do_show : Stmt := top 68
def N_do_show : List Str := ["computer", "_", "place", "short"]
theorem sc_do_show : FnScope N_do_show ["computer", "_"] (defScope s_do_show) := ⟨rfl, rfl, rfl, by decide +kernel, rfl, by decide +kernel, by decide +kernel⟩
abbrev s_deed_of_row : Stmt := top 71
def N_deed_of_row : List Str := ["row", "act", "deed"]
theorem sc_deed_of_row : FnScope N_deed_of_row ["row"] (defScope s_deed_of_row) := ⟨rfl, rfl, rfl, by decide +kernel, rfl, by decide +kernel, by decide +kernel⟩
abbrev s_is_disk_pair : Stmt := top 74
def N_is_disk_pair : List Str := ["value"]
theorem sc_is_disk_pair : FnScope N_is_disk_pair ["value"] (defScope s_is_disk_pair) := ⟨rfl, rfl, rfl, by decide +kernel, rfl, by decide +kernel, by decide +kernel⟩
abbrev s_are_disk_pairs : Stmt := top 75
def N_are_disk_pairs : List Str := ["value", "pair"]
theorem sc_are_disk_pairs : FnScope N_are_disk_pairs ["value"] (defScope s_are_disk_pairs) := ⟨rfl, rfl, rfl, by decide +kernel, rfl, by decide +kernel, by decide +kernel⟩
abbrev s_is_disk : Stmt := top 76
def N_is_disk : List Str := ["value", "pair"]
theorem sc_is_disk : FnScope N_is_disk ["value"] (defScope s_is_disk) := ⟨rfl, rfl, rfl, by decide +kernel, rfl, by decide +kernel, by decide +kernel⟩
abbrev s_Computer_power_on : Stmt := inClass (top 77) 1
def N_Computer_power_on : List Str := ["self"]
theorem sc_Computer_power_on : FnScope N_Computer_power_on ["self"] (defScope s_Computer_power_on) := ⟨rfl, rfl, rfl, by decide +kernel, rfl, by decide +kernel, by decide +kernel⟩
abbrev s_Computer___init__ : Stmt := inClass (top 77) 0
def N_Computer___init__ : List Str := ["self", "code", "disk", "address", "short", "row"]
theorem sc_Computer___init__ : FnScope N_Computer___init__ ["self", "code", "disk"] (defScope s_Computer___init__) := ⟨rfl, rfl, rfl, by decide +kernel, rfl, by decide +kernel, by decide +kernel⟩
abbrev s_Computer_stack : Stmt := inClass (top 77) 2
def N_Computer_stack : List Str := ["self"]
theorem sc_Computer_stack : FnScope N_Computer_stack ["self"] (defScope s_Computer_stack) := ⟨rfl, rfl, rfl, by decide +kernel, rfl, by decide +kernel, by decide +kernel⟩
abbrev s_Computer_disk : Stmt := inClass (top 77) 3
def N_Computer_disk : List Str := ["self", "address", "short"]
theorem sc_Computer_disk : FnScope N_Computer_disk ["self"] (defScope s_Computer_disk) := ⟨rfl, rfl, rfl, by decide +kernel, rfl, by decide +kernel, by decide +kernel⟩
abbrev s_Computer_waiting : Stmt := inClass (top 77) 4
def N_Computer_waiting : List Str := ["self"]
theorem sc_Computer_waiting : FnScope N_Computer_waiting ["self"] (defScope s_Computer_waiting) := ⟨rfl, rfl, rfl, by decide +kernel, rfl, by decide +kernel, by decide +kernel⟩
abbrev s_Computer_cards : Stmt := inClass (top 77) 5
def N_Computer_cards : List Str := ["self"]
theorem sc_Computer_cards : FnScope N_Computer_cards ["self"] (defScope s_Computer_cards) := ⟨rfl, rfl, rfl, by decide +kernel, rfl, by decide +kernel, by decide +kernel⟩
abbrev s_Computer_memory : Stmt := inClass (top 77) 6
def N_Computer_memory : List Str := ["self", "address"]
theorem sc_Computer_memory : FnScope N_Computer_memory ["self", "address"] (defScope s_Computer_memory) := ⟨rfl, rfl, rfl, by decide +kernel, rfl, by decide +kernel, by decide +kernel⟩
abbrev s_Computer_hand : Stmt := inClass (top 77) 8
def N_Computer_hand : List Str := ["self", "place", "letter"]
theorem sc_Computer_hand : FnScope N_Computer_hand ["self", "place", "letter"] (defScope s_Computer_hand) := ⟨rfl, rfl, rfl, by decide +kernel, rfl, by decide +kernel, by decide +kernel⟩
abbrev s_Computer_cut : Stmt := inClass (top 77) 11
def N_Computer_cut : List Str := ["self", "kept", "pairs", "address", "short", "index"]
theorem sc_Computer_cut : FnScope N_Computer_cut ["self", "kept"] (defScope s_Computer_cut) := ⟨rfl, rfl, rfl, by decide +kernel, rfl, by decide +kernel, by decide +kernel⟩
abbrev s_Computer_go : Stmt := inClass (top 77) 10
def N_Computer_go : List Str := ["self", "given", "most", "many", "deed", "number", "effect"]
theorem sc_Computer_go : FnScope N_Computer_go ["self", "given", "most"] (defScope s_Computer_go) := ⟨rfl, rfl, rfl, by decide +kernel, rfl, by decide +kernel, by decide +kernel⟩
abbrev s_Computer_step : Stmt := inClass (top 77) 9
def N_Computer_step : List Str := ["self", "given"]
theorem sc_Computer_step : FnScope N_Computer_step ["self", "given"] (defScope s_Computer_step) := ⟨rfl, rfl, rfl, by decide +kernel, rfl, by decide +kernel, by decide +kernel⟩
abbrev s__law_bench : Stmt := top 79
def N__law_bench : List Str := ["_law_script", "_law_cell"]
theorem sc__law_bench : FnScope N__law_bench ["_law_script"] (defScope s__law_bench) := ⟨rfl, rfl, rfl, by decide +kernel, rfl, by decide +kernel, by decide +kernel⟩
abbrev s__law_turn : Stmt := top 80
def N__law_turn : List Str := ["_law_bench_here", "_law_many", "_law_rest", "_law_at", "_law_cell", "_law_mixed"]
theorem sc__law_turn : FnScope N__law_turn ["_law_bench_here", "_law_many"] (defScope s__law_turn) := ⟨rfl, rfl, rfl, by decide +kernel, rfl, by decide +kernel, by decide +kernel⟩
abbrev s__law_tool : Stmt := top 81
def N__law_tool : List Str := ["_law_bench_here", "_law_some"]
theorem sc__law_tool : FnScope N__law_tool ["_law_bench_here", "_law_some"] (defScope s__law_tool) := ⟨rfl, rfl, rfl, by decide +kernel, rfl, by decide +kernel, by decide +kernel⟩
abbrev s__law_wrap : Stmt := top 82
def N__law_wrap : List Str := ["_law_number"]
theorem sc__law_wrap : FnScope N__law_wrap ["_law_number"] (defScope s__law_wrap) := ⟨rfl, rfl, rfl, by decide +kernel, rfl, by decide +kernel, by decide +kernel⟩
abbrev s__law_signed : Stmt := top 83
def N__law_signed : List Str := ["_law_sign", "_law_one", "_law_other"]
theorem sc__law_signed : FnScope N__law_signed ["_law_sign", "_law_one", "_law_other"] (defScope s__law_signed) := ⟨rfl, rfl, rfl, by decide +kernel, rfl, by decide +kernel, by decide +kernel⟩
abbrev s__law_popped : Stmt := top 84
def N__law_popped : List Str := ["_law_state"]
theorem sc__law_popped : FnScope N__law_popped ["_law_state"] (defScope s__law_popped) := ⟨rfl, rfl, rfl, by decide +kernel, rfl, by decide +kernel, by decide +kernel⟩
abbrev s__law_written : Stmt := top 85
def N__law_written : List Str := ["_law_state", "_law_address", "_law_found", "_law_here", "_law_short"]
theorem sc__law_written : FnScope N__law_written ["_law_state", "_law_address"] (defScope s__law_written) := ⟨rfl, rfl, rfl, by decide +kernel, rfl, by decide +kernel, by decide +kernel⟩
abbrev s__law_settled : Stmt := top 86
def N__law_settled : List Str := ["_law_state", "_law_pairs", "_law_address", "_law_short"]
theorem sc__law_settled : FnScope N__law_settled ["_law_state", "_law_pairs"] (defScope s__law_settled) := ⟨rfl, rfl, rfl, by decide +kernel, rfl, by decide +kernel, by decide +kernel⟩
abbrev s__law_awake : Stmt := top 87
def N__law_awake : List Str := ["_law_disk"]
theorem sc__law_awake : FnScope N__law_awake ["_law_disk"] (defScope s__law_awake) := ⟨rfl, rfl, rfl, by decide +kernel, rfl, by decide +kernel, by decide +kernel⟩
abbrev s__law_outside : Stmt := top 88
def N__law_outside : List Str := ["_law_state", "_law_word", "_law_number", "_law_given", "_law_stack", "_law_address", "_law_short", "_law_old", "_law_new", "_law_letter", "_law_place"]
theorem sc__law_outside : FnScope N__law_outside ["_law_state", "_law_word", "_law_number", "_law_given"] (defScope s__law_outside) := ⟨rfl, rfl, rfl, by decide +kernel, rfl, by decide +kernel, by decide +kernel⟩
abbrev s__law_step : Stmt := top 89
def N__law_step : List Str := ["_law_rows", "_law_state", "_law_given", "_law_row", "_law_stack", "_law_memory", "_law_word", "_law_address", "_law_short", "_law_other"]
theorem sc__law_step : FnScope N__law_step ["_law_rows", "_law_state", "_law_given"] (defScope s__law_step) := ⟨rfl, rfl, rfl, by decide +kernel, rfl, by decide +kernel, by decide +kernel⟩
abbrev s__law_piece : Stmt := top 90
def N__law_piece : List Str := ["_law_bench_here", "_law_many", "_law_short", "_law_spot", "_law_place", "_law_way", "_law_goal", "_law_some", "_law_sign", "_law_alone"]
theorem sc__law_piece : FnScope N__law_piece ["_law_bench_here", "_law_many"] (defScope s__law_piece) := ⟨rfl, rfl, rfl, by decide +kernel, rfl, by decide +kernel, by decide +kernel⟩
abbrev s__law_is_so : Stmt := top 91
def N__law_is_so : List Str := ["_law_computer", "_law_state", "_law_told", "_law_disk", "_law_address", "_law_short"]
theorem sc__law_is_so : FnScope N__law_is_so ["_law_computer", "_law_state"] (defScope s__law_is_so) := ⟨rfl, rfl, rfl, by decide +kernel, rfl, by decide +kernel, by decide +kernel⟩
abbrev s__law_moment_right : Stmt := top 92
def N__law_moment_right : List Str := ["_law_bench_here", "_law_computer", "_law_rows", "_law_state", "_law_way", "_law_place", "_law_letter", "_law_kept", "_law_due", "_law_fresh", "_law_key", "_law_given", "_law_at"]
theorem sc__law_moment_right : FnScope N__law_moment_right ["_law_bench_here", "_law_computer", "_law_rows", "_law_state"] (defScope s__law_moment_right) := ⟨rfl, rfl, rfl, by decide +kernel, rfl, by decide +kernel, by decide +kernel⟩
abbrev s_law : Stmt := top 93
def N_law : List Str := ["_law_script", "_law_bench_here", "_law_many", "_law_rows", "_law_code", "_law_pair", "_law_states", "_law_lap", "_law_at", "_law_turn_here", "_law_spot"]
theorem sc_law : FnScope N_law ["_law_script"] (defScope s_law) := ⟨rfl, rfl, rfl, by decide +kernel, rfl, by decide +kernel, by decide +kernel⟩
structure Txt (w : World) (K : PySem.W.Frag) (mg : Str → Option Value) : Prop where
  b_abs : mg "abs" = none
  b_all : mg "all" = none
  b_any : mg "any" = none
  b_bool : mg "bool" = none
  b_enumerate : mg "enumerate" = none
  b_int : mg "int" = none
  b_isinstance : mg "isinstance" = none
  b_iter : mg "iter" = none
  b_len : mg "len" = none
  b_list : mg "list" = none
  b_range : mg "range" = none
  b_repr : mg "repr" = none
  b_set : mg "set" = none
  b_str : mg "str" = none
  b_tuple : mg "tuple" = none
  cl_Code : Cls K (He.ga K "Code")
  cl_Computer : Cls K (He.ga K "Computer")
  g_ACTS : mg "ACTS" = some (.ref (He.ga K "ACTS"))
  g_Code : mg "Code" = some (.ref (He.ga K "Code"))
  g_Computer : mg "Computer" = some (.ref (He.ga K "Computer"))
  g_DEEDS : mg "DEEDS" = some (.ref (He.ga K "DEEDS"))
  g_LEAST_SHORT : ∃ u, mg "LEAST_SHORT" = some u ∧ RelV (.int (-2147483648)) u
  g_MOST_CARDS : ∃ u, mg "MOST_CARDS" = some u ∧ RelV (.int (5)) u
  g_MOST_DISK : ∃ u, mg "MOST_DISK" = some u ∧ RelV (.int (200)) u
  g_MOST_MEMORY : ∃ u, mg "MOST_MEMORY" = some u ∧ RelV (.int (1000)) u
  g_MOST_ROWS : ∃ u, mg "MOST_ROWS" = some u ∧ RelV (.int (10000)) u
  g_MOST_SHORT : ∃ u, mg "MOST_SHORT" = some u ∧ RelV (.int (2147483647)) u
  g_MOST_STACK : ∃ u, mg "MOST_STACK" = some u ∧ RelV (.int (1000)) u
  g_MOST_WAITING : ∃ u, mg "MOST_WAITING" = some u ∧ RelV (.int (400)) u
  g_NUMBERS : mg "NUMBERS" = some (.ref (He.ga K "NUMBERS"))
  g_PLAIN : ∃ u, mg "PLAIN" = some u ∧ RelV (.ref (He.ga K "PLAIN")) u
  g_SIGNS : ∃ u, mg "SIGNS" = some u ∧ RelV (.ref (He.ga K "SIGNS")) u
  g__law_awake : mg "_law_awake" = some (.ref (He.ga K "_law_awake"))
  g__law_bench : mg "_law_bench" = some (.ref (He.ga K "_law_bench"))
  g__law_is_so : mg "_law_is_so" = some (.ref (He.ga K "_law_is_so"))
  g__law_moment_right : mg "_law_moment_right" = some (.ref (He.ga K "_law_moment_right"))
  g__law_outside : mg "_law_outside" = some (.ref (He.ga K "_law_outside"))
  g__law_piece : mg "_law_piece" = some (.ref (He.ga K "_law_piece"))
  g__law_popped : mg "_law_popped" = some (.ref (He.ga K "_law_popped"))
  g__law_settled : mg "_law_settled" = some (.ref (He.ga K "_law_settled"))
  g__law_signed : mg "_law_signed" = some (.ref (He.ga K "_law_signed"))
  g__law_step : mg "_law_step" = some (.ref (He.ga K "_law_step"))
  g__law_tool : mg "_law_tool" = some (.ref (He.ga K "_law_tool"))
  g__law_turn : mg "_law_turn" = some (.ref (He.ga K "_law_turn"))
  g__law_wrap : mg "_law_wrap" = some (.ref (He.ga K "_law_wrap"))
  g__law_written : mg "_law_written" = some (.ref (He.ga K "_law_written"))
  g_are_disk_pairs : mg "are_disk_pairs" = some (.ref (He.ga K "are_disk_pairs"))
  g_are_integers : mg "are_integers" = some (.ref (He.ga K "are_integers"))
  g_are_rows : mg "are_rows" = some (.ref (He.ga K "are_rows"))
  g_are_shorts : mg "are_shorts" = some (.ref (He.ga K "are_shorts"))
  g_deed_of_row : mg "deed_of_row" = some (.ref (He.ga K "deed_of_row"))
  g_do_sign : mg "do_sign" = some (.ref (He.ga K "do_sign"))
  g_fixed : mg "fixed" = some (.ref (He.ga K "fixed"))
  g_is_disk : mg "is_disk" = some (.ref (He.ga K "is_disk"))
  g_is_disk_pair : mg "is_disk_pair" = some (.ref (He.ga K "is_disk_pair"))
  g_is_instruction : mg "is_instruction" = some (.ref (He.ga K "is_instruction"))
  g_is_integer : mg "is_integer" = some (.ref (He.ga K "is_integer"))
  g_is_list : mg "is_list" = some (.ref (He.ga K "is_list"))
  g_is_lot : mg "is_lot" = some (.ref (He.ga K "is_lot"))
  g_is_short : mg "is_short" = some (.ref (He.ga K "is_short"))
  g_is_target_beyond : mg "is_target_beyond" = some (.ref (He.ga K "is_target_beyond"))
  g_is_within : mg "is_within" = some (.ref (He.ga K "is_within"))
  g_popped : mg "popped" = some (.ref (He.ga K "popped"))
  g_push_short : mg "push_short" = some (.ref (He.ga K "push_short"))
  g_short_of : mg "short_of" = some (.ref (He.ga K "short_of"))
  m_Code___eq__ : Meth K (He.ga K "Code") "__eq__" (He.ma K (He.ga K "Code") "__eq__")
  m_Code___iter__ : Meth K (He.ga K "Code") "__iter__" (He.ma K (He.ga K "Code") "__iter__")
  m_Computer_cut : Meth K (He.ga K "Computer") "cut" (He.ma K (He.ga K "Computer") "cut")
  m_Computer_go : Meth K (He.ga K "Computer") "go" (He.ma K (He.ga K "Computer") "go")
  m_Computer_hand : Meth K (He.ga K "Computer") "hand" (He.ma K (He.ga K "Computer") "hand")
  m_Computer_memory : Meth K (He.ga K "Computer") "memory" (He.ma K (He.ga K "Computer") "memory")
  m_Computer_power_on : Meth K (He.ga K "Computer") "power_on" (He.ma K (He.ga K "Computer") "power_on")
  m_Computer_step : Meth K (He.ga K "Computer") "step" (He.ma K (He.ga K "Computer") "step")
  mk_Code : Mk K (He.ga K "Code") (He.ma K (He.ga K "Code") "__init__")
  mk_Computer : Mk K (He.ga K "Computer") (He.ma K (He.ga K "Computer") "__init__")
  n_Code_rows : NoAttr K (He.ga K "Code") "rows"
  n_Computer_at : NoAttr K (He.ga K "Computer") "at"
  n_Computer_code : NoAttr K (He.ga K "Computer") "code"
  n_Computer_deeds : NoAttr K (He.ga K "Computer") "deeds"
  n_Computer_given : NoAttr K (He.ga K "Computer") "given"
  n_Computer_held : NoAttr K (He.ga K "Computer") "held"
  n_Computer_laid : NoAttr K (He.ga K "Computer") "laid"
  n_Computer_pile : NoAttr K (He.ga K "Computer") "pile"
  n_Computer_queue : NoAttr K (He.ga K "Computer") "queue"
  n_Computer_settled : NoAttr K (He.ga K "Computer") "settled"
  n_Computer_written : NoAttr K (He.ga K "Computer") "written"
  p_Computer_cards : PropOf K (He.ga K "Computer") "cards" (propP K (He.ga K "Computer") "cards") (propG K (He.ga K "Computer") "cards")
  p_Computer_disk : PropOf K (He.ga K "Computer") "disk" (propP K (He.ga K "Computer") "disk") (propG K (He.ga K "Computer") "disk")
  p_Computer_stack : PropOf K (He.ga K "Computer") "stack" (propP K (He.ga K "Computer") "stack") (propG K (He.ga K "Computer") "stack")
  p_Computer_waiting : PropOf K (He.ga K "Computer") "waiting" (propP K (He.ga K "Computer") "waiting") (propG K (He.ga K "Computer") "waiting")
  x_BadCode : ∀ {P : Program} {base : Heap}, Exn P w K mg base "BadCode" "part" (He.ga K "BadCode")
  x_BadNumber : ∀ {P : Program} {base : Heap}, Exn P w K mg base "BadNumber" "part" (He.ga K "BadNumber")
  f_is_list : ∃ fd, FunD K "is_list" "is_list" (defArgs s_is_list) (defBody s_is_list) (defScope s_is_list) [] [] (He.ga K "is_list") fd
  f_is_integer : ∃ fd, FunD K "is_integer" "is_integer" (defArgs s_is_integer) (defBody s_is_integer) (defScope s_is_integer) [] [] (He.ga K "is_integer") fd
  f_is_within : ∃ fd, FunD K "is_within" "is_within" (defArgs s_is_within) (defBody s_is_within) (defScope s_is_within) [] [] (He.ga K "is_within") fd
  f_is_short : ∃ fd, FunD K "is_short" "is_short" (defArgs s_is_short) (defBody s_is_short) (defScope s_is_short) [] [] (He.ga K "is_short") fd
  f_are_shorts : ∃ fd, FunD K "are_shorts" "are_shorts" (defArgs s_are_shorts) (defBody s_are_shorts) (defScope s_are_shorts) [] [] (He.ga K "are_shorts") fd
  f_are_integers : ∃ fd, FunD K "are_integers" "are_integers" (defArgs s_are_integers) (defBody s_are_integers) (defScope s_are_integers) [] [] (He.ga K "are_integers") fd
  f_is_lot : ∃ fd, FunD K "is_lot" "is_lot" (defArgs s_is_lot) (defBody s_is_lot) (defScope s_is_lot) [] [] (He.ga K "is_lot") fd
  f_fixed : ∃ fd, FunD K "fixed" "fixed" (defArgs s_fixed) (defBody s_fixed) (defScope s_fixed) [] [] (He.ga K "fixed") fd
  f_short_of : ∃ fd, FunD K "short_of" "short_of" (defArgs s_short_of) (defBody s_short_of) (defScope s_short_of) [] [] (He.ga K "short_of") fd
  f_added : ∃ fd, FunD K "added" "added" (defArgs s_added) (defBody s_added) (defScope s_added) [] [] (He.ga K "added") fd
  f_taken_from : ∃ fd, FunD K "taken_from" "taken_from" (defArgs s_taken_from) (defBody s_taken_from) (defScope s_taken_from) [] [] (He.ga K "taken_from") fd
  f_multiplied : ∃ fd, FunD K "multiplied" "multiplied" (defArgs s_multiplied) (defBody s_multiplied) (defScope s_multiplied) [] [] (He.ga K "multiplied") fd
  f_divided : ∃ fd, FunD K "divided" "divided" (defArgs s_divided) (defBody s_divided) (defScope s_divided) [] [] (He.ga K "divided") fd
  f_left_over : ∃ fd, FunD K "left_over" "left_over" (defArgs s_left_over) (defBody s_left_over) (defScope s_left_over) [] [] (He.ga K "left_over") fd
  f_is_less : ∃ fd, FunD K "is_less" "is_less" (defArgs s_is_less) (defBody s_is_less) (defScope s_is_less) [] [] (He.ga K "is_less") fd
  f_is_equal : ∃ fd, FunD K "is_equal" "is_equal" (defArgs s_is_equal) (defBody s_is_equal) (defScope s_is_equal) [] [] (He.ga K "is_equal") fd
  f_are_both : ∃ fd, FunD K "are_both" "are_both" (defArgs s_are_both) (defBody s_are_both) (defScope s_are_both) [] [] (He.ga K "are_both") fd
  f_is_any : ∃ fd, FunD K "is_any" "is_any" (defArgs s_is_any) (defBody s_is_any) (defScope s_is_any) [] [] (He.ga K "is_any") fd
  f_is_instruction : ∃ fd, FunD K "is_instruction" "is_instruction" (defArgs s_is_instruction) (defBody s_is_instruction) (defScope s_is_instruction) [] [] (He.ga K "is_instruction") fd
  f_is_target_beyond : ∃ fd, FunD K "is_target_beyond" "is_target_beyond" (defArgs s_is_target_beyond) (defBody s_is_target_beyond) (defScope s_is_target_beyond) [] [] (He.ga K "is_target_beyond") fd
  f_are_rows : ∃ fd, FunD K "are_rows" "are_rows" (defArgs s_are_rows) (defBody s_are_rows) (defScope s_are_rows) [] [] (He.ga K "are_rows") fd
  f_Code___init__ : ∃ fd, FunD K "__init__" "Code.__init__" (defArgs s_Code___init__) (defBody s_Code___init__) (defScope s_Code___init__) [] [] (He.ma K (He.ga K "Code") "__init__") fd
  f_Code___eq__ : ∃ fd, FunD K "__eq__" "Code.__eq__" (defArgs s_Code___eq__) (defBody s_Code___eq__) (defScope s_Code___eq__) [] [] (He.ma K (He.ga K "Code") "__eq__") fd
  f_Code___iter__ : ∃ fd, FunD K "__iter__" "Code.__iter__" (defArgs s_Code___iter__) (defBody s_Code___iter__) (defScope s_Code___iter__) [] [] (He.ma K (He.ga K "Code") "__iter__") fd
  f_push_short : ∃ fd, FunD K "push_short" "push_short" (defArgs s_push_short) (defBody s_push_short) (defScope s_push_short) [] [] (He.ga K "push_short") fd
  f_popped : ∃ fd, FunD K "popped" "popped" (defArgs s_popped) (defBody s_popped) (defScope s_popped) [] [] (He.ga K "popped") fd
  f_do_push : ∃ fd, FunD K "do_push" "do_push" (defArgs s_do_push) (defBody s_do_push) (defScope s_do_push) [] [] (He.ga K "do_push") fd
  f_do_load : ∃ fd, FunD K "do_load" "do_load" (defArgs s_do_load) (defBody s_do_load) (defScope s_do_load) [] [] (He.ga K "do_load") fd
  f_do_store : ∃ fd, FunD K "do_store" "do_store" (defArgs s_do_store) (defBody s_do_store) (defScope s_do_store) [] [] (He.ga K "do_store") fd
  f_do_fetch : ∃ fd, FunD K "do_fetch" "do_fetch" (defArgs s_do_fetch) (defBody s_do_fetch) (defScope s_do_fetch) [] [] (He.ga K "do_fetch") fd
  f_do_put : ∃ fd, FunD K "do_put" "do_put" (defArgs s_do_put) (defBody s_do_put) (defScope s_do_put) [] [] (He.ga K "do_put") fd
  f_do_not : ∃ fd, FunD K "do_not" "do_not" (defArgs s_do_not) (defBody s_do_not) (defScope s_do_not) [] [] (He.ga K "do_not") fd
  f_do_drop : ∃ fd, FunD K "do_drop" "do_drop" (defArgs s_do_drop) (defBody s_do_drop) (defScope s_do_drop) [] [] (He.ga K "do_drop") fd
  f_do_copy : ∃ fd, FunD K "do_copy" "do_copy" (defArgs s_do_copy) (defBody s_do_copy) (defScope s_do_copy) [] [] (He.ga K "do_copy") fd
  f_do_jump : ∃ fd, FunD K "do_jump" "do_jump" (defArgs s_do_jump) (defBody s_do_jump) (defScope s_do_jump) [] [] (He.ga K "do_jump") fd
  f_do_unless : ∃ fd, FunD K "do_unless" "do_unless" (defArgs s_do_unless) (defBody s_do_unless) (defScope s_do_unless) [] [] (He.ga K "do_unless") fd
  f_do_wait : ∃ fd, FunD K "do_wait" "do_wait" (defArgs s_do_wait) (defBody s_do_wait) (defScope s_do_wait) [] [] (He.ga K "do_wait") fd
  f_do_sign : ∃ fd, FunD K "do_sign" "do_sign" (defArgs s_do_sign) (defBody s_do_sign) (defScope s_do_sign) [] [] (He.ga K "do_sign") fd
  f_do_read : ∃ fd, FunD K "do_read" "do_read" (defArgs s_do_read) (defBody s_do_read) (defScope s_do_read) [] [] (He.ga K "do_read") fd
  f_do_write : ∃ fd, FunD K "do_write" "do_write" (defArgs s_do_write) (defBody s_do_write) (defScope s_do_write) [] [] (He.ga K "do_write") fd
  f_do_barrier : ∃ fd, FunD K "do_barrier" "do_barrier" (defArgs s_do_barrier) (defBody s_do_barrier) (defScope s_do_barrier) [] [] (He.ga K "do_barrier") fd
  f_do_send : ∃ fd, FunD K "do_send" "do_send" (defArgs s_do_send) (defBody s_do_send) (defScope s_do_send) [] [] (He.ga K "do_send") fd
  f_do_take : ∃ fd, FunD K "do_take" "do_take" (defArgs s_do_take) (defBody s_do_take) (defScope s_do_take) [] [] (He.ga K "do_take") fd
  f_do_input : ∃ fd, FunD K "do_input" "do_input" (defArgs s_do_input) (defBody s_do_input) (defScope s_do_input) [] [] (He.ga K "do_input") fd
  f_do_show : ∃ fd, FunD K "do_show" "do_show" (defArgs s_do_show) (defBody s_do_show) (defScope s_do_show) [] [] (He.ga K "do_show") fd
  f_deed_of_row : ∃ fd, FunD K "deed_of_row" "deed_of_row" (defArgs s_deed_of_row) (defBody s_deed_of_row) (defScope s_deed_of_row) [] [] (He.ga K "deed_of_row") fd
  f_is_disk_pair : ∃ fd, FunD K "is_disk_pair" "is_disk_pair" (defArgs s_is_disk_pair) (defBody s_is_disk_pair) (defScope s_is_disk_pair) [] [] (He.ga K "is_disk_pair") fd
  f_are_disk_pairs : ∃ fd, FunD K "are_disk_pairs" "are_disk_pairs" (defArgs s_are_disk_pairs) (defBody s_are_disk_pairs) (defScope s_are_disk_pairs) [] [] (He.ga K "are_disk_pairs") fd
  f_is_disk : ∃ fd, FunD K "is_disk" "is_disk" (defArgs s_is_disk) (defBody s_is_disk) (defScope s_is_disk) [] [] (He.ga K "is_disk") fd
  f_Computer_power_on : ∃ fd, FunD K "power_on" "Computer.power_on" (defArgs s_Computer_power_on) (defBody s_Computer_power_on) (defScope s_Computer_power_on) [] [] (He.ma K (He.ga K "Computer") "power_on") fd
  f_Computer___init__ : ∃ fd, FunD K "__init__" "Computer.__init__" (defArgs s_Computer___init__) (defBody s_Computer___init__) (defScope s_Computer___init__) [.ref (He.dflAt ("Computer", some "__init__") 0 K)] [] (He.ma K (He.ga K "Computer") "__init__") fd
  f_Computer_stack : ∃ fd, FunD K "stack" "Computer.stack" (defArgs s_Computer_stack) (defBody s_Computer_stack) (defScope s_Computer_stack) [] [] (propG K (He.ga K "Computer") "stack") fd
  f_Computer_disk : ∃ fd, FunD K "disk" "Computer.disk" (defArgs s_Computer_disk) (defBody s_Computer_disk) (defScope s_Computer_disk) [] [] (propG K (He.ga K "Computer") "disk") fd
  f_Computer_waiting : ∃ fd, FunD K "waiting" "Computer.waiting" (defArgs s_Computer_waiting) (defBody s_Computer_waiting) (defScope s_Computer_waiting) [] [] (propG K (He.ga K "Computer") "waiting") fd
  f_Computer_cards : ∃ fd, FunD K "cards" "Computer.cards" (defArgs s_Computer_cards) (defBody s_Computer_cards) (defScope s_Computer_cards) [] [] (propG K (He.ga K "Computer") "cards") fd
  f_Computer_memory : ∃ fd, FunD K "memory" "Computer.memory" (defArgs s_Computer_memory) (defBody s_Computer_memory) (defScope s_Computer_memory) [] [] (He.ma K (He.ga K "Computer") "memory") fd
  f_Computer_hand : ∃ fd, FunD K "hand" "Computer.hand" (defArgs s_Computer_hand) (defBody s_Computer_hand) (defScope s_Computer_hand) [] [] (He.ma K (He.ga K "Computer") "hand") fd
  f_Computer_cut : ∃ fd, FunD K "cut" "Computer.cut" (defArgs s_Computer_cut) (defBody s_Computer_cut) (defScope s_Computer_cut) [] [] (He.ma K (He.ga K "Computer") "cut") fd
  f_Computer_go : ∃ fd, FunD K "go" "Computer.go" (defArgs s_Computer_go) (defBody s_Computer_go) (defScope s_Computer_go) [] [] (He.ma K (He.ga K "Computer") "go") fd
  f_Computer_step : ∃ fd, FunD K "step" "Computer.step" (defArgs s_Computer_step) (defBody s_Computer_step) (defScope s_Computer_step) [] [] (He.ma K (He.ga K "Computer") "step") fd
  f__law_bench : ∃ fd, FunD K "_law_bench" "_law_bench" (defArgs s__law_bench) (defBody s__law_bench) (defScope s__law_bench) [] [] (He.ga K "_law_bench") fd
  f__law_turn : ∃ fd, FunD K "_law_turn" "_law_turn" (defArgs s__law_turn) (defBody s__law_turn) (defScope s__law_turn) [] [] (He.ga K "_law_turn") fd
  f__law_tool : ∃ fd, FunD K "_law_tool" "_law_tool" (defArgs s__law_tool) (defBody s__law_tool) (defScope s__law_tool) [] [] (He.ga K "_law_tool") fd
  f__law_wrap : ∃ fd, FunD K "_law_wrap" "_law_wrap" (defArgs s__law_wrap) (defBody s__law_wrap) (defScope s__law_wrap) [] [] (He.ga K "_law_wrap") fd
  f__law_signed : ∃ fd, FunD K "_law_signed" "_law_signed" (defArgs s__law_signed) (defBody s__law_signed) (defScope s__law_signed) [] [] (He.ga K "_law_signed") fd
  f__law_popped : ∃ fd, FunD K "_law_popped" "_law_popped" (defArgs s__law_popped) (defBody s__law_popped) (defScope s__law_popped) [] [] (He.ga K "_law_popped") fd
  f__law_written : ∃ fd, FunD K "_law_written" "_law_written" (defArgs s__law_written) (defBody s__law_written) (defScope s__law_written) [] [] (He.ga K "_law_written") fd
  f__law_settled : ∃ fd, FunD K "_law_settled" "_law_settled" (defArgs s__law_settled) (defBody s__law_settled) (defScope s__law_settled) [] [] (He.ga K "_law_settled") fd
  f__law_awake : ∃ fd, FunD K "_law_awake" "_law_awake" (defArgs s__law_awake) (defBody s__law_awake) (defScope s__law_awake) [] [] (He.ga K "_law_awake") fd
  f__law_outside : ∃ fd, FunD K "_law_outside" "_law_outside" (defArgs s__law_outside) (defBody s__law_outside) (defScope s__law_outside) [] [] (He.ga K "_law_outside") fd
  f__law_step : ∃ fd, FunD K "_law_step" "_law_step" (defArgs s__law_step) (defBody s__law_step) (defScope s__law_step) [] [] (He.ga K "_law_step") fd
  f__law_piece : ∃ fd, FunD K "_law_piece" "_law_piece" (defArgs s__law_piece) (defBody s__law_piece) (defScope s__law_piece) [] [] (He.ga K "_law_piece") fd
  f__law_is_so : ∃ fd, FunD K "_law_is_so" "_law_is_so" (defArgs s__law_is_so) (defBody s__law_is_so) (defScope s__law_is_so) [] [] (He.ga K "_law_is_so") fd
  f__law_moment_right : ∃ fd, FunD K "_law_moment_right" "_law_moment_right" (defArgs s__law_moment_right) (defBody s__law_moment_right) (defScope s__law_moment_right) [] [] (He.ga K "_law_moment_right") fd
  f_law : ∃ fd, FunD K "law" "law" (defArgs s_law) (defBody s_law) (defScope s_law) [] [] (He.ga K "law") fd
  t_PLAIN : ∀ μ H, Is K μ H (.ref (He.ga K "PLAIN")) (.tup (PLAINW.map .str))
  t_SIGNS : ∀ μ H, Is K μ H (.ref (He.ga K "SIGNS")) (.tup (SIGNW.map .str))
  k_NUMBERS : KMap K w (He.ga K "NUMBERS") (numsP K)
  k_ACTS : KMap K w (He.ga K "ACTS") (gloP K ACTF)
  k_DEEDS : KMap K w (He.ga K "DEEDS") (gloP K DEEDF)
  i_Code : InsC K (He.ga K "Code")
  o_Code : PySem.W.kitOne K (.ref (He.ga K "Code")) (.ref (He.ga K "Code")) = some true
  t_disk0 : ∀ μ H, Is K μ H (.ref (He.dflAt ("Computer", some "__init__") 0 K)) (.tup [])
local macro_rules | `(tactic| walk_at "vr") => `(tactic| simp only [wLenSet, wFor, wSetF, wAugF, wAug, wBM, wProp, wHeld, wVar, wC, wZ, wOp, wUn, wNil, wCons, wStar, wCB, wTup, wLst, wLstM, wTest, wAnd, wOr, VL.wNot, wAndV, wOrV, wNotV, wIf, wChain, wNoPart, wPart, wSl, wName, wGNil, wGCons, wGTup, wSub, wNext, VL.wSeq, wAsg, wDrop, wRet, wRetN, wIfS, wBreak, wCont, wPar, vI0, vI, vU, vAdd, vSub, vMul, vMod, vFdiv, vPow, vLt, vLe, vGt, vGe, vNeg, vIsN, vNotN, vAddA, vMulA, VL.wTru, iwL, iwT, wLc, vstart, List.map_cons, List.map_nil, List.cons_append, List.nil_append, List.set_cons_zero, List.set_cons_succ, List.getElem?_cons_zero, List.getElem?_cons_succ, Option.some.injEq, exists_eq_left, exists_eq_left', exists_eq', D.bl.injEq, D.int.injEq, D.str.injEq, D.tup.injEq, D.ref.injEq, List.cons.injEq, and_true, true_and, List.length_cons, List.length_nil, List.replicate, D.ty.injEq, exists_and_left, List.length, Nat.reduceAdd, wCall, wMake, wMeth, wFld, argsD, argD, toArg, List.getD_cons_zero, List.getD_cons_succ, List.map, iwS, vTupOf, Bool.false_eq_true, if_false, if_true, reduceIte, List.getElem?_nil, Nat.reduceSub, wipeR, vLen_lst, vLen_tup, vEq_ii, vEq_ss, vEq_bb, vIx_lst, vIx_tup, vIn_strs, vIn_s2, vIn_s3, vAll_map, vInK_s, vIxK_s, vInt_i, vAbs_i, atI_0, atI_1, atI_2, Bool.not_true, Bool.not_false, seqOf_lst, seqOf_tup, lstOf_lst, tupOf_tup, fzL_lst, N_is_list, N_is_integer, N_is_within, N_is_short, N_are_shorts, N_are_integers, N_is_lot, N_fixed, N_short_of, N_added, N_taken_from, N_multiplied, N_divided, N_left_over, N_is_less, N_is_equal, N_are_both, N_is_any, N_is_instruction, N_is_target_beyond, N_are_rows, N_Code___init__, N_Code___eq__, N_Code___iter__, N_push_short, N_popped, N_do_push, N_do_load, N_do_store, N_do_fetch, N_do_put, N_do_not, N_do_drop, N_do_copy, N_do_jump, N_do_unless, N_do_wait, N_do_sign, N_do_read, N_do_write, N_do_barrier, N_do_send, N_do_take, N_do_input, N_do_show, N_deed_of_row, N_is_disk_pair, N_are_disk_pairs, N_is_disk, N_Computer_power_on, N_Computer___init__, N_Computer_stack, N_Computer_disk, N_Computer_waiting, N_Computer_cards, N_Computer_memory, N_Computer_hand, N_Computer_cut, N_Computer_go, N_Computer_step, N__law_bench, N__law_turn, N__law_tool, N__law_wrap, N__law_signed, N__law_popped, N__law_written, N__law_settled, N__law_awake, N__law_outside, N__law_step, N__law_piece, N__law_is_so, N__law_moment_right, N_law])
theorem vAddA_ii {μ : Mu} {Φ : WK} {i j : Int} : vAddA (.int i) (.int j) μ Φ ↔ Φ (.int (i + j)) μ := Iff.rfl
theorem vInt_bl {μ : Mu} {Φ : WK} {c : Bool} : vInt1 [.bl c] μ Φ ↔ Φ (.int (if c = true then 1 else 0)) μ := Iff.rfl
theorem vMulA_ii {μ : Mu} {Φ : WK} {i j : Int} : vMulA (.int i) (.int j) μ Φ ↔ CMul i j ∧ Φ (.int (i * j)) μ := Iff.rfl
local macro_rules | `(tactic| walk_at "wr") => `(tactic| simp only [vInt_bl, iwR1, iwR2, iwM, List.set_cons_succ, wLenSet, wFor, wSetF, wAugF, wAug, wBM, wProp, wHeld, wVar, wC, wZ, wOp, wUn, wNil, wCons, wStar, wCB, wTup, wLst, wLstM, wTest, wAnd, wOr, VL.wNot, wAndV, wOrV, wNotV, wIf, wChain, wNoPart, wPart, wSl, wName, wGNil, wGCons, wGTup, wSub, wNext, VL.wSeq, wAsg, wDrop, wRet, wRetN, wIfS, wBreak, wCont, wPar, vI0, vI, vU, vAdd, vSub, vMul, vMod, vFdiv, vPow, vLt, vLe, vGt, vGe, vNeg, vIsN, vNotN, vAddA_ii, vMulA_ii, VL.wTru, iwL, iwT, wLc, vstart, List.map_cons, List.map_nil, List.cons_append, List.nil_append, List.set_cons_zero, List.set_cons_succ, List.getElem?_cons_zero, List.getElem?_cons_succ, Option.some.injEq, exists_eq_left, exists_eq_left', exists_eq', D.bl.injEq, D.int.injEq, D.str.injEq, D.tup.injEq, D.ref.injEq, List.cons.injEq, and_true, true_and, List.length_cons, List.length_nil, List.replicate, D.ty.injEq, exists_and_left, List.length, Nat.reduceAdd, wCall, wMake, wMeth, wFld, argsD, argD, toArg, List.getD_cons_zero, List.getD_cons_succ, List.map, iwS, vTupOf, Bool.false_eq_true, if_false, if_true, reduceIte, List.getElem?_nil, Nat.reduceSub, wipeR, vLen_lst, vLen_tup, vEq_ii, vEq_ss, vEq_bb, vIx_lst, vIx_tup, vIn_strs, vIn_s2, vIn_s3, vAll_map, vInK_s, vIxK_s, vInt_i, vAbs_i, atI_0, atI_1, atI_2, Bool.not_true, Bool.not_false, seqOf_lst, seqOf_tup, lstOf_lst, tupOf_tup, fzL_lst, N_is_list, N_is_integer, N_is_within, N_is_short, N_are_shorts, N_are_integers, N_is_lot, N_fixed, N_short_of, N_added, N_taken_from, N_multiplied, N_divided, N_left_over, N_is_less, N_is_equal, N_are_both, N_is_any, N_is_instruction, N_is_target_beyond, N_are_rows, N_Code___init__, N_Code___eq__, N_Code___iter__, N_push_short, N_popped, N_do_push, N_do_load, N_do_store, N_do_fetch, N_do_put, N_do_not, N_do_drop, N_do_copy, N_do_jump, N_do_unless, N_do_wait, N_do_sign, N_do_read, N_do_write, N_do_barrier, N_do_send, N_do_take, N_do_input, N_do_show, N_deed_of_row, N_is_disk_pair, N_are_disk_pairs, N_is_disk, N_Computer_power_on, N_Computer___init__, N_Computer_stack, N_Computer_disk, N_Computer_waiting, N_Computer_cards, N_Computer_memory, N_Computer_hand, N_Computer_cut, N_Computer_go, N_Computer_step, N__law_bench, N__law_turn, N__law_tool, N__law_wrap, N__law_signed, N__law_popped, N__law_written, N__law_settled, N__law_awake, N__law_outside, N__law_step, N__law_piece, N__law_is_so, N__law_moment_right, N_law, ofStr_inj, ofStr_beq, String.reduceEq, decide_true, decide_false, Bool.or_false, Bool.or_true, Bool.false_or, Bool.true_or, Bool.and_true, Bool.and_false, Bool.true_and, Bool.false_and, vModN, iwE, iwEM])

theorem ite_sp {c : Bool} {A B : Prop} (h1 : c = true → A) (h2 : c = false → B) : if c = true then A else B := by cases c <;> simp_all
def sp_is_list : VSp := fun ds μ ev Φ => ∃ x, ds = [x] ∧ Kd μ x ∧ Φ (.bl (isLst μ x)) μ
theorem b_is_list {P : Program} {w : World} {K : PySem.W.Frag} {mg : Str → Option Value} {base : Heap} (T : Txt w K mg) : ∀ fd, FunD K "is_list" "is_list" (defArgs s_is_list) (defBody s_is_list) (defScope s_is_list) [] [] (He.ga K "is_list") fd → FnG P w K mg base CX0 1 (He.ga K "is_list") fd ["value"] (lift K [] (sp_is_list)) := by
  intro fd F
  refine fun_okD (N := N_is_list) F sc_is_list (fun ds μ ev Φ h => ?size) (fun cdv A outer s H E hG hr => ⟨_, (vss_one (vs_ret (ve_callB call_isiA s_isiT (by rfl) T.b_isinstance (by decide +kernel) (va_cons (vv 0) (va_cons (ve_tup (va_cons (ve_ty (n := "list") rfl T.b_list (by decide +kernel)) (va_cons (ve_ty (n := "tuple") rfl T.b_tuple (by decide +kernel)) va_nil))) va_nil))))), fun ds μ ev Φ h => ?_⟩)
  · obtain ⟨x, rfl, _⟩ := h; rfl
  · obtain ⟨x, rfl, hk, q⟩ := h
    walk_at "vr"
    exact ⟨by rw [sizeLine_eq]; decide, l_isiSeq hk q⟩
theorem c_is_list_1 {P : Program} {w : World} {K : PySem.W.Frag} {mg : Str → Option Value} {base : Heap} (T : Txt w K mg) : CanV P w K mg base CX0 [] 1 (He.ga K "is_list") 1 [] ([.inl 0].map (toArg [] [])) (sp_is_list) :=
  canV_of (ps := ["value"]) [.inl 0] T.f_is_list (b_is_list T) (fun _ _ _ _ _ _ us ws h1 h2 => match us, ws, h1, h2 with | [_], [], _, _ => rfl) (by decide)
theorem ty_int {μ : Mu} {x : D} (h : isTy μ x "int" = true) : ∃ i, x = .int i := by
  unfold isTy at h
  cases x <;> simp [tyD] at h <;> first | exact ⟨_, rfl⟩ | skip
  split at h <;> simp at h
def sp_is_integer : VSp := fun ds μ ev Φ => ∃ x, ds = [x] ∧ Kd μ x ∧ Φ (.bl (isTy μ x "int")) μ
theorem b_is_integer {P : Program} {w : World} {K : PySem.W.Frag} {mg : Str → Option Value} {base : Heap} (T : Txt w K mg) : ∀ fd, FunD K "is_integer" "is_integer" (defArgs s_is_integer) (defBody s_is_integer) (defScope s_is_integer) [] [] (He.ga K "is_integer") fd → FnG P w K mg base CX0 1 (He.ga K "is_integer") fd ["value"] (lift K [] (sp_is_integer)) := by
  intro fd F
  refine fun_okD (N := N_is_integer) F sc_is_integer (fun ds μ ev Φ h => ?size) (fun cdv A outer s H E hG hr => ⟨_, (vss_one (vs_ret (ve_and (ve_callB call_isi s_isi (by rfl) T.b_isinstance (by decide +kernel) (va_cons (vv 0) (va_cons (ve_ty (n := "int") rfl T.b_int (by decide +kernel)) va_nil))) (ve_one (ve_not (ve_callB call_isi s_isi (by rfl) T.b_isinstance (by decide +kernel) (va_cons (vv 0) (va_cons (ve_ty (n := "bool") rfl T.b_bool (by decide +kernel)) va_nil)))))))), fun ds μ ev Φ h => ?_⟩)
  · obtain ⟨x, rfl, _⟩ := h; rfl
  · obtain ⟨x, rfl, hk, q⟩ := h
    walk_at "vr"
    refine l_isiInt hk ?_
    walk_at "vr"
    refine ite_sp (fun h1 => l_isi "bool" hk (.inr rfl) ?_) (fun h1 => ?_)
    · walk_at "vr"
      obtain ⟨t, ht⟩ := hk
      unfold isTy at h1 q ⊢
      rw [ht] at h1 q ⊢
      rcases ty_mem ht with rfl | rfl | rfl | rfl | rfl | rfl | rfl <;> first | exact q | simp at h1
    · rw [Bool.or_eq_false_iff] at h1
      rw [h1.1] at q
      exact q
theorem c_is_integer_1 {P : Program} {w : World} {K : PySem.W.Frag} {mg : Str → Option Value} {base : Heap} (T : Txt w K mg) : CanV P w K mg base CX0 [] 1 (He.ga K "is_integer") 1 [] ([.inl 0].map (toArg [] [])) (sp_is_integer) :=
  canV_of (ps := ["value"]) [.inl 0] T.f_is_integer (b_is_integer T) (fun _ _ _ _ _ _ us ws h1 h2 => match us, ws, h1, h2 with | [_], [], _, _ => rfl) (by decide)
def ofO : Option Int → D
  | none => .non
  | some i => .int i
def within (x : D) (lo hi : Option Int) : Bool := match x with
  | .int i => (match lo with | some l => decide (l ≤ i) | none => true) && (match hi with | some h => decide (i ≤ h) | none => true)
  | _ => false
theorem within_no {μ : Mu} {x : D} {lo hi : Option Int} (h : isTy μ x "int" = false) : within x lo hi = false := by cases x <;> first | rfl | simp [isTy, tyD] at h
def sp_is_within : VSp := fun ds μ ev Φ => ∃ x lo hi, ds = [x, ofO lo, ofO hi] ∧ Kd μ x ∧ Φ (.bl (within x lo hi)) μ
theorem b_is_within {P : Program} {w : World} {K : PySem.W.Frag} {mg : Str → Option Value} {base : Heap} (T : Txt w K mg) : ∀ fd, FunD K "is_within" "is_within" (defArgs s_is_within) (defBody s_is_within) (defScope s_is_within) [] [] (He.ga K "is_within") fd → FnG P w K mg base CX0 2 (He.ga K "is_within") fd ["value", "least", "most"] (lift K [] (sp_is_within)) := by
  intro fd F
  refine fun_okD (N := N_is_within) F sc_is_within (fun ds μ ev Φ h => ?size) (fun cdv A outer s H E hG hr => ⟨_, (vss_cons (vs_if (vt_not (vt_val (ve_call T.g_is_integer (c_is_integer_1 T) hG hr (by decide) pass0 sel_0 rfl (va_cons (vv 0) va_nil) vk_nil)))
 (vss_one (vs_ret ve_bl))
 vss_nil)
 (vss_cons (vs_if (PW.pt (vw_and (vt_notN (vv 1)) (vw_and1 (vt_cmp op_lt s_lt (vv 0) (vv 1) (nomark _)))))
 (vss_one (vs_ret ve_bl))
 vss_nil)
 (vss_one (vs_ret (ve_or (ve_isN (vv 2)) (ve_one (ve_cmp op_le s_le (vv 0) (vv 2) (nomark _)))))))), fun ds μ ev Φ h => ?_⟩)
  · obtain ⟨x, lo, hi, rfl, _⟩ := h; rfl
  · obtain ⟨x, lo, hi, rfl, hk, q⟩ := h
    walk_at "vr"
    refine ⟨x, rfl, hk, ?_⟩
    walk_at "vr"
    cases hi1 : isTy μ x "int" with
    | false => rw [within_no hi1] at q; exact q
    | true =>
      obtain ⟨i, rfl⟩ := ty_int hi1
      cases lo with
      | none =>
        cases hi with
        | none => simpa [ofO, VL.isNon, within] using q
        | some h => simpa [ofO, VL.isNon, within] using q
      | some l =>
        by_cases hl : i < l
        · have : within (.int i) (some l) hi = false := by simp [within]; intro h; omega
          rw [this] at q
          simpa [ofO, VL.isNon, hl] using q
        · have e : decide (l ≤ i) = true := by simp; omega
          cases hi with
          | none => simp only [within, e] at q; simpa [ofO, VL.isNon, hl] using q
          | some h => simp only [within, e] at q; simpa [ofO, VL.isNon, hl] using q
theorem c_is_within_3 {P : Program} {w : World} {K : PySem.W.Frag} {mg : Str → Option Value} {base : Heap} (T : Txt w K mg) : CanV P w K mg base CX0 [] 2 (He.ga K "is_within") 3 [] ([.inl 0, .inl 1, .inl 2].map (toArg [] [])) (sp_is_within) :=
  canV_of (ps := ["value", "least", "most"]) [.inl 0, .inl 1, .inl 2] T.f_is_within (b_is_within T) (fun _ _ _ _ _ _ us ws h1 h2 => match us, ws, h1, h2 with | [_, _, _], [], _, _ => rfl) (by decide)
def isSh (x : D) : Bool := within x (some (-2147483648)) (some 2147483647)
def sp_is_short : VSp := fun ds μ ev Φ => ∃ x, ds = [x] ∧ Kd μ x ∧ Φ (.bl (isSh x)) μ
theorem b_is_short {P : Program} {w : World} {K : PySem.W.Frag} {mg : Str → Option Value} {base : Heap} (T : Txt w K mg) : ∀ fd, FunD K "is_short" "is_short" (defArgs s_is_short) (defBody s_is_short) (defScope s_is_short) [] [] (He.ga K "is_short") fd → FnG P w K mg base CX0 3 (He.ga K "is_short") fd ["value"] (lift K [] (sp_is_short)) := by
  intro fd F
  refine fun_okD (N := N_is_short) F sc_is_short (fun ds μ ev Φ h => ?size) (fun cdv A outer s H E hG hr => ⟨_, (vss_one (vs_ret (ve_call T.g_is_within (c_is_within_3 T) hG hr (by decide) pass0 sel_0 rfl (va_cons (vv 0) (va_cons (ve_gc rfl T.g_LEAST_SHORT fun _ _ => .int _) (va_cons (ve_gc rfl T.g_MOST_SHORT fun _ _ => .int _) va_nil))) vk_nil))), fun ds μ ev Φ h => ?_⟩)
  · obtain ⟨x, rfl, _⟩ := h; rfl
  · obtain ⟨x, rfl, hk, q⟩ := h
    walk_at "vr"
    exact ⟨x, some (-2147483648), some 2147483647, rfl, hk, q⟩
theorem c_is_short_1 {P : Program} {w : World} {K : PySem.W.Frag} {mg : Str → Option Value} {base : Heap} (T : Txt w K mg) : CanV P w K mg base CX0 [] 3 (He.ga K "is_short") 1 [] ([.inl 0].map (toArg [] [])) (sp_is_short) :=
  canV_of (ps := ["value"]) [.inl 0] T.f_is_short (b_is_short T) (fun _ _ _ _ _ _ us ws h1 h2 => match us, ws, h1, h2 with | [_], [], _, _ => rfl) (by decide)
local macro_rules | `(tactic| walk_at "frz") => `(tactic| ((try walk_at "vr"); refine ⟨_, frzOf_lst Mu.same, ?_⟩; rw [Mu.del_set (by assumption)]))
theorem never {P : Prop} : (False → P) := False.elim
theorem sizeOk {n : Nat} (h : n ≤ 16777216) : n ≤ sizeLine := by rw [sizeLine_eq]; exact h
/-! ### codes -/
/-- fixed, told for values of less than n levels -/
def fixN : Nat → D → Option D
  | 0, _ => none
  | n + 1, x => match x with
    | .lst ds => (ds.mapM (fixN n)).map .tup
    | .tup ds => (ds.mapM (fixN n)).map .tup
    | .int i => some (.int i)
    | .str s => some (.str s)
    | .bl b => some (.bl b)
    | .non => some .non
    | _ => none
end K25

set_option maxRecDepth 100000
set_option maxHeartbeats 0
namespace K25
open PySem L2 FW VL PyProof.Rows
def tupAB (K : PySem.W.Frag) (a : Addr) (vs : List V) : Bool := match K.lookup a with
  | some ⟨.type c, _, .seq its _, _⟩ => decide (c = "tuple") && (decide (its.size ≤ sizeLine) && He.relAll vs its.toList)
  | _ => false
theorem tupAB_ok {K : PySem.W.Frag} {a : Addr} {vs : List V} (h : tupAB K a vs = true) (H : Hp) : SqT K H a vs := by
  unfold tupAB at h
  split at h
  · rename_i c dd its n sl q
    simp only [Bool.and_eq_true, decide_eq_true_eq] at h
    obtain ⟨h1, h2, h3⟩ := h
    exact .inr ⟨_, its, n, q, congrArg Value.type h1, rfl, h2, He.relAll_ok h3⟩
  · cases h
theorem isAll_strs {K : PySem.W.Frag} {μ : Mu} {H : Hp} : ∀ ws : List Str, IsAll K μ H (ws.map V.str) (ws.map D.str)
  | [] => .nil
  | w :: ws => .cons (.str w) (isAll_strs ws)
theorem tup_strs {K : PySem.W.Frag} {a : Addr} {ws : List Str} (h : tupAB K a (ws.map V.str) = true) : ∀ μ H, Is K μ H (.ref a) (.tup (ws.map .str)) := fun μ H => .tup (.inr (tupAB_ok h _)) (isAll_strs ws)
def numsK : List (Str × He.Dv) := NUMS.map fun q => (q.1, .adr (pathN q.1))
def gloK (l : List (Str × Str)) : List (Str × He.Dv) := l.map fun q => (q.1, .glo q.2)
theorem nums_of {K : PySem.W.Frag} {w : World} {a : Addr} (d : ∃ es n, KDict K w a es n) (v : He.valsB K a numsK = true) (o : onlyB K a (numsK.map (·.1)) = true) (t : (NUMS.all fun q => tupAB K (pathN q.1 K) [.int q.2.1, .int q.2.2]) = true) : KMap K w a (numsP K) :=
  kmap_of d v o (by unfold numsP numsK; rw [List.map_map, List.map_map]; rfl) fun p hp μ H => by
    obtain ⟨q, hq, rfl⟩ := List.mem_map.mp hp
    exact .tup (.inr (tupAB_ok (List.all_eq_true.mp t q hq) _)) (.cons (.int _) (.cons (.int _) .nil))
theorem glo_of {K : PySem.W.Frag} {w : World} {a : Addr} {l : List (Str × Str)} (d : ∃ es n, KDict K w a es n) (v : He.valsB K a (gloK l) = true) (o : onlyB K a ((gloK l).map (·.1)) = true) : KMap K w a (gloP K l) :=
  kmap_of d v o (by unfold gloP gloK; rw [List.map_map, List.map_map]; rfl) fun p hp μ H => by
    obtain ⟨q, hq, rfl⟩ := List.mem_map.mp hp
    exact .ref _
theorem fund_of {K : PySem.W.Frag} {x qual : Str} {st : Stmt} {f : Addr} {fd : FuncData} (F : Fun K x qual st f fd) : FunD K x qual (defArgs st) (defBody st) (defScope st) [] [] f fd := by
  obtain ⟨oc, od, kV, doc, pm, an, cdv, ct, osl, e, lk, hcd⟩ := F.ex
  exact ⟨⟨oc, od, .none, kV, doc, pm, an, cdv, ct, osl, e, lk, hcd, .inl ⟨rfl, rfl⟩, .inl rfl⟩, F.kp⟩
def s_BadNumber_init : Stmt := inClass (top 13) 0
theorem sc_BadNumber_init : FnScope [("self" : Str), "part"] [("self" : Str), "part"] (defScope s_BadNumber_init) := ⟨rfl, rfl, rfl, by decide +kernel, rfl, by decide +kernel, by decide +kernel⟩
def s_BadCode_init : Stmt := inClass (top 14) 0
theorem sc_BadCode_init : FnScope [("self" : Str), "part"] [("self" : Str), "part"] (defScope s_BadCode_init) := ⟨rfl, rfl, rfl, by decide +kernel, rfl, by decide +kernel, by decide +kernel⟩
def fa : List He.Fa := [.free "abs", .free "all", .free "any", .free "bool", .free "enumerate", .free "int", .free "isinstance", .free "iter", .free "len", .free "list", .free "range", .free "repr", .free "set", .free "str", .free "tuple", .cls "Code", .cls "Computer", .glo "ACTS", .glo "Code", .glo "Computer", .glo "DEEDS", .int "LEAST_SHORT" (-2147483648), .int "MOST_CARDS" (5), .int "MOST_DISK" (200), .int "MOST_MEMORY" (1000), .int "MOST_ROWS" (10000), .int "MOST_SHORT" (2147483647), .int "MOST_STACK" (1000), .int "MOST_WAITING" (400), .glo "NUMBERS", .glo "PLAIN", .glo "SIGNS", .glo "_law_awake", .glo "_law_bench", .glo "_law_is_so", .glo "_law_moment_right", .glo "_law_outside", .glo "_law_piece", .glo "_law_popped", .glo "_law_settled", .glo "_law_signed", .glo "_law_step", .glo "_law_tool", .glo "_law_turn", .glo "_law_wrap", .glo "_law_written", .glo "are_disk_pairs", .glo "are_integers", .glo "are_rows", .glo "are_shorts", .glo "deed_of_row", .glo "do_sign", .glo "fixed", .glo "is_disk", .glo "is_disk_pair", .glo "is_instruction", .glo "is_integer", .glo "is_list", .glo "is_lot", .glo "is_short", .glo "is_target_beyond", .glo "is_within", .glo "popped", .glo "push_short", .glo "short_of", .meth "Code" "__eq__", .meth "Code" "__iter__", .meth "Computer" "cut", .meth "Computer" "go", .meth "Computer" "hand", .meth "Computer" "memory", .meth "Computer" "power_on", .meth "Computer" "step", .mkr "Code", .mkr "Computer", .noat "Code" "rows", .noat "Computer" "at", .noat "Computer" "code", .noat "Computer" "deeds", .noat "Computer" "given", .noat "Computer" "held", .noat "Computer" "laid", .noat "Computer" "pile", .noat "Computer" "queue", .noat "Computer" "settled", .noat "Computer" "written", .glo "BadNumber", .glo "BadCode", .glo "law"]
def fn : List He.DefD := [dTop "is_list" s_is_list, dTop "is_integer" s_is_integer, dTop "is_within" s_is_within, dTop "is_short" s_is_short, dTop "are_shorts" s_are_shorts, dTop "are_integers" s_are_integers, dTop "is_lot" s_is_lot, dTop "fixed" s_fixed, dTop "short_of" s_short_of, dTop "added" s_added, dTop "taken_from" s_taken_from, dTop "multiplied" s_multiplied, dTop "divided" s_divided, dTop "left_over" s_left_over, dTop "is_less" s_is_less, dTop "is_equal" s_is_equal, dTop "are_both" s_are_both, dTop "is_any" s_is_any, dTop "is_instruction" s_is_instruction, dTop "is_target_beyond" s_is_target_beyond, dTop "are_rows" s_are_rows, dIn "Code" "__init__" s_Code___init__, dIn "Code" "__eq__" s_Code___eq__, dIn "Code" "__iter__" s_Code___iter__, dTop "push_short" s_push_short, dTop "popped" s_popped, dTop "do_push" s_do_push, dTop "do_load" s_do_load, dTop "do_store" s_do_store, dTop "do_fetch" s_do_fetch, dTop "do_put" s_do_put, dTop "do_not" s_do_not, dTop "do_drop" s_do_drop, dTop "do_copy" s_do_copy, dTop "do_jump" s_do_jump, dTop "do_unless" s_do_unless, dTop "do_wait" s_do_wait, dTop "do_sign" s_do_sign, dTop "do_read" s_do_read, dTop "do_write" s_do_write, dTop "do_barrier" s_do_barrier, dTop "do_send" s_do_send, dTop "do_take" s_do_take, dTop "do_input" s_do_input, dTop "do_show" s_do_show, dTop "deed_of_row" s_deed_of_row, dTop "is_disk_pair" s_is_disk_pair, dTop "are_disk_pairs" s_are_disk_pairs, dTop "is_disk" s_is_disk, dIn "Computer" "power_on" s_Computer_power_on, (⟨("Computer", some "__init__"), "__init__", "Computer.__init__", defArgs s_Computer___init__, defBody s_Computer___init__, defScope s_Computer___init__, [.adr (He.dflAt ("Computer", some "__init__") 0)], []⟩ : He.DefD), dIn "Computer" "memory" s_Computer_memory, dIn "Computer" "hand" s_Computer_hand, dIn "Computer" "cut" s_Computer_cut, dIn "Computer" "go" s_Computer_go, dIn "Computer" "step" s_Computer_step, dTop "_law_bench" s__law_bench, dTop "_law_turn" s__law_turn, dTop "_law_tool" s__law_tool, dTop "_law_wrap" s__law_wrap, dTop "_law_signed" s__law_signed, dTop "_law_popped" s__law_popped, dTop "_law_written" s__law_written, dTop "_law_settled" s__law_settled, dTop "_law_awake" s__law_awake, dTop "_law_outside" s__law_outside, dTop "_law_step" s__law_step, dTop "_law_piece" s__law_piece, dTop "_law_is_so" s__law_is_so, dTop "_law_moment_right" s__law_moment_right, dTop "law" s_law, dIn "BadNumber" "__init__" s_BadNumber_init, dIn "BadCode" "__init__" s_BadCode_init]

def ts : List He.Tab := [(fun K => He.ga K "NUMBERS", numsK.map (·.1)), (fun K => He.ga K "ACTS", (gloK ACTF).map (·.1)), (fun K => He.ga K "DEEDS", (gloK DEEDF).map (·.1))]

def prs : List Pr := [⟨"Computer", "stack", "Computer.stack", s_Computer_stack⟩, ⟨"Computer", "disk", "Computer.disk", s_Computer_disk⟩, ⟨"Computer", "waiting", "Computer.waiting", s_Computer_waiting⟩, ⟨"Computer", "cards", "Computer.cards", s_Computer_cards⟩]
def ex (K : PySem.W.Frag) : Bool := (prs.all fun p => propB K (He.ga K p.C) p.f p.q) && (tupAB K (He.ga K "PLAIN") (PLAINW.map V.str) && (tupAB K (He.ga K "SIGNS") (SIGNW.map V.str) && (He.valsB K (He.ga K "NUMBERS") numsK && (onlyB K (He.ga K "NUMBERS") (numsK.map (·.1)) && ((NUMS.all fun q => tupAB K (pathN q.1 K) [.int q.2.1, .int q.2.2]) &&
  (He.valsB K (He.ga K "ACTS") (gloK ACTF) && (onlyB K (He.ga K "ACTS") ((gloK ACTF).map (·.1)) && (He.valsB K (He.ga K "DEEDS") (gloK DEEDF) && (onlyB K (He.ga K "DEEDS") ((gloK DEEDF).map (·.1)) && (VL.insB K (He.ga K "Code") && (decide (PySem.W.kitOne K (.ref (He.ga K "Code")) (.ref (He.ga K "Code")) = some true) &&
  (tupAB K (He.dflAt ("Computer", some "__init__") 0 K) [] && ((exnB K "BadNumber" "part") && ((exnB K "BadCode" "part")))))))))))))))
abbrev hk : PySem.W.Hook := hookR fa fn ts ex prs
end K25

set_option maxRecDepth 100000
set_option maxHeartbeats 0
namespace K25
open PySem PySem.W PySem.Calls PyProof.Rows
abbrev Rw : OpenRow := OpenLaw.row PySem.Challenge.rw_fairweather_k25_whole_an_own_computer
abbrev qv : Program := view Rw.prog [93]
def names0 : List PySem.Str := [("_wall" : PySem.Str), ("LEAST_SHORT" : PySem.Str), ("MOST_SHORT" : PySem.Str), ("is_list" : PySem.Str), ("is_integer" : PySem.Str), ("is_within" : PySem.Str), ("are_integers" : PySem.Str), ("is_lot" : PySem.Str), ("is_short" : PySem.Str), ("are_shorts" : PySem.Str), ("WeatherError" : PySem.Str), ("BadNumber" : PySem.Str), ("BadCode" : PySem.Str), ("BadText" : PySem.Str), ("fixed" : PySem.Str), ("SIGNS" : PySem.Str), ("short_of" : PySem.Str), ("added" : PySem.Str), ("taken_from" : PySem.Str), ("multiplied" : PySem.Str), ("divided" : PySem.Str), ("left_over" : PySem.Str), ("is_less" : PySem.Str), ("is_equal" : PySem.Str), ("are_both" : PySem.Str), ("is_any" : PySem.Str), ("ACTS" : PySem.Str), ("MOST_DIGITS" : PySem.Str), ("number_in" : PySem.Str), ("Reader" : PySem.Str), ("MOST_ROWS" : PySem.Str), ("NUMBERS" : PySem.Str), ("PLAIN" : PySem.Str), ("is_instruction" : PySem.Str), ("is_target_beyond" : PySem.Str), ("are_rows" : PySem.Str), ("Code" : PySem.Str), ("read_row" : PySem.Str), ("MOST_MEMORY" : PySem.Str), ("MOST_STACK" : PySem.Str)]
def names1 : List PySem.Str := [("MOST_DISK" : PySem.Str), ("MOST_WAITING" : PySem.Str), ("push_short" : PySem.Str), ("popped" : PySem.Str), ("do_push" : PySem.Str), ("do_load" : PySem.Str), ("do_store" : PySem.Str), ("do_fetch" : PySem.Str), ("do_put" : PySem.Str), ("do_sign" : PySem.Str), ("do_not" : PySem.Str), ("do_drop" : PySem.Str), ("do_copy" : PySem.Str), ("do_jump" : PySem.Str), ("do_unless" : PySem.Str), ("do_read" : PySem.Str), ("do_write" : PySem.Str), ("do_barrier" : PySem.Str), ("do_send" : PySem.Str), ("do_take" : PySem.Str), ("do_input" : PySem.Str), ("do_show" : PySem.Str), ("do_wait" : PySem.Str), ("DEEDS" : PySem.Str), ("deed_of_row" : PySem.Str), ("MOST_CARDS" : PySem.Str), ("is_disk_pair" : PySem.Str), ("are_disk_pairs" : PySem.Str), ("is_disk" : PySem.Str), ("Computer" : PySem.Str), ("_law_bench" : PySem.Str), ("_law_turn" : PySem.Str), ("_law_tool" : PySem.Str), ("_law_wrap" : PySem.Str), ("_law_signed" : PySem.Str), ("_law_popped" : PySem.Str), ("_law_written" : PySem.Str), ("_law_settled" : PySem.Str), ("_law_awake" : PySem.Str), ("_law_outside" : PySem.Str)]
def names2 : List PySem.Str := [("_law_step" : PySem.Str), ("_law_piece" : PySem.Str), ("_law_is_so" : PySem.Str), ("_law_moment_right" : PySem.Str)]
def names : List PySem.Str := names0 ++ names1 ++ names2
theorem run0 (w : World) : HandSHeadRun.RunEq Rw qv hk (FW.obT fa fn ts ex prs) 6000 names (w.withFollow "special-get-raises" false) := fun os => by kernel_rfl
theorem run1 (w : World) : HandSHeadRun.RunEq Rw qv hk (FW.obT fa fn ts ex prs) 6000 names (w.withFollow "special-get-raises" true) := fun os => by kernel_rfl
theorem run (w : World) : HandSHeadRun.RunEq Rw qv hk (FW.obT fa fn ts ex prs) 6000 names w :=
  byRow2 "special-get-raises" (P := fun w => HandSHeadRun.RunEq Rw qv hk (FW.obT fa fn ts ex prs) 6000 names w) run0 run1 w
end K25

set_option maxRecDepth 100000
set_option maxHeartbeats 4000000
namespace K25
open PySem L2 FW VL
local macro_rules | `(tactic| walk_at "vr") => `(tactic| simp only [wLenSet, wFor, wSetF, wAugF, wAug, wBM, wProp, wHeld, wVar, wC, wZ, wOp, wUn, wNil, wCons, wStar, wCB, wTup, wLst, wLstM, wTest, wAnd, wOr, VL.wNot, wAndV, wOrV, wNotV, wIf, wChain, wNoPart, wPart, wSl, wName, wGNil, wGCons, wGTup, wSub, wNext, VL.wSeq, wAsg, wDrop, wRet, wRetN, wIfS, wBreak, wCont, wPar, vI0, vI, vU, vAdd, vSub, vMul, vMod, vFdiv, vPow, vLt, vLe, vGt, vGe, vNeg, vIsN, vNotN, vAddA, vMulA, VL.wTru, iwL, iwT, wLc, vstart, List.map_cons, List.map_nil, List.cons_append, List.nil_append, List.set_cons_zero, List.set_cons_succ, List.getElem?_cons_zero, List.getElem?_cons_succ, Option.some.injEq, exists_eq_left, exists_eq_left', exists_eq', D.bl.injEq, D.int.injEq, D.str.injEq, D.tup.injEq, D.ref.injEq, List.cons.injEq, and_true, true_and, List.length_cons, List.length_nil, List.replicate, D.ty.injEq, exists_and_left, List.length, Nat.reduceAdd, wCall, wMake, wMeth, wFld, argsD, argD, toArg, List.getD_cons_zero, List.getD_cons_succ, List.map, iwS, vTupOf, Bool.false_eq_true, if_false, if_true, reduceIte, List.getElem?_nil, Nat.reduceSub, wipeR, vLen_lst, vLen_tup, vEq_ii, vEq_ss, vEq_bb, vIx_lst, vIx_tup, vIn_strs, vIn_s2, vIn_s3, vAll_map, vInK_s, vIxK_s, vInt_i, vAbs_i, atI_0, atI_1, atI_2, Bool.not_true, Bool.not_false, seqOf_lst, seqOf_tup, lstOf_lst, tupOf_tup, fzL_lst, N_is_list, N_is_integer, N_is_within, N_is_short, N_are_shorts, N_are_integers, N_is_lot, N_fixed, N_short_of, N_added, N_taken_from, N_multiplied, N_divided, N_left_over, N_is_less, N_is_equal, N_are_both, N_is_any, N_is_instruction, N_is_target_beyond, N_are_rows, N_Code___init__, N_Code___eq__, N_Code___iter__, N_push_short, N_popped, N_do_push, N_do_load, N_do_store, N_do_fetch, N_do_put, N_do_not, N_do_drop, N_do_copy, N_do_jump, N_do_unless, N_do_wait, N_do_sign, N_do_read, N_do_write, N_do_barrier, N_do_send, N_do_take, N_do_input, N_do_show, N_deed_of_row, N_is_disk_pair, N_are_disk_pairs, N_is_disk, N_Computer_power_on, N_Computer___init__, N_Computer_stack, N_Computer_disk, N_Computer_waiting, N_Computer_cards, N_Computer_memory, N_Computer_hand, N_Computer_cut, N_Computer_go, N_Computer_step, N__law_bench, N__law_turn, N__law_tool, N__law_wrap, N__law_signed, N__law_popped, N__law_written, N__law_settled, N__law_awake, N__law_outside, N__law_step, N__law_piece, N__law_is_so, N__law_moment_right, N_law])
local macro_rules | `(tactic| walk_at "frz") => `(tactic| ((try walk_at "vr"); refine ⟨_, frzOf_lst Mu.same, ?_⟩; rw [Mu.del_set (by assumption)]))
/-! ### fixed -/
theorem mapM_some {f : D → Option D} {g : D → D} : ∀ {ds es : List D}, ds.mapM f = some es → (∀ d ∈ ds, ∀ e, f d = some e → g d = e) → es = ds.map g ∧ ∀ d ∈ ds, f d = some (g d)
  | [], es, h, _ => by simp at h; subst h; exact ⟨rfl, fun _ z => nomatch z⟩
  | d :: ds, es, h, hg => by
    rw [List.mapM_cons] at h
    cases h1 : f d with
    | none => rw [h1] at h; cases h
    | some e =>
      rw [h1] at h
      cases h2 : ds.mapM f with
      | none => rw [h2] at h; cases h
      | some es' =>
        rw [h2] at h
        cases h
        obtain ⟨i1, i2⟩ := mapM_some h2 fun d hd => hg d (List.mem_cons_of_mem _ hd)
        have e1 := hg d (List.mem_cons_self ..) e h1
        refine ⟨by rw [List.map_cons, e1, i1], fun x hx => ?_⟩
        rcases List.mem_cons.mp hx with rfl | hx
        · rw [e1]; exact h1
        · exact i2 x hx
/-- lists short enough, all through -/
def shortN : Nat → D → Prop
  | 0, _ => True
  | n + 1, x => match x with
    | .lst ds => ds.length ≤ sizeLine ∧ ∀ d ∈ ds, shortN n d
    | .tup ds => ds.length ≤ sizeLine ∧ ∀ d ∈ ds, shortN n d
    | _ => True
def sp_fixed (n : Nat) : VSp := fun ds μ ev Φ => ∃ x y, ds = [x] ∧ fixN n x = some y ∧ shortN n x ∧ Φ y μ
theorem fix_kd {μ : Mu} {n : Nat} {x y : D} (h : fixN n x = some y) : Kd μ x := by
  cases n with
  | zero => cases h
  | succ n => cases x <;> first | exact ⟨_, rfl⟩ | simp [fixN] at h
theorem b_fixed {P : Program} {w : World} {K : PySem.W.Frag} {mg : Str → Option Value} {base : Heap} (T : Txt w K mg) (n : Nat) (ih : CanV P w K mg base CX0 [] (n + 1) (He.ga K "fixed") 1 [] ([.inl 0].map (toArg [] [])) (sp_fixed n)) : ∀ fd, FunD K "fixed" "fixed" (defArgs s_fixed) (defBody s_fixed) (defScope s_fixed) [] [] (He.ga K "fixed") fd →
    FnG P w K mg base CX0 (n + 2) (He.ga K "fixed") fd ["value"] (lift K [] (sp_fixed (n + 1))) := by
  intro fd F
  refine fun_okD (N := N_fixed) F sc_fixed (fun ds μ ev Φ h => ?size) (fun cdv A outer s H E hG hr => ⟨_, (vss_cons (vs_if (vt_val (ve_call T.g_is_list (c_is_list_1 T) hG hr (Nat.le_add_left 1 n) pass0 sel_0 rfl (va_cons (vv 0) va_nil) vk_nil))
 (vss_one (vs_ret (ve_callTy call_tuple_of s_tuple (by rfl) T.b_tuple (by decide +kernel) (va_cons (ve_z (ve_lc (own := [("item", 1)]) (p := (.name 1)) rfl sc_fixed.nd (vi_seq (vv 0)) (blkOk_by (N := N_fixed) (sc := defScope s_fixed) (by decide +kernel)) (fun _ _ _ _ _ => pg_name (i := 1) sc_fixed.nd rfl (Or.inl rfl)) (fun _ _ _ _ _ => vts_nil) (fun _ _ _ _ _ => (ve_call T.g_fixed ih hG hr (Nat.le_refl _) pass0 sel_0 rfl (va_cons (vv 1) va_nil) vk_nil)) (by decide))) va_nil))))
 vss_nil)
 (vss_one (vs_ret (vv 0)))), fun ds μ ev Φ h => ?_⟩)
  · obtain ⟨x, y, rfl, _⟩ := h; rfl
  · obtain ⟨x, y, rfl, hf, hs, q⟩ := h
    walk_at "vr"
    refine ⟨x, rfl, fix_kd (μ := μ) hf, ?_⟩
    walk_at "vr"
    have seq : ∀ ds, fzL x = some ds ∨ tupOf x = some ds → isLst μ x = true ∧ ds.length ≤ sizeLine ∧ (∀ d ∈ ds, shortN n d) ∧ ∃ es, ds.mapM (fixN n) = some es ∧ y = .tup es := fun ds e => by
      cases x with
      | lst es =>
        have e : es = ds := by simpa [fzL, tupOf] using e
        subst e
        obtain ⟨h1, h2⟩ := hs
        simp only [fixN, Option.map_eq_some_iff] at hf
        obtain ⟨es, h3, h4⟩ := hf
        exact ⟨by simp [isLst, tyD], h1, h2, es, h3, h4.symm⟩
      | tup es =>
        have e : es = ds := by simpa [fzL, tupOf] using e
        subst e
        obtain ⟨h1, h2⟩ := hs
        simp only [fixN, Option.map_eq_some_iff] at hf
        obtain ⟨es, h3, h4⟩ := hf
        exact ⟨by simp [isLst, tyD], h1, h2, es, h3, h4.symm⟩
      | sq es => simp [fixN] at hf
      | _ => simp [fzL, tupOf] at e
    by_cases hx : ∃ ds, fzL x = some ds ∨ tupOf x = some ds
    · obtain ⟨ds, e⟩ := hx
      obtain ⟨h1, h2, h3, es, h4, rfl⟩ := seq ds e
      obtain ⟨e5, h6⟩ := mapM_some (g := fun d => (fixN n d).getD .non) h4 fun d _ e he => by show (fixN n d).getD .non = e; rw [he]; rfl
      rw [h1]
      walk_at "vr"
      refine ⟨ds, e, lcm (fun d => (fixN n d).getD .non) h2 (fun d hd => ⟨_, rfl, fun Ds l Ψ nD q => ?_⟩) fun Ds nD => ?_⟩
      · walk_at "vr"
        exact ⟨d, _, rfl, h6 d hd, h3 d hd, q⟩
      · walk_at "frz"
        walk_at "vr"
        rw [e5] at q
        exact q
    · have e1 : isLst μ x = false := by
        cases x <;> first | rfl | (exfalso; exact hx ⟨_, .inl rfl⟩) | (exfalso; exact hx ⟨_, .inr rfl⟩) | (simp [fixN] at hf)
      rw [e1]
      walk_at "vr"
      have e2 : x = y := by cases x <;> simp [fixN] at hf <;> first | exact hf | (exfalso; exact hx ⟨_, .inl rfl⟩) | (exfalso; exact hx ⟨_, .inr rfl⟩)
      rw [e2]; exact q
theorem c_fixed {P : Program} {w : World} {K : PySem.W.Frag} {mg : Str → Option Value} {base : Heap} (T : Txt w K mg) : ∀ n, CanV P w K mg base CX0 [] (n + 1) (He.ga K "fixed") 1 [] ([.inl 0].map (toArg [] [])) (sp_fixed n)
  | 0 => canV_of (ps := ["value"]) [.inl 0] T.f_fixed (fun fd F => ⟨fun vs H Q E ⟨ds, μ, ev, Φ, _, _, _, ⟨x, y, _, h, _⟩, _⟩ => (nomatch h), fun _ _ _ _ _ _ _ _ _ _ _ _ _ _ ⟨ds, μ, ev, Φ, _, _, _, ⟨x, y, _, h, _⟩, _⟩ => (nomatch h)⟩) (fun _ _ _ _ _ _ us ws h1 h2 => match us, ws, h1, h2 with | [_], [], _, _ => rfl) (by decide)
  | n + 1 => canV_of (ps := ["value"]) [.inl 0] T.f_fixed (b_fixed T n (c_fixed T n)) (fun _ _ _ _ _ _ us ws h1 h2 => match us, ws, h1, h2 with | [_], [], _, _ => rfl) (by decide)
theorem c_fixed_1 {P : Program} {w : World} {K : PySem.W.Frag} {mg : Str → Option Value} {base : Heap} (T : Txt w K mg) : CanV P w K mg base CX0 [] 4 (He.ga K "fixed") 1 [] ([.inl 0].map (toArg [] [])) (sp_fixed 3) := c_fixed T 3
end K25

set_option maxRecDepth 100000
set_option maxHeartbeats 4000000
namespace K25
open PySem L2 FW VL
local macro_rules | `(tactic| walk_at "vr") => `(tactic| simp only [wLenSet, wFor, wSetF, wAugF, wAug, wBM, wProp, wHeld, wVar, wC, wZ, wOp, wUn, wNil, wCons, wStar, wCB, wTup, wLst, wLstM, wTest, wAnd, wOr, VL.wNot, wAndV, wOrV, wNotV, wIf, wChain, wNoPart, wPart, wSl, wName, wGNil, wGCons, wGTup, wSub, wNext, VL.wSeq, wAsg, wDrop, wRet, wRetN, wIfS, wBreak, wCont, wPar, vI0, vI, vU, vAdd, vSub, vMul, vMod, vFdiv, vPow, vLt, vLe, vGt, vGe, vNeg, vIsN, vNotN, vAddA, vMulA, VL.wTru, iwL, iwT, wLc, vstart, List.map_cons, List.map_nil, List.cons_append, List.nil_append, List.set_cons_zero, List.set_cons_succ, List.getElem?_cons_zero, List.getElem?_cons_succ, Option.some.injEq, exists_eq_left, exists_eq_left', exists_eq', D.bl.injEq, D.int.injEq, D.str.injEq, D.tup.injEq, D.ref.injEq, List.cons.injEq, and_true, true_and, List.length_cons, List.length_nil, List.replicate, D.ty.injEq, exists_and_left, List.length, Nat.reduceAdd, wCall, wMake, wMeth, wFld, argsD, argD, toArg, List.getD_cons_zero, List.getD_cons_succ, List.map, iwS, vTupOf, Bool.false_eq_true, if_false, if_true, reduceIte, List.getElem?_nil, Nat.reduceSub, wipeR, vLen_lst, vLen_tup, vEq_ii, vEq_ss, vEq_bb, vIx_lst, vIx_tup, vIn_strs, vIn_s2, vIn_s3, vAll_map, vInK_s, vIxK_s, vInt_i, vAbs_i, atI_0, atI_1, atI_2, Bool.not_true, Bool.not_false, seqOf_lst, seqOf_tup, lstOf_lst, tupOf_tup, fzL_lst, N_is_list, N_is_integer, N_is_within, N_is_short, N_are_shorts, N_are_integers, N_is_lot, N_fixed, N_short_of, N_added, N_taken_from, N_multiplied, N_divided, N_left_over, N_is_less, N_is_equal, N_are_both, N_is_any, N_is_instruction, N_is_target_beyond, N_are_rows, N_Code___init__, N_Code___eq__, N_Code___iter__, N_push_short, N_popped, N_do_push, N_do_load, N_do_store, N_do_fetch, N_do_put, N_do_not, N_do_drop, N_do_copy, N_do_jump, N_do_unless, N_do_wait, N_do_sign, N_do_read, N_do_write, N_do_barrier, N_do_send, N_do_take, N_do_input, N_do_show, N_deed_of_row, N_is_disk_pair, N_are_disk_pairs, N_is_disk, N_Computer_power_on, N_Computer___init__, N_Computer_stack, N_Computer_disk, N_Computer_waiting, N_Computer_cards, N_Computer_memory, N_Computer_hand, N_Computer_cut, N_Computer_go, N_Computer_step, N__law_bench, N__law_turn, N__law_tool, N__law_wrap, N__law_signed, N__law_popped, N__law_written, N__law_settled, N__law_awake, N__law_outside, N__law_step, N__law_piece, N__law_is_so, N__law_moment_right, N_law])
local macro_rules | `(tactic| walk_at "frz") => `(tactic| ((try walk_at "vr"); refine ⟨_, frzOf_lst Mu.same, ?_⟩; rw [Mu.del_set (by assumption)]))
/-! ### instructions -/
def oneIn (r : List D) (lo hi : Int) : Bool := match r with
  | [x] => within x (some lo) (some hi)
  | _ => false
def insL (es : List D) : Bool := match es with
  | .str w :: r => (match NUMS.lookup w with
    | some p => oneIn r p.1 p.2
    | none => r.isEmpty && (PLAINW.contains w || SIGNW.contains w))
  | _ => false
def insB (μ : Mu) (v : D) : Bool := isLst μ v && insL ((seqOf μ v).getD [])
theorem insB_of {μ : Mu} {v : D} {es : List D} (h1 : isLst μ v = true) (h2 : seqOf μ v = some es) : insB μ v = insL es := by unfold insB; rw [h1, h2]; rfl
/-- a value that may be judged as a row -/
structure RowV (μ : Mu) (v : D) : Prop where
  kd : Kd μ v
  sq : isLst μ v = true → ∃ es, seqOf μ v = some es ∧ ∀ e ∈ es, Kd μ e
theorem ty_str {μ : Mu} {x : D} (h : isTy μ x "str" = true) : ∃ i, x = .str i := by
  unfold isTy at h
  cases x <;> simp [tyD] at h <;> first | exact ⟨_, rfl⟩ | skip
  split at h <;> simp at h
def sp_is_instruction : VSp := fun ds μ ev Φ => ∃ v, ds = [v] ∧ RowV μ v ∧ Φ (.bl (insB μ v)) μ
theorem b_is_instruction {P : Program} {w : World} {K : PySem.W.Frag} {mg : Str → Option Value} {base : Heap} (T : Txt w K mg) : ∀ fd, FunD K "is_instruction" "is_instruction" (defArgs s_is_instruction) (defBody s_is_instruction) (defScope s_is_instruction) [] [] (He.ga K "is_instruction") fd → FnG P w K mg base CX0 3 (He.ga K "is_instruction") fd ["value"] (lift K [] (sp_is_instruction)) := by
  intro fd F
  refine fun_okD (N := N_is_instruction) F sc_is_instruction (fun ds μ ev Φ h => ?size) (fun cdv A outer s H E hG hr => ⟨_, (vss_cons (vs_if (PW.pt (vw_or (vt_not (vt_val (ve_call T.g_is_list (c_is_list_1 T) hG hr (by decide) pass0 sel_0 rfl (va_cons (vv 0) va_nil) vk_nil))) (vw_or (vt_cmp (op_eqA hr.units) s_eq (ve_callB call_lenA s_len (by rfl) T.b_len (by decide +kernel) (va_cons (vv 0) va_nil)) ve_int (nomark _)) (vw_or1 (vt_not (vt_val (ve_callB call_isi s_isi (by rfl) T.b_isinstance (by decide +kernel) (va_cons (ve_ix ix_seq s_ix (vv 0) ve_int) (va_cons (ve_ty (n := "str") rfl T.b_str (by decide +kernel)) va_nil)))))))))
 (vss_one (vs_ret ve_bl))
 vss_nil)
 (vss_cons (vs_set (i := 1) sc_is_instruction.nd rfl (Or.inl rfl) (ve_ix ix_seq s_ix (vv 0) ve_int))
 (vss_cons (vs_if (vt_cmp (op_inK T.k_NUMBERS) s_inK (vv 1) (ve_gref rfl T.g_NUMBERS) (by rfl))
 (vss_cons (vs_asg (ve_ix (ix_K T.k_NUMBERS) (s_ixK T.k_NUMBERS) (ve_gref rfl T.g_NUMBERS) (vv 1)) (vg_tup (fun _ h => pg_tup (n := 2) rfl h) (vgs_cons (vg_name (i := 2) sc_is_instruction.nd rfl (Or.inl rfl)) (vgs_cons (vg_name (i := 3) sc_is_instruction.nd rfl (Or.inl rfl)) vgs_nil))))
 (vss_one (vs_ret (ve_and (ve_cmp (op_eqA hr.units) s_eq (ve_callB call_lenA s_len (by rfl) T.b_len (by decide +kernel) (va_cons (vv 0) va_nil)) ve_int (nomark _)) (ve_one (ve_call T.g_is_within (c_is_within_3 T) hG hr (by decide) pass0 sel_0 rfl (va_cons (ve_ix ix_seq s_ix (vv 0) ve_int) (va_cons (vv 2) (va_cons (vv 3) va_nil))) vk_nil))))))
 vss_nil)
 (vss_one (vs_ret (ve_and (ve_cmp (op_eqA hr.units) s_eq (ve_callB call_lenA s_len (by rfl) T.b_len (by decide +kernel) (va_cons (vv 0) va_nil)) ve_int (nomark _)) (ve_one (ve_or (ve_cmp op_in_seq s_in (vv 1) (ve_gc rfl T.g_PLAIN fun μ H => T.t_PLAIN μ H) (by rfl)) (ve_one (ve_cmp op_in_seq s_in (vv 1) (ve_gc rfl T.g_SIGNS fun μ H => T.t_SIGNS μ H) (by rfl))))))))))), fun ds μ ev Φ h => ?_⟩)
  · obtain ⟨x, rfl, _⟩ := h; rfl
  · obtain ⟨v, rfl, hv, q⟩ := h
    walk_at "vr"
    refine ⟨v, rfl, hv.kd, ?_⟩
    walk_at "vr"
    cases h1 : isLst μ v with
    | false =>
      unfold insB at q
      rw [h1] at q
      simpa using q
    | true =>
      obtain ⟨es, h2, h3⟩ := hv.sq h1
      simp only [vLen_iff (lenOf_seqOf h2), vIx_iff h2]
      walk_at "vr"
      cases es with
      | nil =>
        simp only [List.length_nil]
        rw [insB_of h1 h2] at q
        simpa [insL] using q
      | cons e r =>
        walk_at "vr"
        rw [if_neg (by simp; omega)]
        simp only [vIx_iff h2]
        walk_at "vr"
        refine l_isi "str" (h3 e (List.mem_cons_self ..)) (.inl rfl) ?_
        walk_at "vr"
        cases hs : isTy μ e "str" with
        | false =>
          have : insB μ v = false := by
            rw [insB_of h1 h2]
            cases e <;> first | rfl | simp [isTy, tyD] at hs
          rw [this] at q
          simpa using q
        | true =>
          obtain ⟨w, rfl⟩ := ty_str hs
          simp only [Bool.not_true, Bool.false_eq_true, if_false, vIx_iff h2]
          walk_at "vr"
          rw [numsP_lookup]
          cases hn : NUMS.lookup w with
          | some p =>
            obtain ⟨lo, hi⟩ := p
            have e1 : insB μ v = oneIn r lo hi := by
              rw [insB_of h1 h2]
              simp only [insL, hn]
            rw [e1] at q
            simp only [Option.map_some, Option.isSome_some, if_true]
            walk_at "vr"
            refine ⟨_, _, ⟨rfl, rfl⟩, _, _, rfl, rfl, ?_⟩
            simp only [vLen_iff (lenOf_seqOf h2)]
            walk_at "vr"
            cases r with
            | nil => simpa [oneIn] using q
            | cons x r2 =>
              cases r2 with
              | nil =>
                rw [if_pos (by simp)]
                simp only [vIx_iff h2]
                walk_at "vr"
                exact ⟨x, some lo, some hi, rfl, h3 x (by simp), q⟩
              | cons y r3 =>
                rw [if_neg (by simp; omega)]
                exact q
          | none =>
            have e1 : insB μ v = (r.isEmpty && (PLAINW.contains w || SIGNW.contains w)) := by
              rw [insB_of h1 h2]
              simp only [insL, hn]
            rw [e1] at q
            simp only [Option.map_none, Option.isSome_none, Bool.false_eq_true, if_false, vLen_iff (lenOf_seqOf h2)]
            walk_at "vr"
            cases r with
            | cons x r2 =>
              rw [if_neg (by simp; omega)]
              exact q
            | nil =>
              simp only [List.length_cons, List.length_nil, List.isEmpty_nil, Bool.true_and] at q ⊢
              cases hp : PLAINW.contains w with
              | true => rw [hp] at q; simpa using q
              | false => rw [hp] at q; simpa using q
theorem c_is_instruction_1 {P : Program} {w : World} {K : PySem.W.Frag} {mg : Str → Option Value} {base : Heap} (T : Txt w K mg) : CanV P w K mg base CX0 [] 3 (He.ga K "is_instruction") 1 [] ([.inl 0].map (toArg [] [])) (sp_is_instruction) :=
  canV_of (ps := ["value"]) [.inl 0] T.f_is_instruction (b_is_instruction T) (fun _ _ _ _ _ _ us ws h1 h2 => match us, ws, h1, h2 with | [_], [], _, _ => rfl) (by decide)
/-! ### rows -/
def beyB (n : Nat) (es : List D) : Bool := match es with
  | .str w :: r => (w == "jump" || w == "unless") && (match r with
    | .int k :: _ => decide (k > n)
    | _ => false)
  | _ => false
/-- rows that may be asked for targets -/
def TgtV (μ : Mu) (v : D) : Prop := ∃ w r, seqOf μ v = some (.str w :: r) ∧ ((w == "jump" || w == "unless") = true → ∃ k r2, r = .int k :: r2)
def itemsOf (μ : Mu) (v : D) : List D := (seqOf μ v).getD []
def fz (v : D) : Option (List D) := match v with
  | .lst ds => some ds
  | .tup ds => some ds
  | _ => none
theorem fz_or {v : D} {ds : List D} (h : fz v = some ds) : fzL v = some ds ∨ tupOf v = some ds := by cases v <;> simp [fz] at h <;> subst h <;> simp [fzL, tupOf]
theorem fz_seq {μ : Mu} {v : D} {ds : List D} (h : fz v = some ds) : seqOf μ v = some ds := by cases v <;> simp [fz] at h <;> subst h <;> rfl
theorem fz_lst {μ : Mu} {v : D} {ds : List D} (h : fz v = some ds) : isLst μ v = true := by cases v <;> simp [fz] at h <;> simp [isLst, tyD]
theorem fz_kd {μ : Mu} {v : D} {ds : List D} (h : fz v = some ds) : Kd μ v := by cases v <;> simp [fz] at h <;> exact ⟨_, rfl⟩
theorem seqOf_ext {μ μ' : Mu} {v : D} (h : ∀ a, v ≠ .ref a) : seqOf μ' v = seqOf μ v := by cases v <;> first | rfl | exact (h _ rfl).elim
def sp_is_target_beyond : VSp := fun ds μ ev Φ => ∃ v rows, ds = [v] ∧ fz v = some rows ∧ rows.length ≤ 10000 ∧ (∀ r ∈ rows, ∃ es, fz r = some es ∧ TgtV μ r) ∧ Φ (.bl (rows.any fun r => beyB rows.length (itemsOf μ r))) μ
theorem b_is_target_beyond {P : Program} {w : World} {K : PySem.W.Frag} {mg : Str → Option Value} {base : Heap} (T : Txt w K mg) : ∀ fd, FunD K "is_target_beyond" "is_target_beyond" (defArgs s_is_target_beyond) (defBody s_is_target_beyond) (defScope s_is_target_beyond) [] [] (He.ga K "is_target_beyond") fd → FnG P w K mg base CX0 1 (He.ga K "is_target_beyond") fd ["rows"] (lift K [] (sp_is_target_beyond)) := by
  intro fd F
  refine fun_okD (N := N_is_target_beyond) F sc_is_target_beyond (fun ds μ ev Φ h => ?size) (fun cdv A outer s H E hG hr => ⟨_, (vss_one (vs_ret (ve_callB (cr_any rfl) s_any (by rfl) T.b_any (by decide +kernel) (va_cons (ve_z (ve_lc (own := [("row", 1)]) (p := (.name 1)) rfl sc_is_target_beyond.nd (vi_seq (vv 0)) (blkOk_by (N := N_is_target_beyond) (sc := defScope s_is_target_beyond) (by decide +kernel)) (fun _ _ _ _ _ => pg_name (i := 1) sc_is_target_beyond.nd rfl (Or.inl rfl)) (fun _ _ _ _ _ => vts_nil) (fun _ _ _ _ _ => (ve_and (ve_cmp op_in_seq s_in (ve_ix ix_seq s_ix (vv 1) ve_int) (ve_tup (va_cons ve_str (va_cons ve_str va_nil))) (by rfl)) (ve_one (ve_cmp op_gt s_gt (ve_ix ix_seq s_ix (vv 1) ve_int) (ve_callB call_lenA s_len (by rfl) T.b_len (by decide +kernel) (va_cons (vv 0) va_nil)) (nomark _))))) (by decide))) va_nil)))), fun ds μ ev Φ h => ?_⟩)
  · obtain ⟨x, r, rfl, _⟩ := h; rfl
  · obtain ⟨v, rows, rfl, hv, hl, hr', q⟩ := h
    walk_at "vr"
    refine ⟨rows, fz_or hv, lcm (fun r => .bl (beyB rows.length (itemsOf μ r))) (sizeOk (by omega)) (fun d hd => ⟨_, rfl, fun Ds l Ψ nD q => ?_⟩) fun Ds nD => ?_⟩
    · obtain ⟨es, h1, w, r, h2, h3⟩ := hr' d hd
      have h4 : seqOf (μ.set Ds (.lst l)) d = some (.str w :: r) := by rw [fz_seq h1]; rw [fz_seq h1] at h2; exact h2
      have e0 : itemsOf μ d = .str w :: r := by unfold itemsOf; rw [h2]; rfl
      rw [e0] at q
      walk_at "vr"
      simp only [vIx_iff h4]
      walk_at "vr"
      refine ⟨sizeOk (by decide), ?_⟩
      simp only [beyB] at q
      cases hw : (w == "jump" || w == "unless") with
      | false => rw [hw] at q; simpa using q
      | true =>
        rw [hw] at q
        obtain ⟨k, r2, rfl⟩ := h3 hw
        simp only [if_true, vIx_iff h4, vLen_iff (lenOf_seqOf (fz_seq hv))]
        walk_at "vr"
        simpa using q
    · walk_at "frz"
      walk_at "vr"
      exact q
theorem c_is_target_beyond_1 {P : Program} {w : World} {K : PySem.W.Frag} {mg : Str → Option Value} {base : Heap} (T : Txt w K mg) : CanV P w K mg base CX0 [] 1 (He.ga K "is_target_beyond") 1 [] ([.inl 0].map (toArg [] [])) (sp_is_target_beyond) :=
  canV_of (ps := ["rows"]) [.inl 0] T.f_is_target_beyond (b_is_target_beyond T) (fun _ _ _ _ _ _ us ws h1 h2 => match us, ws, h1, h2 with | [_], [], _, _ => rfl) (by decide)
/-- data that stays, of less than n levels -/
def Pl : Nat → D → Prop
  | 0, _ => False
  | n + 1, x => match x with
    | .int _ => True
    | .str _ => True
    | .bl _ => True
    | .non => True
    | .dic _ _ => True
    | .lst ds => ∀ d ∈ ds, Pl n d
    | .tup ds => ∀ d ∈ ds, Pl n d
    | _ => False
theorem Pl.kd {μ : Mu} {n : Nat} {x : D} (h : Pl n x) : Kd μ x := by
  cases n with
  | zero => exact h.elim
  | succ n => cases x <;> first | exact ⟨_, rfl⟩ | exact h.elim
theorem Pl.fz {μ : Mu} {n : Nat} {x : D} (h : Pl n x) (e : isLst μ x = true) : ∃ es, K25.fz x = some es := by
  cases n with
  | zero => exact h.elim
  | succ n => cases x <;> first | exact ⟨_, rfl⟩ | exact h.elim | simp [isLst, tyD] at e
theorem Pl.items {n : Nat} {x : D} {es : List D} (h : Pl (n + 1) x) (e : K25.fz x = some es) : ∀ d ∈ es, Pl n d := by
  cases x <;> simp [K25.fz] at e <;> subst e <;> exact h
theorem Pl.nolst {μ : Mu} {n : Nat} {x : D} (h : Pl n x) (e : isLst μ x = false) : K25.fz x = none := by
  cases n with
  | zero => exact h.elim
  | succ n => cases x <;> first | rfl | exact h.elim | simp [isLst, tyD] at e
theorem Pl.row {μ : Mu} {n : Nat} {x : D} (h : Pl (n + 2) x) : RowV μ x := ⟨h.kd, fun e => by
  obtain ⟨es, e⟩ := h.fz e
  exact ⟨es, fz_seq e, fun d hd => (h.items e d hd).kd⟩⟩
def insF (v : D) : Bool := match K25.fz v with
  | some es => insL es
  | none => false
theorem insB_F {μ : Mu} {n : Nat} {x : D} (h : Pl n x) : insB μ x = insF x := by
  cases e : isLst μ x with
  | true =>
    obtain ⟨es, e2⟩ := h.fz e
    rw [insB_of e (fz_seq e2)]; unfold insF; rw [e2]
  | false => unfold insB insF; rw [e, h.nolst e]; rfl
def beyF (n : Nat) (v : D) : Bool := match K25.fz v with
  | some es => beyB n es
  | none => false
theorem items_F {μ : Mu} {v : D} {es : List D} (e : K25.fz v = some es) : itemsOf μ v = es := by unfold itemsOf; rw [fz_seq e]; rfl
def rowsF (v : D) : Bool := match K25.fz v with
  | some rows => decide (1 ≤ rows.length) && decide (rows.length ≤ 10000) && (rows.all insF && !(rows.any (beyF rows.length)))
  | none => false
/-- a row that may be asked for its target -/
theorem ins_tgt {μ : Mu} {r : D} (h : insF r = true) : ∃ es, K25.fz r = some es ∧ TgtV μ r := by
  unfold insF at h
  cases e : K25.fz r with
  | none => rw [e] at h; cases h
  | some es =>
    rw [e] at h
    refine ⟨es, rfl, ?_⟩
    cases es with
    | nil => cases h
    | cons x r =>
      cases x <;> first | (cases h; done) | skip
      rename_i w
      refine ⟨w, r, fz_seq e, fun hw => ?_⟩
      have hn : (NUMS.lookup w).isSome = true := by
        rcases Bool.or_eq_true_iff.mp hw with q | q <;> rw [beq_iff_eq.mp q] <;> decide +kernel
      cases q : NUMS.lookup w with
      | none => rw [q] at hn; cases hn
      | some p =>
        simp only [insL, q] at h
        unfold oneIn at h
        split at h
        · rename_i x
          unfold within at h
          split at h
          · exact ⟨_, [], rfl⟩
          · cases h
        · cases h
def sp_are_rows : VSp := fun ds μ ev Φ => ∃ v, ds = [v] ∧ Pl 4 v ∧ Φ (.bl (rowsF v)) μ
theorem b_are_rows {P : Program} {w : World} {K : PySem.W.Frag} {mg : Str → Option Value} {base : Heap} (T : Txt w K mg) : ∀ fd, FunD K "are_rows" "are_rows" (defArgs s_are_rows) (defBody s_are_rows) (defScope s_are_rows) [] [] (He.ga K "are_rows") fd → FnG P w K mg base CX0 4 (He.ga K "are_rows") fd ["value"] (lift K [] (sp_are_rows)) := by
  intro fd F
  refine fun_okD (N := N_are_rows) F sc_are_rows (fun ds μ ev Φ h => ?size) (fun cdv A outer s H E hG hr => ⟨_, (vss_cons (vs_if (PW.pt (vw_or (vt_not (vt_val (ve_call T.g_is_list (c_is_list_1 T) hG hr (by decide) pass0 sel_0 rfl (va_cons (vv 0) va_nil) vk_nil))) (vw_or1 (vt_not (vt_chain op_le s_le op_le s_le ve_int (ve_callB call_lenA s_len (by rfl) T.b_len (by decide +kernel) (va_cons (vv 0) va_nil)) (ve_gc rfl T.g_MOST_ROWS fun _ _ => .int _))))))
 (vss_one (vs_ret ve_bl))
 vss_nil)
 (vss_one (vs_ret (ve_and (ve_callB (cr_all rfl) s_all (by rfl) T.b_all (by decide +kernel) (va_cons (ve_z (ve_lc (own := [("row", 1)]) (p := (.name 1)) rfl sc_are_rows.nd (vi_seq (vv 0)) (blkOk_by (N := N_are_rows) (sc := defScope s_are_rows) (by decide +kernel)) (fun _ _ _ _ _ => pg_name (i := 1) sc_are_rows.nd rfl (Or.inl rfl)) (fun _ _ _ _ _ => vts_nil) (fun _ _ _ _ _ => (ve_call T.g_is_instruction (c_is_instruction_1 T) hG hr (by decide) pass0 sel_0 rfl (va_cons (vv 1) va_nil) vk_nil)) (by decide))) va_nil)) (ve_one (ve_not (ve_call T.g_is_target_beyond (c_is_target_beyond_1 T) hG hr (by decide) pass0 sel_0 rfl (va_cons (vv 0) va_nil) vk_nil))))))), fun ds μ ev Φ h => ?_⟩)
  · obtain ⟨x, rfl, _⟩ := h; rfl
  · obtain ⟨v, rfl, hv, q⟩ := h
    walk_at "vr"
    refine ⟨v, rfl, hv.kd, ?_⟩
    cases h1 : isLst μ v with
    | false =>
      have e : rowsF v = false := by unfold rowsF; rw [hv.nolst h1]
      rw [e] at q
      walk_at "vr"
      exact q
    | true =>
      obtain ⟨rows, h2⟩ := hv.fz h1
      have hit := hv.items h2
      walk_at "vr"
      simp only [vLen_iff (lenOf_seqOf (fz_seq h2))]
      walk_at "vr"
      have er : rowsF v = (decide (1 ≤ rows.length) && decide (rows.length ≤ 10000) && (rows.all insF && !(rows.any (beyF rows.length)))) := by unfold rowsF; rw [h2]
      rw [er] at q
      by_cases l1 : 1 ≤ rows.length
      · have l1' : (1 : Int) ≤ (rows.length : Int) := by omega
        by_cases l2 : rows.length ≤ 10000
        · have l2' : (rows.length : Int) ≤ 10000 := by omega
          simp only [l1, l1', l2, l2', decide_true, if_true, Bool.not_true, Bool.false_eq_true, if_false, Bool.true_and] at q ⊢
          refine ⟨rows, fz_or h2, lcm (fun r => .bl (insF r)) (sizeOk (by omega)) (fun d hd => ⟨_, rfl, fun Ds l Ψ nD q => ?_⟩) fun Ds nD => ?_⟩
          · walk_at "vr"
            refine ⟨d, rfl, (hit d hd).row, ?_⟩
            rw [insB_F (hit d hd)]
            exact q
          · walk_at "frz"
            walk_at "vr"
            cases ha : rows.all insF with
            | false => rw [ha] at q; simpa using q
            | true =>
              rw [ha] at q
              have tg : ∀ r ∈ rows, ∃ es, K25.fz r = some es ∧ TgtV μ r := fun r hr => ins_tgt (List.all_eq_true.mp ha r hr)
              refine ⟨v, rows, rfl, h2, l2, tg, ?_⟩
              walk_at "vr"
              have e : (rows.any fun r => beyB rows.length (itemsOf μ r)) = rows.any (beyF rows.length) := by
                rw [Bool.eq_iff_iff, List.any_eq_true, List.any_eq_true]
                constructor <;> rintro ⟨r, hr, hb⟩ <;> refine ⟨r, hr, ?_⟩ <;> obtain ⟨es, e1, _⟩ := tg r hr
                · unfold beyF; rw [e1]; rw [items_F e1] at hb; exact hb
                · unfold beyF at hb; rw [e1] at hb; rw [items_F e1]; exact hb
              rw [e]
              exact q
        · have l2' : ¬ (rows.length : Int) ≤ 10000 := by omega
          simp only [l1, l1', l2, l2', decide_true, decide_false, if_true, Bool.not_false, Bool.true_and, Bool.false_and] at q ⊢
          exact q
      · have l1' : ¬ (1 : Int) ≤ (rows.length : Int) := by omega
        simp only [l1, l1', decide_false, Bool.false_eq_true, if_false, Bool.false_and] at q ⊢
        exact q
theorem c_are_rows_1 {P : Program} {w : World} {K : PySem.W.Frag} {mg : Str → Option Value} {base : Heap} (T : Txt w K mg) : CanV P w K mg base CX0 [] 4 (He.ga K "are_rows") 1 [] ([.inl 0].map (toArg [] [])) (sp_are_rows) :=
  canV_of (ps := ["value"]) [.inl 0] T.f_are_rows (b_are_rows T) (fun _ _ _ _ _ _ us ws h1 h2 => match us, ws, h1, h2 with | [_], [], _, _ => rfl) (by decide)
end K25

set_option maxRecDepth 100000
set_option maxHeartbeats 4000000
namespace K25
open PySem L2 FW VL
local macro_rules | `(tactic| walk_at "vr") => `(tactic| simp only [wLenSet, wFor, wSetF, wAugF, wAug, wBM, wProp, wHeld, wVar, wC, wZ, wOp, wUn, wNil, wCons, wStar, wCB, wTup, wLst, wLstM, wTest, wAnd, wOr, VL.wNot, wAndV, wOrV, wNotV, wIf, wChain, wNoPart, wPart, wSl, wName, wGNil, wGCons, wGTup, wSub, wNext, VL.wSeq, wAsg, wDrop, wRet, wRetN, wIfS, wBreak, wCont, wPar, vI0, vI, vU, vAdd, vSub, vMul, vMod, vFdiv, vPow, vLt, vLe, vGt, vGe, vNeg, vIsN, vNotN, vAddA, vMulA, VL.wTru, iwL, iwT, wLc, vstart, List.map_cons, List.map_nil, List.cons_append, List.nil_append, List.set_cons_zero, List.set_cons_succ, List.getElem?_cons_zero, List.getElem?_cons_succ, Option.some.injEq, exists_eq_left, exists_eq_left', exists_eq', D.bl.injEq, D.int.injEq, D.str.injEq, D.tup.injEq, D.ref.injEq, List.cons.injEq, and_true, true_and, List.length_cons, List.length_nil, List.replicate, D.ty.injEq, exists_and_left, List.length, Nat.reduceAdd, wCall, wMake, wMeth, wFld, argsD, argD, toArg, List.getD_cons_zero, List.getD_cons_succ, List.map, iwS, vTupOf, Bool.false_eq_true, if_false, if_true, reduceIte, List.getElem?_nil, Nat.reduceSub, wipeR, vLen_lst, vLen_tup, vEq_ii, vEq_ss, vEq_bb, vIx_lst, vIx_tup, vIn_strs, vIn_s2, vIn_s3, vAll_map, vInK_s, vIxK_s, vInt_i, vAbs_i, atI_0, atI_1, atI_2, Bool.not_true, Bool.not_false, seqOf_lst, seqOf_tup, lstOf_lst, tupOf_tup, fzL_lst, N_is_list, N_is_integer, N_is_within, N_is_short, N_are_shorts, N_are_integers, N_is_lot, N_fixed, N_short_of, N_added, N_taken_from, N_multiplied, N_divided, N_left_over, N_is_less, N_is_equal, N_are_both, N_is_any, N_is_instruction, N_is_target_beyond, N_are_rows, N_Code___init__, N_Code___eq__, N_Code___iter__, N_push_short, N_popped, N_do_push, N_do_load, N_do_store, N_do_fetch, N_do_put, N_do_not, N_do_drop, N_do_copy, N_do_jump, N_do_unless, N_do_wait, N_do_sign, N_do_read, N_do_write, N_do_barrier, N_do_send, N_do_take, N_do_input, N_do_show, N_deed_of_row, N_is_disk_pair, N_are_disk_pairs, N_is_disk, N_Computer_power_on, N_Computer___init__, N_Computer_stack, N_Computer_disk, N_Computer_waiting, N_Computer_cards, N_Computer_memory, N_Computer_hand, N_Computer_cut, N_Computer_go, N_Computer_step, N__law_bench, N__law_turn, N__law_tool, N__law_wrap, N__law_signed, N__law_popped, N__law_written, N__law_settled, N__law_awake, N__law_outside, N__law_step, N__law_piece, N__law_is_so, N__law_moment_right, N_law])
/-! ### instructions as pairs -/
abbrev Ins := Str × Option Int
def insD (i : Ins) : D := match i.2 with
  | none => .tup [.str i.1]
  | some n => .tup [.str i.1, .int n]
def okIns (i : Ins) : Bool := match NUMS.lookup i.1, i.2 with
  | some p, some n => decide (p.1 ≤ n) && decide (n ≤ p.2)
  | none, none => PLAINW.contains i.1 || SIGNW.contains i.1
  | _, _ => false
def insOf (v : D) : Ins := match fz v with
  | some [.str w] => (w, none)
  | some [.str w, .int n] => (w, some n)
  | _ => ("", none)
def codeOf (v : D) : List Ins := ((fz v).getD []).map insOf
theorem fz_cases {v : D} {es : List D} (h : fz v = some es) : v = .lst es ∨ v = .tup es := by cases v <;> simp [fz] at h <;> subst h <;> simp
theorem fix_row {r : D} (h : insF r = true) : fixN 2 r = some (insD (insOf r)) ∧ shortN 2 r ∧ okIns (insOf r) = true := by
  unfold insF at h
  cases e : fz r with
  | none => rw [e] at h; cases h
  | some es =>
    rw [e] at h
    have go : ∃ w, (es = [.str w] ∧ okIns (w, none) = true) ∨ ∃ n, es = [.str w, .int n] ∧ okIns (w, some n) = true := by
      cases es with
      | nil => cases h
      | cons x r2 =>
        cases x <;> first | (cases h; done) | skip
        rename_i w
        refine ⟨w, ?_⟩
        cases q : NUMS.lookup w with
        | none =>
          simp only [insL, q] at h
          cases r2 with
          | nil => exact .inl ⟨rfl, by simp only [okIns, q]; simpa using h⟩
          | cons _ _ => cases h
        | some p =>
          simp only [insL, q] at h
          cases r2 with
          | nil => cases h
          | cons y r3 =>
            cases r3 with
            | cons _ _ => cases h
            | nil =>
              cases y <;> first | (cases h; done) | skip
              rename_i n
              exact .inr ⟨n, rfl, by simp only [okIns, q]; exact h⟩
    obtain ⟨w, ⟨rfl, ok⟩ | ⟨n, rfl, ok⟩⟩ := go
    · have e1 : insOf r = (w, none) := by unfold insOf; rw [e]
      rw [e1]
      rcases fz_cases e with rfl | rfl <;> exact ⟨rfl, ⟨sizeOk (by simp), fun d hd => by simp at hd; subst hd; trivial⟩, ok⟩
    · have e1 : insOf r = (w, some n) := by unfold insOf; rw [e]
      rw [e1]
      rcases fz_cases e with rfl | rfl <;> exact ⟨rfl, ⟨sizeOk (by simp), fun d hd => by simp at hd; rcases hd with rfl | rfl <;> trivial⟩, ok⟩
theorem lookup_mem {α : Type} {l : List (Str × α)} {z : Str} {a : α} (h : l.lookup z = some a) : (z, a) ∈ l := by
  induction l with
  | nil => cases h
  | cons q l ih =>
    rw [List.lookup_cons] at h
    split at h
    · rename_i e
      cases h
      rw [show z = q.1 from beq_iff_eq.mp e]
      exact List.mem_cons_self ..
    · exact List.mem_cons_of_mem _ (ih h)
theorem mapM_fix : ∀ {rows : List D}, rows.all insF = true → rows.mapM (fixN 2) = some ((rows.map insOf).map insD)
  | [], _ => rfl
  | r :: rows, h => by
    rw [List.all_cons, Bool.and_eq_true] at h
    rw [List.mapM_cons, (fix_row h.1).1, mapM_fix h.2]; rfl
theorem fix_rows {v : D} (h : rowsF v = true) : ∃ rows, fz v = some rows ∧ rows.all insF = true ∧ 1 ≤ rows.length ∧ rows.length ≤ 10000 ∧ rows.any (beyF rows.length) = false ∧ fixN 3 v = some (.tup ((codeOf v).map insD)) ∧ shortN 3 v := by
  unfold rowsF at h
  cases e : fz v with
  | none => rw [e] at h; cases h
  | some rows =>
    rw [e] at h
    simp only [Bool.and_eq_true, decide_eq_true_eq, Bool.not_eq_true'] at h
    obtain ⟨⟨h1, h2⟩, h3, h4⟩ := h
    have e1 : codeOf v = rows.map insOf := by unfold codeOf; rw [e]; rfl
    refine ⟨rows, rfl, h3, h1, h2, h4, ?_, ?_⟩
    · rw [e1]
      rcases fz_cases e with rfl | rfl <;> (show (rows.mapM (fixN 2)).map D.tup = _) <;> rw [mapM_fix h3] <;> rfl
    · rcases fz_cases e with rfl | rfl <;> exact ⟨sizeOk (by omega), fun d hd => (fix_row (List.all_eq_true.mp h3 d hd)).2.1⟩
abbrev cCode (K : PySem.W.Frag) : Addr := He.ga K "Code"
def codeNs : List Str := ["rows"]
def codeFs (is : List Ins) : List D := [.tup (is.map insD)]
def codeD (K : PySem.W.Frag) (is : List Ins) : D := .obj (cCode K) codeNs (codeFs is)
def sp_Code___init__ (K : PySem.W.Frag) : VSp := fun ds μ ev Φ => ∃ a v, ds = [.ref a, v] ∧ Pl 4 v ∧ rowsF v = true ∧ μ a = some (.ins (cCode K) [] []) ∧ Φ .non (μ.set a (.ins (cCode K) codeNs (codeFs (codeOf v))))
theorem b_Code___init__ {P : Program} {w : World} {K : PySem.W.Frag} {mg : Str → Option Value} {base : Heap} (T : Txt w K mg) : ∀ fd, FunD K "__init__" "Code.__init__" (defArgs s_Code___init__) (defBody s_Code___init__) (defScope s_Code___init__) [] [] (He.ma K (He.ga K "Code") "__init__") fd → FnG P w K mg base CX0 5 (He.ma K (He.ga K "Code") "__init__") fd ["self", "rows"] (lift K [] (sp_Code___init__ K)) := by
  intro fd F
  refine fun_okD (N := N_Code___init__) F sc_Code___init__ (fun ds μ ev Φ h => ?size) (fun cdv A outer s H E hG hr => ⟨_, (vss_cons (vs_if (vt_not (vt_val (ve_call T.g_are_rows (c_are_rows_1 T) hG hr (by decide) pass0 sel_0 rfl (va_cons (vv 1) va_nil) vk_nil)))
 (vss_one vs_never)
 vss_nil)
 (vss_one (vs_fld T.cl_Code T.n_Code_rows (vv 0) (ve_call T.g_fixed (c_fixed_1 T) hG hr (by decide) pass0 sel_0 rfl (va_cons (vv 1) va_nil) vk_nil)))), fun ds μ ev Φ h => ?_⟩)
  · obtain ⟨a, v, rfl, _⟩ := h; rfl
  · obtain ⟨a, v, rfl, hv, hr', ha, q⟩ := h
    obtain ⟨rows, h1, h2, h3, h4, h5, h6, h7⟩ := fix_rows hr'
    walk_at "vr"
    refine ⟨v, rfl, hv, ?_⟩
    rw [hr']
    walk_at "vr"
    refine ⟨v, _, rfl, h6, h7, ?_⟩
    walk_at "vr"
    exact ⟨[], [], ha, by decide, q⟩
theorem c_Code___init___2 {P : Program} {w : World} {K : PySem.W.Frag} {mg : Str → Option Value} {base : Heap} (T : Txt w K mg) : CanV P w K mg base CX0 [] 5 (He.ma K (He.ga K "Code") "__init__") 2 [] ([.inl 0, .inl 1].map (toArg [] [])) (sp_Code___init__ K) :=
  canV_of (ps := ["self", "rows"]) [.inl 0, .inl 1] T.f_Code___init__ (b_Code___init__ T) (fun _ _ _ _ _ _ us ws h1 h2 => match us, ws, h1, h2 with | [_, _], [], _, _ => rfl) (by decide)
/-! ### == -/
def pyIns (i : Ins) : PyData := match i.2 with
  | none => .tuple [.str i.1]
  | some n => .tuple [.str i.1, .int n]
theorem toPy_ins (μ : Mu) (i : Ins) : toPy μ (insD i) = some (pyIns i) := by
  obtain ⟨w, o⟩ := i
  cases o <;> simp [insD, pyIns, toPy, toPys]
theorem toPys_ins (μ : Mu) : ∀ is : List Ins, toPys μ (is.map insD) = some (is.map pyIns)
  | [] => rfl
  | i :: is => by
    rw [List.map_cons, List.map_cons]
    unfold toPys
    rw [toPy_ins, toPys_ins μ is]
theorem eqv_ins (i j : Ins) : PyData.eqv (pyIns i) (pyIns j) = decide (i = j) := by
  obtain ⟨w, o⟩ := i
  obtain ⟨z, p⟩ := j
  cases o <;> cases p <;> simp only [pyIns, PyData.eqv, PyData.eqvAll, Bool.and_true, Bool.and_false] <;> rw [Bool.eq_iff_iff] <;> simp
theorem eqvAll_ins : ∀ is js : List Ins, PyData.eqvAll (is.map pyIns) (js.map pyIns) = decide (is = js)
  | [], [] => rfl
  | [], _ :: _ => by simp [PyData.eqvAll]
  | _ :: _, [] => by simp [PyData.eqvAll]
  | i :: is, j :: js => by
    rw [List.map_cons, List.map_cons, PyData.eqvAll, eqv_ins, eqvAll_ins is js]
    rw [Bool.eq_iff_iff]; simp
theorem word_mem {i : Ins} (h : okIns i = true) : i.1 ∈ NUMS.map (·.1) ++ (PLAINW ++ SIGNW) := by
  obtain ⟨w, o⟩ := i
  cases q : NUMS.lookup w with
  | some p => exact List.mem_append_left _ (List.mem_map.mpr ⟨_, lookup_mem q, rfl⟩)
  | none =>
    cases o with
    | some n => simp only [okIns, q] at h; cases h
    | none =>
      simp only [okIns, q] at h
      rcases Bool.or_eq_true_iff.mp h with q | q
      · exact List.mem_append_right _ (List.mem_append_left _ (List.contains_iff_mem.mp q))
      · exact List.mem_append_right _ (List.mem_append_right _ (List.contains_iff_mem.mp q))
theorem strOk_word {i : Ins} (h : okIns i = true) : PyData.strOk i.1 = true := by
  have hm := word_mem h
  have all : (NUMS.map (·.1) ++ (PLAINW ++ SIGNW)).all PyData.strOk = true := by decide +kernel
  exact List.all_eq_true.mp all _ hm
theorem canLay_ins : ∀ is : List Ins, is.all okIns = true → PyData.canLayAll0 (is.map pyIns) = true
  | [], _ => rfl
  | i :: is, h => by
    rw [List.all_cons, Bool.and_eq_true] at h
    have e := strOk_word h.1
    rw [List.map_cons, PyData.canLayAll0, canLay_ins is h.2, Bool.and_true]
    obtain ⟨w, o⟩ := i
    cases o <;> simp [pyIns, PyData.canLay0, PyData.canLayAll0] <;> exact e
theorem depth_ins : ∀ is : List Ins, PyData.depthAll (is.map pyIns) ≤ 1
  | [] => Nat.zero_le _
  | i :: is => by
    rw [List.map_cons, PyData.depthAll]
    have := depth_ins is
    have e : PyData.depth (pyIns i) = 1 := by obtain ⟨w, o⟩ := i; cases o <;> simp [pyIns, PyData.depth, PyData.depthAll]
    omega
theorem shaped_ins {is : List Ins} (h : is.all okIns = true) : SeqAt.shaped (.tuple (is.map pyIns)) = true := by
  unfold SeqAt.shaped
  rw [Bool.and_eq_true, decide_eq_true_eq]
  refine ⟨by rw [PyData.canLay0]; exact canLay_ins is h, ?_⟩
  rw [PyData.depth]
  have := depth_ins is
  omega
theorem eqD_ins {μ : Mu} {is js : List Ins} (h : is.all okIns = true) (h2 : js.all okIns = true) : eqD μ (.tup (is.map insD)) (.tup (js.map insD)) = some (decide (is = js)) := by
  have e : ∀ ks : List Ins, toPyT μ (.tup (ks.map insD)) = some (.tuple (ks.map pyIns)) := fun ks => by
    show toPy μ (.tup (ks.map insD)) = _
    rw [toPy, toPys_ins]; rfl
  show (match toPyT μ (.tup (is.map insD)), toPyT μ (.tup (js.map insD)) with | some p, some q => pyEq p q | _, _ => none) = _
  rw [e, e]
  show pyEq _ _ = _
  unfold pyEq
  rw [shaped_ins h, shaped_ins h2]
  simp only [Bool.and_self, if_true]
  rw [PyData.eqv, eqvAll_ins]
def sp_Code___eq__ (K : PySem.W.Frag) : VSp := fun ds μ ev Φ => ∃ x y is js, ds = [x, y] ∧ VL.insOf μ x = some (cCode K, codeNs, codeFs is) ∧ VL.insOf μ y = some (cCode K, codeNs, codeFs js) ∧ is.all okIns = true ∧ js.all okIns = true ∧ Φ (.bl (decide (is = js))) μ
theorem b_Code___eq__ {P : Program} {w : World} {K : PySem.W.Frag} {mg : Str → Option Value} {base : Heap} (T : Txt w K mg) : ∀ fd, FunD K "__eq__" "Code.__eq__" (defArgs s_Code___eq__) (defBody s_Code___eq__) (defScope s_Code___eq__) [] [] (He.ma K (He.ga K "Code") "__eq__") fd → FnG P w K mg base CX0 1 (He.ma K (He.ga K "Code") "__eq__") fd ["self", "other"] (lift K [] (sp_Code___eq__ K)) := by
  intro fd F
  refine fun_okD (N := N_Code___eq__) F sc_Code___eq__ (fun ds μ ev Φ h => ?size) (fun cdv A outer s H E hG hr => ⟨_, (vss_one (vs_ret (ve_and (ve_callB call_isi s_isiO (by rfl) T.b_isinstance (by decide +kernel) (va_cons (vv 1) (va_cons (ve_gref rfl T.g_Code) va_nil))) (ve_one (ve_cmp (op_eqA hr.units) s_eq (ve_fld T.cl_Code T.n_Code_rows (vv 0)) (ve_fld T.cl_Code T.n_Code_rows (vv 1)) (nomark _)))))), fun ds μ ev Φ h => ?_⟩)
  · obtain ⟨x, y, is, js, rfl, _⟩ := h; rfl
  · obtain ⟨x, y, is, js, rfl, h1, h2, h3, h4, q⟩ := h
    walk_at "vr"
    refine ⟨y, He.ga K "Code", .ref (He.ga K "Code"), true, rfl, .inr ⟨_, _, _, h2, T.i_Code, rfl⟩, T.o_Code, ?_⟩
    walk_at "vr"
    refine ⟨_, _, h1, _, rfl, _, _, h2, _, rfl, ?_⟩
    rw [vEq_iff (eqD_ins h3 h4)]
    exact q

theorem spec_Code_eq {P : Program} {w : World} {K : PySem.W.Frag} {mg : Str → Option Value} {base : Heap} (T : Txt w K mg) : SpecV P w K mg base [] 1 (He.ga K "Code") "__eq__" 1 (sp_Code___eq__ K) :=
  ⟨_, _, T.m_Code___eq__.at_, T.m_Code___eq__.fn, canV_of (ps := ["self", "other"]) [.inl 0, .inl 1] T.f_Code___eq__ (b_Code___eq__ T) (fun _ _ _ _ _ _ us ws h1 h2 => match us, ws, h1, h2 with | [_, _], [], _, _ => rfl) (by decide), fun ds hl => match ds, hl with | [_, _], _ => rfl⟩
end K25

set_option maxRecDepth 100000
set_option maxHeartbeats 4000000
namespace K25
open PySem L2 FW VL
local macro_rules | `(tactic| walk_at "vr") => `(tactic| simp only [wLenSet, wFor, wSetF, wAugF, wAug, wBM, wProp, wHeld, wVar, wC, wZ, wOp, wUn, wNil, wCons, wStar, wCB, wTup, wLst, wLstM, wTest, wAnd, wOr, VL.wNot, wAndV, wOrV, wNotV, wIf, wChain, wNoPart, wPart, wSl, wName, wGNil, wGCons, wGTup, wSub, wNext, VL.wSeq, wAsg, wDrop, wRet, wRetN, wIfS, wBreak, wCont, wPar, vI0, vI, vU, vAdd, vSub, vMul, vMod, vFdiv, vPow, vLt, vLe, vGt, vGe, vNeg, vIsN, vNotN, vAddA, vMulA, VL.wTru, iwL, iwT, wLc, vstart, List.map_cons, List.map_nil, List.cons_append, List.nil_append, List.set_cons_zero, List.set_cons_succ, List.getElem?_cons_zero, List.getElem?_cons_succ, Option.some.injEq, exists_eq_left, exists_eq_left', exists_eq', D.bl.injEq, D.int.injEq, D.str.injEq, D.tup.injEq, D.ref.injEq, List.cons.injEq, and_true, true_and, List.length_cons, List.length_nil, List.replicate, D.ty.injEq, exists_and_left, List.length, Nat.reduceAdd, wCall, wMake, wMeth, wFld, argsD, argD, toArg, List.getD_cons_zero, List.getD_cons_succ, List.map, iwS, vTupOf, Bool.false_eq_true, if_false, if_true, reduceIte, List.getElem?_nil, Nat.reduceSub, wipeR, vLen_lst, vLen_tup, vEq_ii, vEq_ss, vEq_bb, vIx_lst, vIx_tup, vIn_strs, vIn_s2, vIn_s3, vAll_map, vInK_s, vIxK_s, vInt_i, vAbs_i, atI_0, atI_1, atI_2, Bool.not_true, Bool.not_false, seqOf_lst, seqOf_tup, lstOf_lst, tupOf_tup, fzL_lst, N_is_list, N_is_integer, N_is_within, N_is_short, N_are_shorts, N_are_integers, N_is_lot, N_fixed, N_short_of, N_added, N_taken_from, N_multiplied, N_divided, N_left_over, N_is_less, N_is_equal, N_are_both, N_is_any, N_is_instruction, N_is_target_beyond, N_are_rows, N_Code___init__, N_Code___eq__, N_Code___iter__, N_push_short, N_popped, N_do_push, N_do_load, N_do_store, N_do_fetch, N_do_put, N_do_not, N_do_drop, N_do_copy, N_do_jump, N_do_unless, N_do_wait, N_do_sign, N_do_read, N_do_write, N_do_barrier, N_do_send, N_do_take, N_do_input, N_do_show, N_deed_of_row, N_is_disk_pair, N_are_disk_pairs, N_is_disk, N_Computer_power_on, N_Computer___init__, N_Computer_stack, N_Computer_disk, N_Computer_waiting, N_Computer_cards, N_Computer_memory, N_Computer_hand, N_Computer_cut, N_Computer_go, N_Computer_step, N__law_bench, N__law_turn, N__law_tool, N__law_wrap, N__law_signed, N__law_popped, N__law_written, N__law_settled, N__law_awake, N__law_outside, N__law_step, N__law_piece, N__law_is_so, N__law_moment_right, N_law])
local macro_rules | `(tactic| walk_at "wr") => `(tactic| simp only [vInt_bl, iwR1, iwR2, iwM, List.set_cons_succ, wLenSet, wFor, wSetF, wAugF, wAug, wBM, wProp, wHeld, wVar, wC, wZ, wOp, wUn, wNil, wCons, wStar, wCB, wTup, wLst, wLstM, wTest, wAnd, wOr, VL.wNot, wAndV, wOrV, wNotV, wIf, wChain, wNoPart, wPart, wSl, wName, wGNil, wGCons, wGTup, wSub, wNext, VL.wSeq, wAsg, wDrop, wRet, wRetN, wIfS, wBreak, wCont, wPar, vI0, vI, vU, vAdd, vSub, vMul, vMod, vFdiv, vPow, vLt, vLe, vGt, vGe, vNeg, vIsN, vNotN, vAddA_ii, vMulA_ii, VL.wTru, iwL, iwT, wLc, vstart, List.map_cons, List.map_nil, List.cons_append, List.nil_append, List.set_cons_zero, List.set_cons_succ, List.getElem?_cons_zero, List.getElem?_cons_succ, Option.some.injEq, exists_eq_left, exists_eq_left', exists_eq', D.bl.injEq, D.int.injEq, D.str.injEq, D.tup.injEq, D.ref.injEq, List.cons.injEq, and_true, true_and, List.length_cons, List.length_nil, List.replicate, D.ty.injEq, exists_and_left, List.length, Nat.reduceAdd, wCall, wMake, wMeth, wFld, argsD, argD, toArg, List.getD_cons_zero, List.getD_cons_succ, List.map, iwS, vTupOf, Bool.false_eq_true, if_false, if_true, reduceIte, List.getElem?_nil, Nat.reduceSub, wipeR, vLen_lst, vLen_tup, vEq_ii, vEq_ss, vEq_bb, vIx_lst, vIx_tup, vIn_strs, vIn_s2, vIn_s3, vAll_map, vInK_s, vIxK_s, vInt_i, vAbs_i, atI_0, atI_1, atI_2, Bool.not_true, Bool.not_false, seqOf_lst, seqOf_tup, lstOf_lst, tupOf_tup, fzL_lst, N_is_list, N_is_integer, N_is_within, N_is_short, N_are_shorts, N_are_integers, N_is_lot, N_fixed, N_short_of, N_added, N_taken_from, N_multiplied, N_divided, N_left_over, N_is_less, N_is_equal, N_are_both, N_is_any, N_is_instruction, N_is_target_beyond, N_are_rows, N_Code___init__, N_Code___eq__, N_Code___iter__, N_push_short, N_popped, N_do_push, N_do_load, N_do_store, N_do_fetch, N_do_put, N_do_not, N_do_drop, N_do_copy, N_do_jump, N_do_unless, N_do_wait, N_do_sign, N_do_read, N_do_write, N_do_barrier, N_do_send, N_do_take, N_do_input, N_do_show, N_deed_of_row, N_is_disk_pair, N_are_disk_pairs, N_is_disk, N_Computer_power_on, N_Computer___init__, N_Computer_stack, N_Computer_disk, N_Computer_waiting, N_Computer_cards, N_Computer_memory, N_Computer_hand, N_Computer_cut, N_Computer_go, N_Computer_step, N__law_bench, N__law_turn, N__law_tool, N__law_wrap, N__law_signed, N__law_popped, N__law_written, N__law_settled, N__law_awake, N__law_outside, N__law_step, N__law_piece, N__law_is_so, N__law_moment_right, N_law, ofStr_inj, ofStr_beq, String.reduceEq, decide_true, decide_false, Bool.or_false, Bool.or_true, Bool.false_or, Bool.true_or, Bool.and_true, Bool.and_false, Bool.true_and, Bool.false_and, vModN, iwE, iwEM])
/-! ### a computer -/
structure CS where
  code : List Ins
  given : Int
  settled : List Int
  at_ : Int
  held : List Int
  pile : List Int
  written : List Int
  queue : List (Int × Int)
  laid : List (Option (Int × Int × Int))
def pairD (p : Int × Int) : D := .tup [.int p.1, .int p.2]
def letD : Option (Int × Int × Int) → D
  | none => .non
  | some p => .tup [.int p.1, .int p.2.1, .int p.2.2]
def deedD (K : PySem.W.Frag) (i : Ins) : D := match ACTF.lookup i.1 with
  | some f => .tup [.ref (He.ga K "do_sign"), .ref (He.ga K f)]
  | none => .tup [.ref (He.ga K ((DEEDF.lookup i.1).getD "")), .int (i.2.getD 0)]
abbrev cComp (K : PySem.W.Frag) : Addr := He.ga K "Computer"
def compNs : List Str := ["code", "deeds", "given", "settled", "at", "held", "pile", "written", "queue", "laid"]
def compFs (K : PySem.W.Frag) (st : CS) (s h p w q l : Addr) : List D := [codeD K st.code, .lst (st.code.map (deedD K)), .int st.given, .ref s, .int st.at_, .ref h, .ref p, .ref w, .ref q, .ref l]
structure CompB (K : PySem.W.Frag) (μ : Mu) (c s h p w q l : Addr) (st : CS) : Prop where
  nd : [c, s, h, p, w, q, l].Nodup
  c : μ c = some (.ins (cComp K) compNs (compFs K st s h p w q l))
  s : μ s = some (.lst (st.settled.map .int))
  h : μ h = some (.lst (st.held.map .int))
  p : μ p = some (.lst (st.pile.map .int))
  w : μ w = some (.lst (st.written.map .int))
  q : μ q = some (.lst (st.queue.map pairD))
  l : μ l = some (.lst (st.laid.map letD))
def CompAt (K : PySem.W.Frag) (μ : Mu) (c : Addr) (F : List Addr) (st : CS) : Prop := ∃ s h p w q l, F = [c, s, h, p, w, q, l] ∧ CompB K μ c s h p w q l st
section
variable {K : PySem.W.Frag} {μ : Mu} {c s h p w q l : Addr} {st : CS}
theorem CompB.ins (b : CompB K μ c s h p w q l st) : VL.insOf μ (.ref c) = some (cComp K, compNs, compFs K st s h p w q l) := insOf_of b.c
theorem CompB.setP (b : CompB K μ c s h p w q l st) (xs : List Int) : CompB K (μ.set p (.lst (xs.map .int))) c s h p w q l { st with pile := xs } := by
  have nd := b.nd
  simp only [List.nodup_cons, List.mem_cons, List.not_mem_nil, or_false, not_or] at nd
  obtain ⟨⟨n1, n2, n3, n4, n5, n6⟩, ⟨n7, n8, n9, n10, n11⟩, ⟨n12, n13, n14, n15⟩, ⟨n16, n17, n18⟩, _⟩ := nd
  exact ⟨b.nd, by rw [Mu.ne n3]; exact b.c, by rw [Mu.ne n8]; exact b.s, by rw [Mu.ne n12]; exact b.h, Mu.same, by rw [Mu.ne (Ne.symm n16)]; exact b.w, by rw [Mu.ne (Ne.symm n17)]; exact b.q, by rw [Mu.ne (Ne.symm n18)]; exact b.l⟩
theorem CompB.setH (b : CompB K μ c s h p w q l st) (xs : List Int) : CompB K (μ.set h (.lst (xs.map .int))) c s h p w q l { st with held := xs } := by
  have nd := b.nd
  simp only [List.nodup_cons, List.mem_cons, List.not_mem_nil, or_false, not_or] at nd
  obtain ⟨⟨n1, n2, n3, n4, n5, n6⟩, ⟨n7, n8, n9, n10, n11⟩, ⟨n12, n13, n14, n15⟩, ⟨n16, n17, n18⟩, _⟩ := nd
  exact ⟨b.nd, by rw [Mu.ne n2]; exact b.c, by rw [Mu.ne n7]; exact b.s, Mu.same, by rw [Mu.ne (Ne.symm n12)]; exact b.p, by rw [Mu.ne (Ne.symm n13)]; exact b.w, by rw [Mu.ne (Ne.symm n14)]; exact b.q, by rw [Mu.ne (Ne.symm n15)]; exact b.l⟩
theorem CompB.setC (b : CompB K μ c s h p w q l st) {st' : CS} (e : st'.settled = st.settled ∧ st'.held = st.held ∧ st'.pile = st.pile ∧ st'.written = st.written ∧ st'.queue = st.queue ∧ st'.laid = st.laid) : CompB K (μ.set c (.ins (cComp K) compNs (compFs K st' s h p w q l))) c s h p w q l st' := by
  have nd := b.nd
  simp only [List.nodup_cons, List.mem_cons, List.not_mem_nil, or_false, not_or] at nd
  obtain ⟨⟨n1, n2, n3, n4, n5, n6⟩, _⟩ := nd
  obtain ⟨e1, e2, e3, e4, e5, e6⟩ := e
  exact ⟨b.nd, Mu.same, by rw [Mu.ne (Ne.symm n1), e1]; exact b.s, by rw [Mu.ne (Ne.symm n2), e2]; exact b.h, by rw [Mu.ne (Ne.symm n3), e3]; exact b.p, by rw [Mu.ne (Ne.symm n4), e4]; exact b.w, by rw [Mu.ne (Ne.symm n5), e5]; exact b.q, by rw [Mu.ne (Ne.symm n6), e6]; exact b.l⟩
end
def Sh (n : Int) : Prop := -2147483648 ≤ n ∧ n ≤ 2147483647
structure CS.Ok (st : CS) : Prop where
  p : st.pile.length ≤ 1000
  h : st.held.length = 1000
  s : st.settled.length = 200
  w : st.written.length = 200
  l : st.laid.length = 5
  q : st.queue.length ≤ 400
  ps : ∀ v ∈ st.pile, Sh v
  hs : ∀ v ∈ st.held, Sh v
  ss : ∀ v ∈ st.settled, Sh v
  ws : ∀ v ∈ st.written, Sh v
  qs : ∀ p ∈ st.queue, 0 ≤ p.1 ∧ p.1 < 200 ∧ Sh p.2
  ls : ∀ p, some p ∈ st.laid → Sh p.1 ∧ Sh p.2.1 ∧ Sh p.2.2
  gs : Sh st.given
theorem sh_zero : Sh 0 := ⟨by decide, by decide⟩
theorem CS.Ok.at_ {st : CS} (h : st.Ok) (n : Int) : ({ st with at_ := n } : CS).Ok := ⟨h.p, h.h, h.s, h.w, h.l, h.q, h.ps, h.hs, h.ss, h.ws, h.qs, h.ls, h.gs⟩
theorem CS.Ok.given_ {st : CS} (h : st.Ok) {g : Int} (hg : Sh g) : ({ st with given := g } : CS).Ok := ⟨h.p, h.h, h.s, h.w, h.l, h.q, h.ps, h.hs, h.ss, h.ws, h.qs, h.ls, hg⟩
theorem CS.Ok.held_ {st : CS} (h : st.Ok) {xs : List Int} (h1 : xs.length = 1000) (h2 : ∀ v ∈ xs, Sh v) : ({ st with held := xs } : CS).Ok := ⟨h.p, h1, h.s, h.w, h.l, h.q, h.ps, h2, h.ss, h.ws, h.qs, h.ls, h.gs⟩
theorem set_sh {xs : List Int} (h : ∀ v ∈ xs, Sh v) {n : Nat} {v : Int} (hv : Sh v) : ∀ w ∈ xs.set n v, Sh w := fun w hw => by
  rcases List.mem_or_eq_of_mem_set hw with h1 | rfl
  · exact h w h1
  · exact hv
theorem getD_sh {xs : List Int} (h : ∀ v ∈ xs, Sh v) (n : Nat) : Sh (xs.getD n 0) := by
  rw [List.getD_eq_getElem?_getD]
  cases e : xs[n]? with
  | none => exact sh_zero
  | some v => exact h v (List.mem_of_getElem? e)
/-! ### deeds -/
def push (st : CS) (n : Int) : CS := if st.pile.length < 1000 then { st with pile := st.pile ++ [n] } else st
theorem push_ok {st : CS} (h : st.Ok) {n : Int} (hn : Sh n) : (push st n).Ok := by
  unfold push
  split
  · exact ⟨by simp; omega, h.h, h.s, h.w, h.l, h.q, fun v hv => by
      rcases List.mem_append.mp hv with h1 | h1
      · exact h.ps v h1
      · rw [List.mem_singleton.mp h1]; exact hn, h.hs, h.ss, h.ws, h.qs, h.ls, h.gs⟩
  · exact h
def popV (st : CS) : Int := (st.pile.getLast?).getD 0
def popS (st : CS) : CS := { st with pile := st.pile.dropLast }
theorem pop_ok {st : CS} (h : st.Ok) : (popS st).Ok := ⟨by have := h.p; simp [popS]; omega, h.h, h.s, h.w, h.l, h.q, fun v hv => h.ps v (List.dropLast_subset _ hv), h.hs, h.ss, h.ws, h.qs, h.ls, h.gs⟩
theorem popV_sh {st : CS} (h : st.Ok) : Sh (popV st) := by
  unfold popV
  cases e : st.pile.getLast? with
  | none => exact sh_zero
  | some v => exact h.ps v (List.mem_of_getLast? e)
def spG (K : PySem.W.Frag) (g : CS → D × CS) (ds0 : List D) : VSp := fun ds μ ev Φ => ∃ c F st, ds = .ref c :: ds0 ∧ CompAt K μ c F st ∧ CS.Ok st ∧ ∀ μ' F', Kp F μ μ' → Nw F F' μ → CompAt K μ' c F' (g st).2 → Φ (g st).1 μ'
def sp_push_short (K : PySem.W.Frag) : VSp := fun ds μ ev Φ => ∃ n, spG K (fun st => (.non, push st n)) [.int n] ds μ ev Φ
theorem b_push_short {P : Program} {w : World} {K : PySem.W.Frag} {mg : Str → Option Value} {base : Heap} (T : Txt w K mg) : ∀ fd, FunD K "push_short" "push_short" (defArgs s_push_short) (defBody s_push_short) (defScope s_push_short) [] [] (He.ga K "push_short") fd → FnG P w K mg base CX0 1 (He.ga K "push_short") fd ["computer", "short"] (lift K [] (sp_push_short K)) := by
  intro fd F
  refine fun_okD (N := N_push_short) F sc_push_short (fun ds μ ev Φ h => ?size) (fun cdv A outer s H E hG hr => ⟨_, (vss_one (vs_if (vt_cmp op_lt s_lt (ve_callB call_lenA s_len (by rfl) T.b_len (by decide +kernel) (va_cons (ve_fld T.cl_Computer T.n_Computer_pile (vv 0)) va_nil)) (ve_gc rfl T.g_MOST_STACK fun _ _ => .int _) (nomark _))
 (vss_one (vs_expr (ve_bm PySem.F.plainAttrs_list PySem.F.slot_list_append PySem.F.type_list_append mt_append s_append (ve_fld T.cl_Computer T.n_Computer_pile (vv 0)) (va_cons (vv 1) va_nil) (fun _ _ h1 h2 => pe_bm PySem.F.plainAttrs_list PySem.F.slot_list_append PySem.F.type_list_append mt_append h1 h2))))
 vss_nil)), fun ds μ ev Φ h => ?_⟩)
  · obtain ⟨n, c, F, st, rfl, _⟩ := h; rfl
  · obtain ⟨n, c, F, st, rfl, ⟨s, hh, p, w, q, l, rfl, b⟩, hl, k⟩ := h
    walk_at "vr"
    refine ⟨_, _, b.ins, _, rfl, ?_⟩
    simp only [vLen_iff (lenOf_of b.p), List.length_map]
    walk_at "vr"
    by_cases hp : st.pile.length < 1000
    · have e : (fun st => (D.non, push st n)) st = (D.non, { st with pile := st.pile ++ [n] }) := by simp only [push, hp, if_true]
      rw [if_pos (by simp; omega)]
      refine ⟨_, _, b.ins, _, rfl, ?_⟩
      simp only [okM_iff b.p, vApp_iff b.p, List.length_map]
      refine ⟨trivial, by rw [sizeLine_eq]; have := hl.p; omega, ?_⟩
      have b2 := b.setP (st.pile ++ [n])
      rw [List.map_append] at b2
      have kk := k _ [c, s, hh, p, w, q, l] (Kp.set (m := .lst (st.pile.map .int ++ [.int n])) (a := p) (by simp)) Nw.refl
      rw [e] at kk
      exact kk ⟨s, hh, p, w, q, l, rfl, b2⟩
    · have e : (fun st => (D.non, push st n)) st = (D.non, st) := by simp only [push, hp, if_false]
      rw [if_neg (by simp; omega)]
      have kk := k μ [c, s, hh, p, w, q, l] Kp.refl Nw.refl
      rw [e] at kk
      exact kk ⟨s, hh, p, w, q, l, rfl, b⟩
theorem c_push_short_2 {P : Program} {w : World} {K : PySem.W.Frag} {mg : Str → Option Value} {base : Heap} (T : Txt w K mg) : CanV P w K mg base CX0 [] 1 (He.ga K "push_short") 2 [] ([.inl 0, .inl 1].map (toArg [] [])) (sp_push_short K) :=
  canV_of (ps := ["computer", "short"]) [.inl 0, .inl 1] T.f_push_short (b_push_short T) (fun _ _ _ _ _ _ us ws h1 h2 => match us, ws, h1, h2 with | [_, _], [], _, _ => rfl) (by decide)
def sp_popped (K : PySem.W.Frag) : VSp := spG K (fun st => (.int (popV st), popS st)) []
theorem b_popped {P : Program} {w : World} {K : PySem.W.Frag} {mg : Str → Option Value} {base : Heap} (T : Txt w K mg) : ∀ fd, FunD K "popped" "popped" (defArgs s_popped) (defBody s_popped) (defScope s_popped) [] [] (He.ga K "popped") fd → FnG P w K mg base CX0 1 (He.ga K "popped") fd ["computer"] (lift K [] (sp_popped K)) := by
  intro fd F
  refine fun_okD (N := N_popped) F sc_popped (fun ds μ ev Φ h => ?size) (fun cdv A outer s H E hG hr => ⟨_, (vss_one (vs_ret (ve_if (vt_tru (ve_fld T.cl_Computer T.n_Computer_pile (vv 0))) (ve_bm0 mt_pop s_pop (fun _ h => pe_bm0 PySem.F.plainAttrs_list PySem.F.slot_list_pop PySem.F.type_list_pop mt_pop h) (ve_fld T.cl_Computer T.n_Computer_pile (vv 0))) ve_int))), fun ds μ ev Φ h => ?_⟩)
  · obtain ⟨c, F, st, rfl, _⟩ := h; rfl
  · obtain ⟨c, F, st, rfl, ⟨s, hh, p, w, q, l, rfl, b⟩, hl, k⟩ := h
    walk_at "vr"
    refine ⟨_, _, b.ins, _, rfl, !st.pile.isEmpty, ?_, ?_⟩
    · show (seqOf μ (.ref p)).map _ = _
      rw [seqOf_of b.p]; simp
    · cases he : st.pile with
      | nil =>
        simp only [List.isEmpty_nil, Bool.not_true, Bool.false_eq_true, if_false]
        have kk := k μ [c, s, hh, p, w, q, l] Kp.refl Nw.refl
        have e1 : popV st = 0 := by simp [popV, he]
        have e2 : popS st = st := by cases st; simp only [popS]; simp only at he; rw [he]; rfl
        simp only [e1, e2] at kk
        exact kk ⟨s, hh, p, w, q, l, rfl, b⟩
      | cons x xs =>
        simp only [List.isEmpty_cons, Bool.not_false, if_true]
        refine ⟨_, _, b.ins, _, rfl, ?_⟩
        simp only [okM_iff b.p, vPop_iff b.p, true_and]
        have hne : st.pile ≠ [] := by rw [he]; exact nofun
        refine ⟨.int (popV st), ?_, ?_⟩
        · rw [List.length_map, List.getElem?_map, ← List.getLast?_eq_getElem?, popV]
          rw [List.getLast?_eq_getLast hne]; rfl
        · have b2 := b.setP st.pile.dropLast
          have kk := k _ [c, s, hh, p, w, q, l] (Kp.set (m := .lst (st.pile.dropLast.map .int)) (a := p) (by simp)) Nw.refl
          have kk := kk ⟨s, hh, p, w, q, l, rfl, b2⟩
          rw [← List.map_dropLast]
          exact kk
theorem c_popped_1 {P : Program} {w : World} {K : PySem.W.Frag} {mg : Str → Option Value} {base : Heap} (T : Txt w K mg) : CanV P w K mg base CX0 [] 1 (He.ga K "popped") 1 [] ([.inl 0].map (toArg [] [])) (sp_popped K) :=
  canV_of (ps := ["computer"]) [.inl 0] T.f_popped (b_popped T) (fun _ _ _ _ _ _ us ws h1 h2 => match us, ws, h1, h2 with | [_], [], _, _ => rfl) (by decide)
theorem into_push {K : PySem.W.Frag} {μ : Mu} {ev : EV} {Φ : WK} {c : Addr} {F : List Addr} {st : CS} {n : Int} (hC : CompAt K μ c F st) (ok : st.Ok) (k : ∀ μ' F', Kp F μ μ' → Nw F F' μ → CompAt K μ' c F' (push st n) → Φ .non μ') : sp_push_short K [.ref c, .int n] μ ev Φ :=
  ⟨n, c, F, st, rfl, hC, ok, k⟩
theorem into_pop {K : PySem.W.Frag} {μ : Mu} {ev : EV} {Φ : WK} {c : Addr} {F : List Addr} {st : CS} (hC : CompAt K μ c F st) (ok : st.Ok) (k : ∀ μ' F', Kp F μ μ' → Nw F F' μ → CompAt K μ' c F' (popS st) → Φ (.int (popV st)) μ') : sp_popped K [.ref c] μ ev Φ :=
  ⟨c, F, st, rfl, hC, ok, k⟩
def sp_do_push (K : PySem.W.Frag) : VSp := fun ds μ ev Φ => ∃ n, spG K (fun st => (.non, push st n)) [.int n] ds μ ev Φ
theorem b_do_push {P : Program} {w : World} {K : PySem.W.Frag} {mg : Str → Option Value} {base : Heap} (T : Txt w K mg) : ∀ fd, FunD K "do_push" "do_push" (defArgs s_do_push) (defBody s_do_push) (defScope s_do_push) [] [] (He.ga K "do_push") fd → FnG P w K mg base CX0 2 (He.ga K "do_push") fd ["computer", "short"] (lift K [] (sp_do_push K)) := by
  intro fd F
  refine fun_okD (N := N_do_push) F sc_do_push (fun ds μ ev Φ h => ?size) (fun cdv A outer s H E hG hr => ⟨_, (vss_one (vs_expr (ve_call T.g_push_short (c_push_short_2 T) hG hr (by decide) pass0 sel_0 rfl (va_cons (vv 0) (va_cons (vv 1) va_nil)) vk_nil))), fun ds μ ev Φ h => ?_⟩)
  · obtain ⟨n, c, F, st, rfl, _⟩ := h; rfl
  · obtain ⟨n, c, F, st, rfl, hC, ok, k⟩ := h
    walk_at "vr"
    exact into_push hC ok k
def sp_do_drop (K : PySem.W.Frag) : VSp := fun ds μ ev Φ => ∃ x, spG K (fun st => (.non, popS st)) [x] ds μ ev Φ
theorem b_do_drop {P : Program} {w : World} {K : PySem.W.Frag} {mg : Str → Option Value} {base : Heap} (T : Txt w K mg) : ∀ fd, FunD K "do_drop" "do_drop" (defArgs s_do_drop) (defBody s_do_drop) (defScope s_do_drop) [] [] (He.ga K "do_drop") fd → FnG P w K mg base CX0 2 (He.ga K "do_drop") fd ["computer", "_"] (lift K [] (sp_do_drop K)) := by
  intro fd F
  refine fun_okD (N := N_do_drop) F sc_do_drop (fun ds μ ev Φ h => ?size) (fun cdv A outer s H E hG hr => ⟨_, (vss_one (vs_expr (ve_call T.g_popped (c_popped_1 T) hG hr (by decide) pass0 sel_0 rfl (va_cons (vv 0) va_nil) vk_nil))), fun ds μ ev Φ h => ?_⟩)
  · obtain ⟨n, c, F, st, rfl, _⟩ := h; rfl
  · obtain ⟨n, c, F, st, rfl, hC, ok, k⟩ := h
    walk_at "vr"
    exact into_pop hC ok k
def notI (n : Int) : Int := if n = 0 then 1 else 0
def sp_do_not (K : PySem.W.Frag) : VSp := fun ds μ ev Φ => ∃ x, spG K (fun st => (.non, push (popS st) (notI (popV st)))) [x] ds μ ev Φ
theorem b_do_not {P : Program} {w : World} {K : PySem.W.Frag} {mg : Str → Option Value} {base : Heap} (T : Txt w K mg) : ∀ fd, FunD K "do_not" "do_not" (defArgs s_do_not) (defBody s_do_not) (defScope s_do_not) [] [] (He.ga K "do_not") fd → FnG P w K mg base CX0 2 (He.ga K "do_not") fd ["computer", "_"] (lift K [] (sp_do_not K)) := by
  intro fd F
  refine fun_okD (N := N_do_not) F sc_do_not (fun ds μ ev Φ h => ?size) (fun cdv A outer s H E hG hr => ⟨_, (vss_one (vs_expr (ve_call T.g_push_short (c_push_short_2 T) hG hr (by decide) pass0 sel_0 rfl (va_cons (vv 0) (va_cons (ve_if (vt_cmp (op_eqA hr.units) s_eq (ve_call T.g_popped (c_popped_1 T) hG hr (by decide) pass0 sel_0 rfl (va_cons (vv 0) va_nil) vk_nil) ve_int (nomark _)) ve_int ve_int) va_nil)) vk_nil))), fun ds μ ev Φ h => ?_⟩)
  · obtain ⟨n, c, F, st, rfl, _⟩ := h; rfl
  · obtain ⟨n, c, F, st, rfl, hC, ok, k⟩ := h
    walk_at "vr"
    refine into_pop hC ok fun μ1 F1 k1 n1 hC1 => ?_
    try walk_at "vr"
    by_cases hz : popV st = 0
    · simp only [hz, decide_true, if_true]
      refine into_push hC1 (pop_ok ok) fun μ2 F2 k2 n2 hC2 => ?_
      have kk := k μ2 F2 (k1.trans n1 k2) (n1.trans k1 n2)
      simp only [notI, hz, if_true] at kk
      exact kk hC2
    · simp only [hz, decide_false, Bool.false_eq_true, if_false]
      refine into_push hC1 (pop_ok ok) fun μ2 F2 k2 n2 hC2 => ?_
      have kk := k μ2 F2 (k1.trans n1 k2) (n1.trans k1 n2)
      simp only [notI, hz, if_false] at kk
      exact kk hC2
def sp_do_copy (K : PySem.W.Frag) : VSp := fun ds μ ev Φ => ∃ x, spG K (fun st => (.non, push (push (popS st) (popV st)) (popV st))) [x] ds μ ev Φ
theorem b_do_copy {P : Program} {w : World} {K : PySem.W.Frag} {mg : Str → Option Value} {base : Heap} (T : Txt w K mg) : ∀ fd, FunD K "do_copy" "do_copy" (defArgs s_do_copy) (defBody s_do_copy) (defScope s_do_copy) [] [] (He.ga K "do_copy") fd → FnG P w K mg base CX0 2 (He.ga K "do_copy") fd ["computer", "_"] (lift K [] (sp_do_copy K)) := by
  intro fd F
  refine fun_okD (N := N_do_copy) F sc_do_copy (fun ds μ ev Φ h => ?size) (fun cdv A outer s H E hG hr => ⟨_, (vss_cons (vs_set (i := 2) sc_do_copy.nd rfl (Or.inl rfl) (ve_call T.g_popped (c_popped_1 T) hG hr (by decide) pass0 sel_0 rfl (va_cons (vv 0) va_nil) vk_nil))
 (vss_cons (vs_expr (ve_call T.g_push_short (c_push_short_2 T) hG hr (by decide) pass0 sel_0 rfl (va_cons (vv 0) (va_cons (vv 2) va_nil)) vk_nil))
 (vss_one (vs_expr (ve_call T.g_push_short (c_push_short_2 T) hG hr (by decide) pass0 sel_0 rfl (va_cons (vv 0) (va_cons (vv 2) va_nil)) vk_nil))))), fun ds μ ev Φ h => ?_⟩)
  · obtain ⟨n, c, F, st, rfl, _⟩ := h; rfl
  · obtain ⟨n, c, F, st, rfl, hC, ok, k⟩ := h
    walk_at "vr"
    refine into_pop hC ok fun μ1 F1 k1 n1 hC1 => ?_
    try walk_at "vr"
    refine into_push hC1 (pop_ok ok) fun μ2 F2 k2 n2 hC2 => ?_
    try walk_at "vr"
    refine into_push hC2 (push_ok (pop_ok ok) (popV_sh ok)) fun μ3 F3 k3 n3 hC3 => ?_
    have k12 := k1.trans n1 k2
    have n12 := n1.trans k1 n2
    exact k μ3 F3 (k12.trans n12 k3) (n12.trans k12 n3) hC3
def sp_do_wait (K : PySem.W.Frag) : VSp := fun ds μ ev Φ => ∃ x, spG K (fun st => (.tup [.str "waits"], st)) [x] ds μ ev Φ
theorem b_do_wait {P : Program} {w : World} {K : PySem.W.Frag} {mg : Str → Option Value} {base : Heap} (T : Txt w K mg) : ∀ fd, FunD K "do_wait" "do_wait" (defArgs s_do_wait) (defBody s_do_wait) (defScope s_do_wait) [] [] (He.ga K "do_wait") fd → FnG P w K mg base CX0 1 (He.ga K "do_wait") fd ["computer", "_"] (lift K [] (sp_do_wait K)) := by
  intro fd F
  refine fun_okD (N := N_do_wait) F sc_do_wait (fun ds μ ev Φ h => ?size) (fun cdv A outer s H E hG hr => ⟨_, (vss_one (vs_ret (ve_tup (va_cons ve_str va_nil)))), fun ds μ ev Φ h => ?_⟩)
  · obtain ⟨n, c, F, st, rfl, _⟩ := h; rfl
  · obtain ⟨n, c, F, st, rfl, hC, ok, k⟩ := h
    walk_at "vr"
    exact ⟨sizeOk (by decide), k μ F Kp.refl Nw.refl hC⟩
def sp_do_jump (K : PySem.W.Frag) : VSp := fun ds μ ev Φ => ∃ n, spG K (fun st => (.non, { st with at_ := n })) [.int n] ds μ ev Φ
theorem b_do_jump {P : Program} {w : World} {K : PySem.W.Frag} {mg : Str → Option Value} {base : Heap} (T : Txt w K mg) : ∀ fd, FunD K "do_jump" "do_jump" (defArgs s_do_jump) (defBody s_do_jump) (defScope s_do_jump) [] [] (He.ga K "do_jump") fd → FnG P w K mg base CX0 1 (He.ga K "do_jump") fd ["computer", "row"] (lift K [] (sp_do_jump K)) := by
  intro fd F
  refine fun_okD (N := N_do_jump) F sc_do_jump (fun ds μ ev Φ h => ?size) (fun cdv A outer s H E hG hr => ⟨_, (vss_one (vs_fld T.cl_Computer T.n_Computer_at (vv 0) (vv 1))), fun ds μ ev Φ h => ?_⟩)
  · obtain ⟨n, c, F, st, rfl, _⟩ := h; rfl
  · obtain ⟨n, c, F, st, rfl, ⟨s, hh, p, w, q, l, rfl, b⟩, ok, k⟩ := h
    walk_at "vr"
    refine ⟨_, _, b.c, by decide, ?_⟩
    exact k _ _ (Kp.set (by simp)) Nw.refl ⟨s, hh, p, w, q, l, rfl, b.setC (st' := { st with at_ := n }) ⟨rfl, rfl, rfl, rfl, rfl, rfl⟩⟩
def unlessS (st : CS) (n : Int) : CS := if popV st = 0 then { popS st with at_ := n } else popS st
def sp_do_unless (K : PySem.W.Frag) : VSp := fun ds μ ev Φ => ∃ n, spG K (fun st => (.non, unlessS st n)) [.int n] ds μ ev Φ
theorem b_do_unless {P : Program} {w : World} {K : PySem.W.Frag} {mg : Str → Option Value} {base : Heap} (T : Txt w K mg) : ∀ fd, FunD K "do_unless" "do_unless" (defArgs s_do_unless) (defBody s_do_unless) (defScope s_do_unless) [] [] (He.ga K "do_unless") fd → FnG P w K mg base CX0 2 (He.ga K "do_unless") fd ["computer", "row"] (lift K [] (sp_do_unless K)) := by
  intro fd F
  refine fun_okD (N := N_do_unless) F sc_do_unless (fun ds μ ev Φ h => ?size) (fun cdv A outer s H E hG hr => ⟨_, (vss_one (vs_if (vt_cmp (op_eqA hr.units) s_eq (ve_call T.g_popped (c_popped_1 T) hG hr (by decide) pass0 sel_0 rfl (va_cons (vv 0) va_nil) vk_nil) ve_int (nomark _))
 (vss_one (vs_fld T.cl_Computer T.n_Computer_at (vv 0) (vv 1)))
 vss_nil)), fun ds μ ev Φ h => ?_⟩)
  · obtain ⟨n, c, F, st, rfl, _⟩ := h; rfl
  · obtain ⟨n, c, F, st, rfl, hC, ok, k⟩ := h
    walk_at "vr"
    refine into_pop hC ok fun μ1 F1 k1 n1 hC1 => ?_
    try walk_at "vr"
    by_cases hz : popV st = 0
    · simp only [hz, decide_true, if_true]
      obtain ⟨s, hh, p, w, q, l, rfl, b⟩ := hC1
      refine ⟨_, _, b.c, by decide, ?_⟩
      have k2 : Kp [c, s, hh, p, w, q, l] μ1 (μ1.set c (.ins (cComp K) compNs (compFs K { popS st with at_ := n } s hh p w q l))) := Kp.set (by simp)
      have kk := k _ _ (k1.trans n1 k2) (n1.trans k1 Nw.refl)
      simp only [unlessS, hz, if_true] at kk
      exact kk ⟨s, hh, p, w, q, l, rfl, b.setC ⟨rfl, rfl, rfl, rfl, rfl, rfl⟩⟩
    · simp only [hz, decide_false, Bool.false_eq_true, if_false]
      have kk := k _ _ k1 n1
      simp only [unlessS, hz, if_false] at kk
      exact kk hC1
def sp_do_load (K : PySem.W.Frag) : VSp := fun ds μ ev Φ => ∃ n : Nat, n < 1000 ∧ spG K (fun st => (.non, push st (st.held.getD n 0))) [.int n] ds μ ev Φ
theorem b_do_load {P : Program} {w : World} {K : PySem.W.Frag} {mg : Str → Option Value} {base : Heap} (T : Txt w K mg) : ∀ fd, FunD K "do_load" "do_load" (defArgs s_do_load) (defBody s_do_load) (defScope s_do_load) [] [] (He.ga K "do_load") fd → FnG P w K mg base CX0 2 (He.ga K "do_load") fd ["computer", "address"] (lift K [] (sp_do_load K)) := by
  intro fd F
  refine fun_okD (N := N_do_load) F sc_do_load (fun ds μ ev Φ h => ?size) (fun cdv A outer s H E hG hr => ⟨_, (vss_one (vs_expr (ve_call T.g_push_short (c_push_short_2 T) hG hr (by decide) pass0 sel_0 rfl (va_cons (vv 0) (va_cons (ve_ix ix_seq s_ix (ve_fld T.cl_Computer T.n_Computer_held (vv 0)) (vv 1)) va_nil)) vk_nil))), fun ds μ ev Φ h => ?_⟩)
  · obtain ⟨n, _, c, F, st, rfl, _⟩ := h; rfl
  · obtain ⟨n, hn, c, F, st, rfl, hC, ok, k⟩ := h
    have hC' := hC
    obtain ⟨s, hh, p, w, q, l, rfl, b⟩ := hC'
    walk_at "vr"
    refine ⟨_, _, b.ins, _, rfl, ?_⟩
    simp only [vIx_iff (seqOf_of b.h)]
    refine ⟨.int (st.held.getD n 0), atI_nat ?_, into_push hC ok k⟩
    have : n < st.held.length := by rw [ok.h]; exact hn
    simp [List.getElem?_eq_getElem this]
def sp_do_store (K : PySem.W.Frag) : VSp := fun ds μ ev Φ => ∃ n : Nat, n < 1000 ∧ spG K (fun st => (.non, { popS st with held := st.held.set n (popV st) })) [.int n] ds μ ev Φ
theorem b_do_store {P : Program} {w : World} {K : PySem.W.Frag} {mg : Str → Option Value} {base : Heap} (T : Txt w K mg) : ∀ fd, FunD K "do_store" "do_store" (defArgs s_do_store) (defBody s_do_store) (defScope s_do_store) [] [] (He.ga K "do_store") fd → FnG P w K mg base CX0 2 (He.ga K "do_store") fd ["computer", "address"] (lift K [] (sp_do_store K)) := by
  intro fd F
  refine fun_okD (N := N_do_store) F sc_do_store (fun ds μ ev Φ h => ?size) (fun cdv A outer s H E hG hr => ⟨_, (vss_one (vs_asg (ve_call T.g_popped (c_popped_1 T) hG hr (by decide) pass0 sel_0 rfl (va_cons (vv 0) va_nil) vk_nil) (vg_sub (fun _ _ h1 h2 => pg_sub h1 h2 set_list) s_setL (ve_fld T.cl_Computer T.n_Computer_held (vv 0)) (vv 1)))), fun ds μ ev Φ h => ?_⟩)
  · obtain ⟨n, _, c, F, st, rfl, _⟩ := h; rfl
  · obtain ⟨n, hn, c, F, st, rfl, hC, ok, k⟩ := h
    walk_at "vr"
    refine into_pop hC ok fun μ1 F1 k1 n1 hC1 => ?_
    try walk_at "vr"
    obtain ⟨s, hh, p, w, q, l, rfl, b⟩ := hC1
    refine ⟨_, _, b.ins, _, rfl, ?_⟩
    simp only [vSet_iff b.h]
    refine ⟨n, ixN_nat (by rw [List.length_map]; show n < st.held.length; rw [ok.h]; exact hn), ?_⟩
    have b2 := b.setH (st.held.set n (popV st))
    rw [List.map_set] at b2
    exact k _ _ (k1.trans n1 (Kp.set (by simp))) (n1.trans k1 Nw.refl) ⟨s, hh, p, w, q, l, rfl, b2⟩
def fetchV (st : CS) : Int := if 0 ≤ popV st ∧ popV st < 1000 then st.held.getD (popV st).toNat 0 else 0
theorem fetchV_sh {st : CS} (h : st.Ok) : Sh (fetchV st) := by
  unfold fetchV
  split
  · exact getD_sh h.hs _
  · exact sh_zero
def sp_do_fetch (K : PySem.W.Frag) : VSp := fun ds μ ev Φ => ∃ x, spG K (fun st => (.non, push (popS st) (fetchV st))) [x] ds μ ev Φ
theorem b_do_fetch {P : Program} {w : World} {K : PySem.W.Frag} {mg : Str → Option Value} {base : Heap} (T : Txt w K mg) : ∀ fd, FunD K "do_fetch" "do_fetch" (defArgs s_do_fetch) (defBody s_do_fetch) (defScope s_do_fetch) [] [] (He.ga K "do_fetch") fd → FnG P w K mg base CX0 2 (He.ga K "do_fetch") fd ["computer", "_"] (lift K [] (sp_do_fetch K)) := by
  intro fd F
  refine fun_okD (N := N_do_fetch) F sc_do_fetch (fun ds μ ev Φ h => ?size) (fun cdv A outer s H E hG hr => ⟨_, (vss_cons (vs_set (i := 2) sc_do_fetch.nd rfl (Or.inl rfl) (ve_call T.g_popped (c_popped_1 T) hG hr (by decide) pass0 sel_0 rfl (va_cons (vv 0) va_nil) vk_nil))
 (vss_one (vs_expr (ve_call T.g_push_short (c_push_short_2 T) hG hr (by decide) pass0 sel_0 rfl (va_cons (vv 0) (va_cons (ve_if (vt_chain op_le s_le op_lt s_lt ve_int (vv 2) (ve_gc rfl T.g_MOST_MEMORY fun _ _ => .int _)) (ve_ix ix_seq s_ix (ve_fld T.cl_Computer T.n_Computer_held (vv 0)) (vv 2)) ve_int) va_nil)) vk_nil)))), fun ds μ ev Φ h => ?_⟩)
  · obtain ⟨n, c, F, st, rfl, _⟩ := h; rfl
  · obtain ⟨n, c, F, st, rfl, hC, ok, k⟩ := h
    walk_at "wr"
    refine into_pop hC ok fun μ1 F1 k1 n1 hC1 => ?_
    try walk_at "wr"
    have hC1' := hC1
    obtain ⟨s, hh, p, w, q, l, rfl, b⟩ := hC1'
    have fin : ∀ v, v = fetchV st → sp_push_short K [.ref c, .int v] μ1 ev0 fun d μ1 => Φ .non μ1 := fun v e => by
      subst e
      exact into_push hC1 (pop_ok ok) fun μ2 F2 k2 n2 hC2 => k μ2 F2 (k1.trans n1 k2) (n1.trans k1 n2) hC2
    have e0 : fetchV st = if 0 ≤ popV st ∧ popV st < 1000 then st.held.getD (popV st).toNat 0 else 0 := rfl
    generalize popV st = a at e0 ⊢
    by_cases h1 : 0 ≤ a
    · by_cases h2 : a < 1000
      · simp only [h1, h2, decide_true, if_true]
        refine ⟨_, _, b.ins, _, rfl, ?_⟩
        rw [vIx_iff (seqOf_of b.h)]
        obtain ⟨m, rfl⟩ : ∃ m : Nat, a = (m : Int) := ⟨a.toNat, by omega⟩
        refine ⟨.int (st.held.getD m 0), atI_nat ?_, fin _ (by rw [e0, if_pos ⟨h1, h2⟩, Int.toNat_natCast])⟩
        have : m < (popS st).held.length := by show m < st.held.length; rw [ok.h]; omega
        show (st.held.map D.int)[m]? = _
        simp [List.getElem?_eq_getElem (show m < st.held.length from this)]
      · simp only [h1, h2, decide_true, decide_false, if_true, Bool.false_eq_true, if_false]
        exact fin _ (by rw [e0, if_neg (by omega)])
    · simp only [h1, decide_false, Bool.false_eq_true, if_false]
      exact fin _ (by rw [e0, if_neg (by omega)])
def putS (st : CS) : CS := if 0 ≤ popV st ∧ popV st < 1000 then { popS (popS st) with held := st.held.set (popV st).toNat (popV (popS st)) } else popS (popS st)
theorem putS_ok {st : CS} (h : st.Ok) : (putS st).Ok := by
  unfold putS
  split
  · exact (pop_ok (pop_ok h)).held_ (by rw [List.length_set]; exact h.h) (set_sh h.hs (popV_sh (pop_ok h)))
  · exact pop_ok (pop_ok h)
def sp_do_put (K : PySem.W.Frag) : VSp := fun ds μ ev Φ => ∃ x, spG K (fun st => (.non, putS st)) [x] ds μ ev Φ
theorem b_do_put {P : Program} {w : World} {K : PySem.W.Frag} {mg : Str → Option Value} {base : Heap} (T : Txt w K mg) : ∀ fd, FunD K "do_put" "do_put" (defArgs s_do_put) (defBody s_do_put) (defScope s_do_put) [] [] (He.ga K "do_put") fd → FnG P w K mg base CX0 2 (He.ga K "do_put") fd ["computer", "_"] (lift K [] (sp_do_put K)) := by
  intro fd F
  refine fun_okD (N := N_do_put) F sc_do_put (fun ds μ ev Φ h => ?size) (fun cdv A outer s H E hG hr => ⟨_, (vss_cons (vs_set (i := 2) sc_do_put.nd rfl (Or.inl rfl) (ve_call T.g_popped (c_popped_1 T) hG hr (by decide) pass0 sel_0 rfl (va_cons (vv 0) va_nil) vk_nil))
 (vss_cons (vs_set (i := 3) sc_do_put.nd rfl (Or.inl rfl) (ve_call T.g_popped (c_popped_1 T) hG hr (by decide) pass0 sel_0 rfl (va_cons (vv 0) va_nil) vk_nil))
 (vss_one (vs_if (vt_chain op_le s_le op_lt s_lt ve_int (vv 2) (ve_gc rfl T.g_MOST_MEMORY fun _ _ => .int _))
 (vss_one (vs_asg (vv 3) (vg_sub (fun _ _ h1 h2 => pg_sub h1 h2 set_list) s_setL (ve_fld T.cl_Computer T.n_Computer_held (vv 0)) (vv 2))))
 vss_nil)))), fun ds μ ev Φ h => ?_⟩)
  · obtain ⟨n, c, F, st, rfl, _⟩ := h; rfl
  · obtain ⟨n, c, F, st, rfl, hC, ok, k⟩ := h
    walk_at "wr"
    refine into_pop hC ok fun μ1 F1 k1 n1 hC1 => ?_
    try walk_at "wr"
    refine into_pop hC1 (pop_ok ok) fun μ2 F2 k2 n2 hC2 => ?_
    try walk_at "wr"
    have k12 := k1.trans n1 k2
    have n12 := n1.trans k1 n2
    have hC2' := hC2
    obtain ⟨s, hh, p, w, q, l, rfl, b⟩ := hC2'
    have e0 : putS st = if 0 ≤ popV st ∧ popV st < 1000 then { popS (popS st) with held := st.held.set (popV st).toNat (popV (popS st)) } else popS (popS st) := rfl
    dsimp only at k
    rw [e0] at k
    have hl := ok.h
    generalize popV st = a at k ⊢
    by_cases h1 : 0 ≤ a
    · by_cases h2 : a < 1000
      · simp only [h1, h2, decide_true, if_true]
        rw [if_pos ⟨h1, h2⟩] at k
        refine ⟨_, _, b.ins, _, rfl, ?_⟩
        rw [vSet_iff b.h]
        obtain ⟨m, rfl⟩ : ∃ m : Nat, a = (m : Int) := ⟨a.toNat, by omega⟩
        refine ⟨m, ixN_nat (by rw [List.length_map]; show m < st.held.length; omega), ?_⟩
        have b2 := b.setH (st.held.set m (popV (popS st)))
        rw [List.map_set] at b2
        rw [Int.toNat_natCast] at k
        exact k _ _ (k12.trans n12 (Kp.set (by simp))) (n12.trans k12 Nw.refl) ⟨s, hh, p, w, q, l, rfl, b2⟩
      · simp only [h1, h2, decide_true, decide_false, if_true, Bool.false_eq_true, if_false]
        rw [if_neg (by omega)] at k
        exact k _ _ k12 n12 hC2
    · simp only [h1, decide_false, Bool.false_eq_true, if_false]
      rw [if_neg (by omega)] at k
      exact k _ _ k12 n12 hC2
def shortOf (n : Int) : Int := (n + 2147483648) % 4294967296 - 2147483648
def sp_short_of : VSp := fun ds μ ev Φ => ∃ n, ds = [.int n] ∧ Φ (.int (shortOf n)) μ
theorem b_short_of {P : Program} {w : World} {K : PySem.W.Frag} {mg : Str → Option Value} {base : Heap} (T : Txt w K mg) : ∀ fd, FunD K "short_of" "short_of" (defArgs s_short_of) (defBody s_short_of) (defScope s_short_of) [] [] (He.ga K "short_of") fd → FnG P w K mg base CX0 1 (He.ga K "short_of") fd ["number"] (lift K [] (sp_short_of)) := by
  intro fd F
  refine fun_okD (N := N_short_of) F sc_short_of (fun ds μ ev Φ h => ?size) (fun cdv A outer s H E hG hr => ⟨_, (vss_one (vs_ret (ve_op op_sub s_sub (ve_op op_mod s_mod (ve_op op_addA s_addA (vv 0) ve_int) ve_int) ve_int))), fun ds μ ev Φ h => ?_⟩)
  · obtain ⟨n, rfl, _⟩ := h; rfl
  · obtain ⟨n, rfl, q⟩ := h
    walk_at "vr"
    exact ⟨by decide, q⟩
theorem c_short_of_1 {P : Program} {w : World} {K : PySem.W.Frag} {mg : Str → Option Value} {base : Heap} (T : Txt w K mg) : CanV P w K mg base CX0 [] 1 (He.ga K "short_of") 1 [] ([.inl 0].map (toArg [] [])) (sp_short_of) :=
  canV_of (ps := ["number"]) [.inl 0] T.f_short_of (b_short_of T) (fun _ _ _ _ _ _ us ws h1 h2 => match us, ws, h1, h2 with | [_], [], _, _ => rfl) (by decide)
end K25

set_option maxRecDepth 100000
set_option maxHeartbeats 4000000
namespace K25
open PySem L2 FW VL
local macro_rules | `(tactic| walk_at "vr") => `(tactic| simp only [wLenSet, wFor, wSetF, wAugF, wAug, wBM, wProp, wHeld, wVar, wC, wZ, wOp, wUn, wNil, wCons, wStar, wCB, wTup, wLst, wLstM, wTest, wAnd, wOr, VL.wNot, wAndV, wOrV, wNotV, wIf, wChain, wNoPart, wPart, wSl, wName, wGNil, wGCons, wGTup, wSub, wNext, VL.wSeq, wAsg, wDrop, wRet, wRetN, wIfS, wBreak, wCont, wPar, vI0, vI, vU, vAdd, vSub, vMul, vMod, vFdiv, vPow, vLt, vLe, vGt, vGe, vNeg, vIsN, vNotN, vAddA, vMulA, VL.wTru, iwL, iwT, wLc, vstart, List.map_cons, List.map_nil, List.cons_append, List.nil_append, List.set_cons_zero, List.set_cons_succ, List.getElem?_cons_zero, List.getElem?_cons_succ, Option.some.injEq, exists_eq_left, exists_eq_left', exists_eq', D.bl.injEq, D.int.injEq, D.str.injEq, D.tup.injEq, D.ref.injEq, List.cons.injEq, and_true, true_and, List.length_cons, List.length_nil, List.replicate, D.ty.injEq, exists_and_left, List.length, Nat.reduceAdd, wCall, wMake, wMeth, wFld, argsD, argD, toArg, List.getD_cons_zero, List.getD_cons_succ, List.map, iwS, vTupOf, Bool.false_eq_true, if_false, if_true, reduceIte, List.getElem?_nil, Nat.reduceSub, wipeR, vLen_lst, vLen_tup, vEq_ii, vEq_ss, vEq_bb, vIx_lst, vIx_tup, vIn_strs, vIn_s2, vIn_s3, vAll_map, vInK_s, vIxK_s, vInt_i, vAbs_i, atI_0, atI_1, atI_2, Bool.not_true, Bool.not_false, seqOf_lst, seqOf_tup, lstOf_lst, tupOf_tup, fzL_lst, N_is_list, N_is_integer, N_is_within, N_is_short, N_are_shorts, N_are_integers, N_is_lot, N_fixed, N_short_of, N_added, N_taken_from, N_multiplied, N_divided, N_left_over, N_is_less, N_is_equal, N_are_both, N_is_any, N_is_instruction, N_is_target_beyond, N_are_rows, N_Code___init__, N_Code___eq__, N_Code___iter__, N_push_short, N_popped, N_do_push, N_do_load, N_do_store, N_do_fetch, N_do_put, N_do_not, N_do_drop, N_do_copy, N_do_jump, N_do_unless, N_do_wait, N_do_sign, N_do_read, N_do_write, N_do_barrier, N_do_send, N_do_take, N_do_input, N_do_show, N_deed_of_row, N_is_disk_pair, N_are_disk_pairs, N_is_disk, N_Computer_power_on, N_Computer___init__, N_Computer_stack, N_Computer_disk, N_Computer_waiting, N_Computer_cards, N_Computer_memory, N_Computer_hand, N_Computer_cut, N_Computer_go, N_Computer_step, N__law_bench, N__law_turn, N__law_tool, N__law_wrap, N__law_signed, N__law_popped, N__law_written, N__law_settled, N__law_awake, N__law_outside, N__law_step, N__law_piece, N__law_is_so, N__law_moment_right, N_law])
local macro_rules | `(tactic| walk_at "wr") => `(tactic| simp only [vInt_bl, iwR1, iwR2, iwM, List.set_cons_succ, wLenSet, wFor, wSetF, wAugF, wAug, wBM, wProp, wHeld, wVar, wC, wZ, wOp, wUn, wNil, wCons, wStar, wCB, wTup, wLst, wLstM, wTest, wAnd, wOr, VL.wNot, wAndV, wOrV, wNotV, wIf, wChain, wNoPart, wPart, wSl, wName, wGNil, wGCons, wGTup, wSub, wNext, VL.wSeq, wAsg, wDrop, wRet, wRetN, wIfS, wBreak, wCont, wPar, vI0, vI, vU, vAdd, vSub, vMul, vMod, vFdiv, vPow, vLt, vLe, vGt, vGe, vNeg, vIsN, vNotN, vAddA_ii, vMulA_ii, VL.wTru, iwL, iwT, wLc, vstart, List.map_cons, List.map_nil, List.cons_append, List.nil_append, List.set_cons_zero, List.set_cons_succ, List.getElem?_cons_zero, List.getElem?_cons_succ, Option.some.injEq, exists_eq_left, exists_eq_left', exists_eq', D.bl.injEq, D.int.injEq, D.str.injEq, D.tup.injEq, D.ref.injEq, List.cons.injEq, and_true, true_and, List.length_cons, List.length_nil, List.replicate, D.ty.injEq, exists_and_left, List.length, Nat.reduceAdd, wCall, wMake, wMeth, wFld, argsD, argD, toArg, List.getD_cons_zero, List.getD_cons_succ, List.map, iwS, vTupOf, Bool.false_eq_true, if_false, if_true, reduceIte, List.getElem?_nil, Nat.reduceSub, wipeR, vLen_lst, vLen_tup, vEq_ii, vEq_ss, vEq_bb, vIx_lst, vIx_tup, vIn_strs, vIn_s2, vIn_s3, vAll_map, vInK_s, vIxK_s, vInt_i, vAbs_i, atI_0, atI_1, atI_2, Bool.not_true, Bool.not_false, seqOf_lst, seqOf_tup, lstOf_lst, tupOf_tup, fzL_lst, N_is_list, N_is_integer, N_is_within, N_is_short, N_are_shorts, N_are_integers, N_is_lot, N_fixed, N_short_of, N_added, N_taken_from, N_multiplied, N_divided, N_left_over, N_is_less, N_is_equal, N_are_both, N_is_any, N_is_instruction, N_is_target_beyond, N_are_rows, N_Code___init__, N_Code___eq__, N_Code___iter__, N_push_short, N_popped, N_do_push, N_do_load, N_do_store, N_do_fetch, N_do_put, N_do_not, N_do_drop, N_do_copy, N_do_jump, N_do_unless, N_do_wait, N_do_sign, N_do_read, N_do_write, N_do_barrier, N_do_send, N_do_take, N_do_input, N_do_show, N_deed_of_row, N_is_disk_pair, N_are_disk_pairs, N_is_disk, N_Computer_power_on, N_Computer___init__, N_Computer_stack, N_Computer_disk, N_Computer_waiting, N_Computer_cards, N_Computer_memory, N_Computer_hand, N_Computer_cut, N_Computer_go, N_Computer_step, N__law_bench, N__law_turn, N__law_tool, N__law_wrap, N__law_signed, N__law_popped, N__law_written, N__law_settled, N__law_awake, N__law_outside, N__law_step, N__law_piece, N__law_is_so, N__law_moment_right, N_law, ofStr_inj, ofStr_beq, String.reduceEq, decide_true, decide_false, Bool.or_false, Bool.or_true, Bool.false_or, Bool.true_or, Bool.and_true, Bool.and_false, Bool.true_and, Bool.false_and, vModN, iwE, iwEM])
local macro_rules | `(tactic| walk_at "frz") => `(tactic| ((try walk_at "vr"); refine ⟨_, frzOf_lst Mu.same, ?_⟩; rw [Mu.del_set (by assumption)]))
def spAct (h : Int → Int → Int) : VSp := fun ds μ ev Φ => ∃ a b, ds = [.int a, .int b] ∧ Sh a ∧ Sh b ∧ Φ (.int (h a b)) μ
theorem shortOf_sh (n : Int) : Sh (shortOf n) := by
  have h1 := Int.emod_nonneg (n + 2147483648) (b := 4294967296) (by decide)
  have h2 := Int.emod_lt_of_pos (n + 2147483648) (b := 4294967296) (by decide)
  exact ⟨by unfold shortOf; omega, by unfold shortOf; omega⟩
theorem cmul_sh {a b : Int} (h : Sh a) : CMul a b := .inl ⟨by have := h.1; omega, by have := h.2; omega⟩
theorem cdiv_sh {a b : Int} (h : Sh b) (n : b ≠ 0) : CDivA a b := ⟨n, Nat.lt_trans (log2_lt (k := 40) (by have := h.1; have := h.2; omega) (by decide)) (by decide)⟩
def divI (a b : Int) : Int := if b = 0 then 0 else shortOf (a.fdiv b)
def remI (a b : Int) : Int := if b = 0 then 0 else a.fmod b
def lessI (a b : Int) : Int := if a < b then 1 else 0
def eqI (a b : Int) : Int := if a = b then 1 else 0
def andI (a b : Int) : Int := if a ≠ 0 ∧ b ≠ 0 then 1 else 0
def orI (a b : Int) : Int := if a ≠ 0 ∨ b ≠ 0 then 1 else 0
def sp_added : VSp := spAct fun a b => shortOf (a + b)
theorem b_added {P : Program} {w : World} {K : PySem.W.Frag} {mg : Str → Option Value} {base : Heap} (T : Txt w K mg) : ∀ fd, FunD K "added" "added" (defArgs s_added) (defBody s_added) (defScope s_added) [] [] (He.ga K "added") fd → FnG P w K mg base CX0 2 (He.ga K "added") fd ["one", "other"] (lift K [] (sp_added)) := by
  intro fd F
  refine fun_okD (N := N_added) F sc_added (fun ds μ ev Φ h => ?size) (fun cdv A outer s H E hG hr => ⟨_, (vss_one (vs_ret (ve_call T.g_short_of (c_short_of_1 T) hG hr (by decide) pass0 sel_0 rfl (va_cons (ve_op op_addA s_addA (vv 0) (vv 1)) va_nil) vk_nil))), fun ds μ ev Φ h => ?_⟩)
  · obtain ⟨a, b, rfl, _⟩ := h; rfl
  · obtain ⟨a, b, rfl, ha, hb, q⟩ := h
    walk_at "wr"
    exact ⟨_, rfl, q⟩
def sp_taken_from : VSp := spAct fun a b => shortOf (a - b)
theorem b_taken_from {P : Program} {w : World} {K : PySem.W.Frag} {mg : Str → Option Value} {base : Heap} (T : Txt w K mg) : ∀ fd, FunD K "taken_from" "taken_from" (defArgs s_taken_from) (defBody s_taken_from) (defScope s_taken_from) [] [] (He.ga K "taken_from") fd → FnG P w K mg base CX0 2 (He.ga K "taken_from") fd ["one", "other"] (lift K [] (sp_taken_from)) := by
  intro fd F
  refine fun_okD (N := N_taken_from) F sc_taken_from (fun ds μ ev Φ h => ?size) (fun cdv A outer s H E hG hr => ⟨_, (vss_one (vs_ret (ve_call T.g_short_of (c_short_of_1 T) hG hr (by decide) pass0 sel_0 rfl (va_cons (ve_op op_sub s_sub (vv 0) (vv 1)) va_nil) vk_nil))), fun ds μ ev Φ h => ?_⟩)
  · obtain ⟨a, b, rfl, _⟩ := h; rfl
  · obtain ⟨a, b, rfl, ha, hb, q⟩ := h
    walk_at "wr"
    exact ⟨_, rfl, q⟩
def sp_multiplied : VSp := spAct fun a b => shortOf (a * b)
theorem b_multiplied {P : Program} {w : World} {K : PySem.W.Frag} {mg : Str → Option Value} {base : Heap} (T : Txt w K mg) : ∀ fd, FunD K "multiplied" "multiplied" (defArgs s_multiplied) (defBody s_multiplied) (defScope s_multiplied) [] [] (He.ga K "multiplied") fd → FnG P w K mg base CX0 2 (He.ga K "multiplied") fd ["one", "other"] (lift K [] (sp_multiplied)) := by
  intro fd F
  refine fun_okD (N := N_multiplied) F sc_multiplied (fun ds μ ev Φ h => ?size) (fun cdv A outer s H E hG hr => ⟨_, (vss_one (vs_ret (ve_call T.g_short_of (c_short_of_1 T) hG hr (by decide) pass0 sel_0 rfl (va_cons (ve_op op_mulA s_mulA (vv 0) (vv 1)) va_nil) vk_nil))), fun ds μ ev Φ h => ?_⟩)
  · obtain ⟨a, b, rfl, _⟩ := h; rfl
  · obtain ⟨a, b, rfl, ha, hb, q⟩ := h
    walk_at "wr"
    exact ⟨cmul_sh ha, _, rfl, q⟩
def sp_divided : VSp := spAct divI
theorem b_divided {P : Program} {w : World} {K : PySem.W.Frag} {mg : Str → Option Value} {base : Heap} (T : Txt w K mg) : ∀ fd, FunD K "divided" "divided" (defArgs s_divided) (defBody s_divided) (defScope s_divided) [] [] (He.ga K "divided") fd → FnG P w K mg base CX0 2 (He.ga K "divided") fd ["one", "other"] (lift K [] (sp_divided)) := by
  intro fd F
  refine fun_okD (N := N_divided) F sc_divided (fun ds μ ev Φ h => ?size) (fun cdv A outer s H E hG hr => ⟨_, (vss_one (vs_ret (ve_if (vt_cmp (op_neA hr.units) s_ne (vv 1) ve_int (nomark _)) (ve_call T.g_short_of (c_short_of_1 T) hG hr (by decide) pass0 sel_0 rfl (va_cons (ve_op op_fdivA s_fdiv (vv 0) (vv 1)) va_nil) vk_nil) ve_int))), fun ds μ ev Φ h => ?_⟩)
  · obtain ⟨a, b, rfl, _⟩ := h; rfl
  · obtain ⟨a, b, rfl, ha, hb, q⟩ := h
    walk_at "wr"
    unfold divI at q
    by_cases hz : b = 0
    · simpa [hz] using q
    · simp only [hz, decide_false, Bool.not_false, if_true, if_false] at q ⊢
      exact ⟨cdiv_sh hb hz, _, rfl, q⟩
def sp_left_over : VSp := spAct remI
theorem b_left_over {P : Program} {w : World} {K : PySem.W.Frag} {mg : Str → Option Value} {base : Heap} (T : Txt w K mg) : ∀ fd, FunD K "left_over" "left_over" (defArgs s_left_over) (defBody s_left_over) (defScope s_left_over) [] [] (He.ga K "left_over") fd → FnG P w K mg base CX0 1 (He.ga K "left_over") fd ["one", "other"] (lift K [] (sp_left_over)) := by
  intro fd F
  refine fun_okD (N := N_left_over) F sc_left_over (fun ds μ ev Φ h => ?size) (fun cdv A outer s H E hG hr => ⟨_, (vss_one (vs_ret (ve_if (vt_cmp (op_neA hr.units) s_ne (vv 1) ve_int (nomark _)) (ve_op op_modN s_modN (vv 0) (vv 1)) ve_int))), fun ds μ ev Φ h => ?_⟩)
  · obtain ⟨a, b, rfl, _⟩ := h; rfl
  · obtain ⟨a, b, rfl, ha, hb, q⟩ := h
    walk_at "wr"
    unfold remI at q
    by_cases hz : b = 0
    · simpa [hz] using q
    · simp only [hz, decide_false, Bool.not_false, if_true, if_false] at q ⊢
      exact ⟨hz, q⟩
def sp_is_less : VSp := spAct lessI
theorem b_is_less {P : Program} {w : World} {K : PySem.W.Frag} {mg : Str → Option Value} {base : Heap} (T : Txt w K mg) : ∀ fd, FunD K "is_less" "is_less" (defArgs s_is_less) (defBody s_is_less) (defScope s_is_less) [] [] (He.ga K "is_less") fd → FnG P w K mg base CX0 1 (He.ga K "is_less") fd ["one", "other"] (lift K [] (sp_is_less)) := by
  intro fd F
  refine fun_okD (N := N_is_less) F sc_is_less (fun ds μ ev Φ h => ?size) (fun cdv A outer s H E hG hr => ⟨_, (vss_one (vs_ret (ve_if (vt_cmp op_lt s_lt (vv 0) (vv 1) (nomark _)) ve_int ve_int))), fun ds μ ev Φ h => ?_⟩)
  · obtain ⟨a, b, rfl, _⟩ := h; rfl
  · obtain ⟨a, b, rfl, ha, hb, q⟩ := h
    walk_at "wr"
    unfold lessI at q
    by_cases hz : a < b <;> simpa [hz] using q
def sp_is_equal : VSp := spAct eqI
theorem b_is_equal {P : Program} {w : World} {K : PySem.W.Frag} {mg : Str → Option Value} {base : Heap} (T : Txt w K mg) : ∀ fd, FunD K "is_equal" "is_equal" (defArgs s_is_equal) (defBody s_is_equal) (defScope s_is_equal) [] [] (He.ga K "is_equal") fd → FnG P w K mg base CX0 1 (He.ga K "is_equal") fd ["one", "other"] (lift K [] (sp_is_equal)) := by
  intro fd F
  refine fun_okD (N := N_is_equal) F sc_is_equal (fun ds μ ev Φ h => ?size) (fun cdv A outer s H E hG hr => ⟨_, (vss_one (vs_ret (ve_if (vt_cmp (op_eqA hr.units) s_eq (vv 0) (vv 1) (nomark _)) ve_int ve_int))), fun ds μ ev Φ h => ?_⟩)
  · obtain ⟨a, b, rfl, _⟩ := h; rfl
  · obtain ⟨a, b, rfl, ha, hb, q⟩ := h
    walk_at "wr"
    unfold eqI at q
    by_cases hz : a = b <;> simpa [hz] using q
def sp_are_both : VSp := spAct andI
theorem b_are_both {P : Program} {w : World} {K : PySem.W.Frag} {mg : Str → Option Value} {base : Heap} (T : Txt w K mg) : ∀ fd, FunD K "are_both" "are_both" (defArgs s_are_both) (defBody s_are_both) (defScope s_are_both) [] [] (He.ga K "are_both") fd → FnG P w K mg base CX0 1 (He.ga K "are_both") fd ["one", "other"] (lift K [] (sp_are_both)) := by
  intro fd F
  refine fun_okD (N := N_are_both) F sc_are_both (fun ds μ ev Φ h => ?size) (fun cdv A outer s H E hG hr => ⟨_, (vss_one (vs_ret (ve_if (PW.pt (vw_and (vt_cmp (op_neA hr.units) s_ne (vv 0) ve_int (nomark _)) (vw_and1 (vt_cmp (op_neA hr.units) s_ne (vv 1) ve_int (nomark _))))) ve_int ve_int))), fun ds μ ev Φ h => ?_⟩)
  · obtain ⟨a, b, rfl, _⟩ := h; rfl
  · obtain ⟨a, b, rfl, ha, hb, q⟩ := h
    walk_at "wr"
    unfold andI at q
    by_cases hz : a = 0 <;> by_cases hy : b = 0 <;> simpa [hz, hy] using q
def sp_is_any : VSp := spAct orI
theorem b_is_any {P : Program} {w : World} {K : PySem.W.Frag} {mg : Str → Option Value} {base : Heap} (T : Txt w K mg) : ∀ fd, FunD K "is_any" "is_any" (defArgs s_is_any) (defBody s_is_any) (defScope s_is_any) [] [] (He.ga K "is_any") fd → FnG P w K mg base CX0 1 (He.ga K "is_any") fd ["one", "other"] (lift K [] (sp_is_any)) := by
  intro fd F
  refine fun_okD (N := N_is_any) F sc_is_any (fun ds μ ev Φ h => ?size) (fun cdv A outer s H E hG hr => ⟨_, (vss_one (vs_ret (ve_if (PW.pt (vw_or (vt_cmp (op_neA hr.units) s_ne (vv 0) ve_int (nomark _)) (vw_or1 (vt_cmp (op_neA hr.units) s_ne (vv 1) ve_int (nomark _))))) ve_int ve_int))), fun ds μ ev Φ h => ?_⟩)
  · obtain ⟨a, b, rfl, _⟩ := h; rfl
  · obtain ⟨a, b, rfl, ha, hb, q⟩ := h
    walk_at "wr"
    unfold orI at q
    by_cases hz : a = 0 <;> by_cases hy : b = 0 <;> simpa [hz, hy] using q
theorem if01_sh {p : Prop} [Decidable p] : Sh (if p then 1 else 0) := by split <;> exact ⟨by decide, by decide⟩
theorem remI_sh {a b : Int} (hb : Sh b) : Sh (remI a b) := by
  unfold remI
  split
  · exact sh_zero
  · rename_i h
    obtain ⟨b1, b2⟩ := hb
    rcases Int.lt_or_gt_of_ne h with h | h
    · have h1 := Int.fmod_nonneg_of_pos (-a) (b := -b) (by omega)
      have h2 := Int.fmod_lt_of_pos (-a) (b := -b) (by omega)
      rw [Int.neg_fmod_neg] at h1 h2
      exact ⟨by omega, by omega⟩
    · have h1 := Int.fmod_nonneg_of_pos a (b := b) (by omega)
      have h2 := Int.fmod_lt_of_pos a (b := b) (by omega)
      exact ⟨by omega, by omega⟩
theorem divI_sh {a b : Int} : Sh (divI a b) := by
  unfold divI
  split
  · exact sh_zero
  · exact shortOf_sh _
def actI (w : Str) (a b : Int) : Int := if w = "+" then shortOf (a + b) else if w = "-" then shortOf (a - b) else if w = "*" then shortOf (a * b) else if w = "div" then divI a b else if w = "rem" then remI a b else if w = "<" then lessI a b else if w = "=" then eqI a b else if w = "and" then andI a b else orI a b
theorem actI_sh {w : Str} {a b : Int} (hb : Sh b) : Sh (actI w a b) := by
  unfold actI
  split; exact shortOf_sh _
  split; exact shortOf_sh _
  split; exact shortOf_sh _
  split; exact divI_sh
  split; exact remI_sh hb
  split; exact if01_sh
  split; exact if01_sh
  split; exact if01_sh
  exact if01_sh
theorem sign_cases {w : Str} (h : w ∈ SIGNW) : w = "+" ∨ w = "-" ∨ w = "*" ∨ w = "div" ∨ w = "rem" ∨ w = "<" ∨ w = "=" ∨ w = "and" ∨ w = "or" := by
  simpa only [SIGNW, List.mem_cons, List.not_mem_nil, or_false] using h
def sp_do_sign (P : Program) (w : World) (K : PySem.W.Frag) (mg : Str → Option Value) (base : Heap) : VSp := fun ds μ ev Φ => ∃ f hh, HeldV P w K mg base [] 2 f 2 (spAct hh) ∧ spG K (fun st => (.non, push (popS (popS st)) (hh (popV (popS st)) (popV st)))) [.ref f] ds μ ev Φ
theorem b_do_sign {P : Program} {w : World} {K : PySem.W.Frag} {mg : Str → Option Value} {base : Heap} (T : Txt w K mg) : ∀ fd, FunD K "do_sign" "do_sign" (defArgs s_do_sign) (defBody s_do_sign) (defScope s_do_sign) [] [] (He.ga K "do_sign") fd → FnG P w K mg base CX0 3 (He.ga K "do_sign") fd ["computer", "act"] (lift K [] (sp_do_sign P w K mg base)) := by
  intro fd F
  refine fun_okD (N := N_do_sign) F sc_do_sign (fun ds μ ev Φ h => ?size) (fun cdv A outer s H E hG hr => ⟨_, (vss_cons (vs_set (i := 2) sc_do_sign.nd rfl (Or.inl rfl) (ve_call T.g_popped (c_popped_1 T) hG hr (by decide) pass0 sel_0 rfl (va_cons (vv 0) va_nil) vk_nil))
 (vss_cons (vs_set (i := 3) sc_do_sign.nd rfl (Or.inl rfl) (ve_call T.g_popped (c_popped_1 T) hG hr (by decide) pass0 sel_0 rfl (va_cons (vv 0) va_nil) vk_nil))
 (vss_one (vs_expr (ve_call T.g_push_short (c_push_short_2 T) hG hr (by decide) pass0 sel_0 rfl (va_cons (vv 0) (va_cons (ve_held (i := 1) (k := 2) (n := 2) hG (hr.mono (by decide)) rfl (Or.inl rfl) (va_cons (vv 3) (va_cons (vv 2) va_nil))) va_nil)) vk_nil))))), fun ds μ ev Φ h => ?_⟩)
  · obtain ⟨f, hh, _, c, F, st, rfl, _⟩ := h; rfl
  · obtain ⟨f, hh, held, c, F, st, rfl, hC, ok, k⟩ := h
    walk_at "vr"
    refine into_pop hC ok fun μ1 F1 k1 n1 hC1 => ?_
    try walk_at "vr"
    refine into_pop hC1 (pop_ok ok) fun μ2 F2 k2 n2 hC2 => ?_
    try walk_at "vr"
    refine ⟨spAct hh, held, _, _, rfl, popV_sh (pop_ok ok), popV_sh ok, ?_⟩
    have k12 := k1.trans n1 k2
    have n12 := n1.trans k1 n2
    try walk_at "vr"
    exact into_push hC2 (pop_ok (pop_ok ok)) fun μ3 F3 k3 n3 hC3 => k μ3 F3 (k12.trans n12 k3) (n12.trans k12 n3) hC3
theorem deed_some {i : Ins} (h : okIns i = true) (n : ACTF.lookup i.1 = none) : ∃ f, DEEDF.lookup i.1 = some f := by
  have all : (NUMS.map (·.1) ++ (PLAINW ++ SIGNW)).all (fun w => (ACTF.lookup w).isSome || (DEEDF.lookup w).isSome) = true := by decide +kernel
  have := List.all_eq_true.mp all _ (word_mem h)
  simp only [n, Option.isSome_none, Bool.false_or] at this
  exact Option.isSome_iff_exists.mp this
def sp_deed_of_row (K : PySem.W.Frag) : VSp := fun ds μ ev Φ => ∃ i, ds = [insD i] ∧ okIns i = true ∧ Φ (deedD K i) μ
theorem b_deed_of_row {P : Program} {w : World} {K : PySem.W.Frag} {mg : Str → Option Value} {base : Heap} (T : Txt w K mg) : ∀ fd, FunD K "deed_of_row" "deed_of_row" (defArgs s_deed_of_row) (defBody s_deed_of_row) (defScope s_deed_of_row) [] [] (He.ga K "deed_of_row") fd → FnG P w K mg base CX0 1 (He.ga K "deed_of_row") fd ["row"] (lift K [] (sp_deed_of_row K)) := by
  intro fd F
  refine fun_okD (N := N_deed_of_row) F sc_deed_of_row (fun ds μ ev Φ h => ?size) (fun cdv A outer s H E hG hr => ⟨_, (vss_cons (vs_if (vt_cmp (op_inK T.k_ACTS) s_inK (ve_ix ix_seq s_ix (vv 0) ve_int) (ve_gref rfl T.g_ACTS) (by rfl))
 (vss_cons (vs_set (i := 1) sc_deed_of_row.nd rfl (Or.inl rfl) (ve_ix (ix_K T.k_ACTS) (s_ixK T.k_ACTS) (ve_gref rfl T.g_ACTS) (ve_ix ix_seq s_ix (vv 0) ve_int)))
 (vss_one (vs_ret (ve_tup (va_cons (ve_gref rfl T.g_do_sign) (va_cons (vv 1) va_nil))))))
 vss_nil)
 (vss_cons (vs_set (i := 2) sc_deed_of_row.nd rfl (Or.inl rfl) (ve_ix (ix_K T.k_DEEDS) (s_ixK T.k_DEEDS) (ve_gref rfl T.g_DEEDS) (ve_ix ix_seq s_ix (vv 0) ve_int)))
 (vss_one (vs_ret (ve_tup (va_cons (vv 2) (va_cons (ve_if (vt_cmp (op_eqA hr.units) s_eq (ve_callB call_lenA s_len (by rfl) T.b_len (by decide +kernel) (va_cons (vv 0) va_nil)) ve_int (nomark _)) (ve_ix ix_seq s_ix (vv 0) ve_int) ve_int) va_nil))))))), fun ds μ ev Φ h => ?_⟩)
  · obtain ⟨i, rfl, _⟩ := h; rfl
  · obtain ⟨i, rfl, ok, q⟩ := h
    have hs : ∃ r, fz (insD i) = some (.str i.1 :: r) ∧ ((r = [] ∧ i.2 = none) ∨ ∃ n, r = [.int n] ∧ i.2 = some n) := by
      obtain ⟨w, o⟩ := i
      cases o with
      | none => exact ⟨[], rfl, .inl ⟨rfl, rfl⟩⟩
      | some n => exact ⟨[.int n], rfl, .inr ⟨n, rfl, rfl⟩⟩
    obtain ⟨r, h1, h2⟩ := hs
    have h3 := fz_seq (μ := μ) h1
    walk_at "vr"
    simp only [vIx_iff h3]
    walk_at "vr"
    rw [gloP_lookup]
    unfold deedD at q
    cases ha : ACTF.lookup i.1 with
    | some f =>
      rw [ha] at q
      simp only [Option.map_some, Option.isSome_some, if_true]
      simp only [vIx_iff h3]
      walk_at "vr"
      rw [gloP_lookup, ha]
      exact ⟨_, rfl, sizeOk (by decide), q⟩
    | none =>
      rw [ha] at q
      obtain ⟨f, hf⟩ := deed_some ok ha
      rw [hf] at q
      simp only [Option.map_none, Option.isSome_none, Bool.false_eq_true, if_false]
      simp only [vIx_iff h3]
      walk_at "vr"
      rw [gloP_lookup, hf]
      refine ⟨_, rfl, ?_⟩
      simp only [vLen_iff (lenOf_seqOf h3), vIx_iff h3]
      walk_at "vr"
      rcases h2 with ⟨rfl, e⟩ | ⟨n, rfl, e⟩
      · rw [e] at q
        exact ⟨sizeOk (by decide), q⟩
      · rw [e] at q
        rw [if_pos (by simp), vIx_iff h3]
        exact ⟨_, atI_1, sizeOk (by decide), q⟩
theorem c_deed_of_row_1 {P : Program} {w : World} {K : PySem.W.Frag} {mg : Str → Option Value} {base : Heap} (T : Txt w K mg) : CanV P w K mg base CX0 [] 1 (He.ga K "deed_of_row") 1 [] ([.inl 0].map (toArg [] [])) (sp_deed_of_row K) :=
  canV_of (ps := ["row"]) [.inl 0] T.f_deed_of_row (b_deed_of_row T) (fun _ _ _ _ _ _ us ws h1 h2 => match us, ws, h1, h2 with | [_], [], _, _ => rfl) (by decide)
/-! ### a disk handed in: none -/
/-! ### disks -/
theorem Kd.set {μ : Mu} {x : D} {Ds : Addr} {m : MO} (h : Kd μ x) (n : μ Ds = none) : Kd (μ.set Ds m) x := by
  obtain ⟨t, e⟩ := id h
  exact ⟨t, (tyD_same (h.set_same n)).trans e⟩
def pairL (es : List D) : Bool := match es with
  | [x, y] => within x (some 0) (some 199) && isSh y
  | _ => false
def pairB (μ : Mu) (v : D) : Bool := isLst μ v && pairL (itemsOf μ v)
theorem pairB_same {μ μ' : Mu} {v : D} (h : ∀ a, v = .ref a → μ' a = μ a) : pairB μ' v = pairB μ v := by
  unfold pairB itemsOf
  rw [isLst_same h, seqOf_same h]
theorem RowV.set {μ : Mu} {v : D} {Ds : Addr} {m : MO} (h : RowV μ v) (n : μ Ds = none) : RowV (μ.set Ds m) v := by
  refine ⟨Kd.set h.kd n, fun e => ?_⟩
  rw [isLst_same (h.kd.set_same n)] at e
  obtain ⟨es, e1, e2⟩ := h.sq e
  exact ⟨es, (seqOf_same (h.kd.set_same n)).trans e1, fun x hx => Kd.set (e2 x hx) n⟩
/-- a value that may be judged as a disk -/
structure DiskV (μ : Mu) (v : D) : Prop where
  kd : Kd μ v
  it : isLst μ v = true → ∃ ds, SeqA μ v ds ∧ ds.length ≤ 1000 ∧ ∀ d ∈ ds, RowV μ d
def arePB (μ : Mu) (v : D) : Bool := isLst μ v && (itemsOf μ v).all (pairB μ)
def fstI (μ : Mu) (d : D) : Int := match itemsOf μ d with
  | .int i :: _ => i
  | _ => 0
def sndI (μ : Mu) (d : D) : Int := match itemsOf μ d with
  | [_, .int i] => i
  | _ => 0
def diskB (μ : Mu) (v : D) : Bool := arePB μ v && decide ((manyOf ((itemsOf μ v).map (fstI μ)) : Int) = ((itemsOf μ v).length : Int))
theorem pair_parts {μ : Mu} {d : D} (h : pairB μ d = true) : isLst μ d = true ∧ ∃ i j, seqOf μ d = some [.int i, .int j] ∧ 0 ≤ i ∧ i ≤ 199 ∧ (-2147483648 ≤ j ∧ j ≤ 2147483647) ∧ fstI μ d = i ∧ sndI μ d = j := by
  unfold pairB at h
  rw [Bool.and_eq_true] at h
  refine ⟨h.1, ?_⟩
  have h2 := h.2
  cases e : seqOf μ d with
  | none => simp only [itemsOf, e] at h2; cases h2
  | some es =>
    have e0 : itemsOf μ d = es := by simp [itemsOf, e]
    rw [e0] at h2
    match es, h2 with
    | [x, y], h2 =>
      simp only [pairL, Bool.and_eq_true] at h2
      cases x <;> try (simp [within] at h2; done)
      cases y <;> try (simp [isSh, within] at h2; done)
      rename_i i j
      simp only [within, isSh, Bool.and_eq_true, decide_eq_true_eq] at h2
      exact ⟨i, j, rfl, h2.1.1, h2.1.2, h2.2, by unfold fstI; rw [e0], by unfold sndI; rw [e0]⟩
def sp_is_disk_pair : VSp := fun ds μ ev Φ => ∃ v, ds = [v] ∧ RowV μ v ∧ Φ (.bl (pairB μ v)) μ
theorem b_is_disk_pair {P : Program} {w : World} {K : PySem.W.Frag} {mg : Str → Option Value} {base : Heap} (T : Txt w K mg) : ∀ fd, FunD K "is_disk_pair" "is_disk_pair" (defArgs s_is_disk_pair) (defBody s_is_disk_pair) (defScope s_is_disk_pair) [] [] (He.ga K "is_disk_pair") fd → FnG P w K mg base CX0 4 (He.ga K "is_disk_pair") fd ["value"] (lift K [] (sp_is_disk_pair)) := by
  intro fd F
  refine fun_okD (N := N_is_disk_pair) F sc_is_disk_pair (fun ds μ ev Φ h => ?size) (fun cdv A outer s H E hG hr => ⟨_, (vss_one (vs_ret (ve_and (ve_call T.g_is_list (c_is_list_1 T) hG hr (by decide) pass0 sel_0 rfl (va_cons (vv 0) va_nil) vk_nil) (ve_and (ve_cmp (op_eqA hr.units) s_eq (ve_callB call_lenA s_len (by rfl) T.b_len (by decide +kernel) (va_cons (vv 0) va_nil)) ve_int (nomark _)) (ve_and (ve_call T.g_is_within (c_is_within_3 T) hG hr (by decide) pass0 sel_0 rfl (va_cons (ve_ix ix_seq s_ix (vv 0) ve_int) (va_cons ve_int (va_cons (ve_op op_sub s_sub (ve_gc rfl T.g_MOST_DISK fun _ _ => .int _) ve_int) va_nil))) vk_nil) (ve_one (ve_call T.g_is_short (c_is_short_1 T) hG hr (by decide) pass0 sel_0 rfl (va_cons (ve_ix ix_seq s_ix (vv 0) ve_int) va_nil) vk_nil))))))), fun ds μ ev Φ h => ?_⟩)
  · obtain ⟨v, rfl, _⟩ := h; rfl
  · obtain ⟨v, rfl, hv, q⟩ := h
    walk_at "vr"
    refine ⟨v, rfl, hv.kd, ?_⟩
    walk_at "vr"
    cases h1 : isLst μ v with
    | false =>
      have e : pairB μ v = false := by unfold pairB; rw [h1]; rfl
      rw [e] at q
      exact q
    | true =>
      obtain ⟨es, h2, h3⟩ := hv.sq h1
      have e : pairB μ v = pairL es := by unfold pairB itemsOf; rw [h1, h2]; rfl
      rw [e] at q
      simp only [if_true, vLen_iff (lenOf_seqOf h2), vIx_iff h2]
      walk_at "vr"
      match es, h2, h3, q with
      | [], _, _, q => exact q
      | [x], _, _, q => exact q
      | x :: y :: z :: r, _, _, q =>
        rw [if_neg (by simp; omega)]
        exact q
      | [x, y], h2, h3, q =>
        rw [if_pos (by rfl)]
        simp only [vIx_iff h2]
        walk_at "vr"
        refine ⟨x, some 0, some 199, rfl, h3 x (.head _), ?_⟩
        simp only [pairL] at q
        cases h4 : within x (some 0) (some 199) with
        | false =>
          rw [h4] at q
          refine ⟨false, rfl, ?_⟩
          exact q
        | true =>
          rw [h4] at q
          refine ⟨true, rfl, ?_⟩
          simp only [if_true, vIx_iff h2]
          walk_at "vr"
          exact ⟨y, rfl, h3 y (.tail _ (.head _)), q⟩
theorem c_is_disk_pair_1 {P : Program} {w : World} {K : PySem.W.Frag} {mg : Str → Option Value} {base : Heap} (T : Txt w K mg) : CanV P w K mg base CX0 [] 4 (He.ga K "is_disk_pair") 1 [] ([.inl 0].map (toArg [] [])) (sp_is_disk_pair) :=
  canV_of (ps := ["value"]) [.inl 0] T.f_is_disk_pair (b_is_disk_pair T) (fun _ _ _ _ _ _ us ws h1 h2 => match us, ws, h1, h2 with | [_], [], _, _ => rfl) (by decide)
def sp_are_disk_pairs : VSp := fun ds μ ev Φ => ∃ v, ds = [v] ∧ DiskV μ v ∧ Φ (.bl (arePB μ v)) μ
theorem b_are_disk_pairs {P : Program} {w : World} {K : PySem.W.Frag} {mg : Str → Option Value} {base : Heap} (T : Txt w K mg) : ∀ fd, FunD K "are_disk_pairs" "are_disk_pairs" (defArgs s_are_disk_pairs) (defBody s_are_disk_pairs) (defScope s_are_disk_pairs) [] [] (He.ga K "are_disk_pairs") fd → FnG P w K mg base CX0 5 (He.ga K "are_disk_pairs") fd ["value"] (lift K [] (sp_are_disk_pairs)) := by
  intro fd F
  refine fun_okD (N := N_are_disk_pairs) F sc_are_disk_pairs (fun ds μ ev Φ h => ?size) (fun cdv A outer s H E hG hr => ⟨_, (vss_one (vs_ret (ve_and (ve_call T.g_is_list (c_is_list_1 T) hG hr (by decide) pass0 sel_0 rfl (va_cons (vv 0) va_nil) vk_nil) (ve_one (ve_callB (cr_all rfl) s_all (by rfl) T.b_all (by decide +kernel) (va_cons (ve_z (ve_lc (own := [("pair", 1)]) (p := (.name 1)) rfl sc_are_disk_pairs.nd (vi_any (vv 0)) (blkOk_by (N := N_are_disk_pairs) (sc := defScope s_are_disk_pairs) (by decide +kernel)) (fun _ _ _ _ _ => pg_name (i := 1) sc_are_disk_pairs.nd rfl (Or.inl rfl)) (fun _ _ _ _ _ => vts_nil) (fun _ _ _ _ _ => (ve_call T.g_is_disk_pair (c_is_disk_pair_1 T) hG hr (by decide) pass0 sel_0 rfl (va_cons (vv 1) va_nil) vk_nil)) (by decide))) va_nil)))))), fun ds μ ev Φ h => ?_⟩)
  · obtain ⟨v, rfl, _⟩ := h; rfl
  · obtain ⟨v, rfl, hv, q⟩ := h
    walk_at "vr"
    refine ⟨v, rfl, hv.kd, ?_⟩
    walk_at "vr"
    cases h1 : isLst μ v with
    | false =>
      have e : arePB μ v = false := by unfold arePB; rw [h1]; rfl
      rw [e] at q
      exact q
    | true =>
      obtain ⟨ds, sq, hl, hit⟩ := hv.it h1
      have e : arePB μ v = ds.all (pairB μ) := by unfold arePB itemsOf; rw [h1, sq.seq]; rfl
      rw [e] at q
      rw [if_pos rfl]
      refine iwA_at rfl sq fun P hP => lcW_mapP (fun d => .bl (pairB μ d)) (sizeOk (by omega)) (fun Ds l nD => hP _ (hv.kd.set_same nD)) (fun d hd => ⟨_, rfl, fun Ds l Ψ nD q => ?_⟩) fun Ds nD => ?_
      · walk_at "vr"
        refine ⟨d, rfl, RowV.set (hit d hd) nD, ?_⟩
        rw [pairB_same ((hit d hd).kd.set_same nD)]
        exact q
      · walk_at "frz"
        walk_at "vr"
        exact q
theorem c_are_disk_pairs_1 {P : Program} {w : World} {K : PySem.W.Frag} {mg : Str → Option Value} {base : Heap} (T : Txt w K mg) : CanV P w K mg base CX0 [] 5 (He.ga K "are_disk_pairs") 1 [] ([.inl 0].map (toArg [] [])) (sp_are_disk_pairs) :=
  canV_of (ps := ["value"]) [.inl 0] T.f_are_disk_pairs (b_are_disk_pairs T) (fun _ _ _ _ _ _ us ws h1 h2 => match us, ws, h1, h2 with | [_], [], _, _ => rfl) (by decide)
def sp_is_disk : VSp := fun ds μ ev Φ => ∃ v, ds = [v] ∧ DiskV μ v ∧ Φ (.bl (diskB μ v)) μ
theorem b_is_disk {P : Program} {w : World} {K : PySem.W.Frag} {mg : Str → Option Value} {base : Heap} (T : Txt w K mg) : ∀ fd, FunD K "is_disk" "is_disk" (defArgs s_is_disk) (defBody s_is_disk) (defScope s_is_disk) [] [] (He.ga K "is_disk") fd → FnG P w K mg base CX0 6 (He.ga K "is_disk") fd ["value"] (lift K [] (sp_is_disk)) := by
  intro fd F
  refine fun_okD (N := N_is_disk) F sc_is_disk (fun ds μ ev Φ h => ?size) (fun cdv A outer s H E hG hr => ⟨_, (vss_one (vs_ret (ve_and (ve_call T.g_are_disk_pairs (c_are_disk_pairs_1 T) hG hr (by decide) pass0 sel_0 rfl (va_cons (vv 0) va_nil) vk_nil) (ve_one (ve_cmp (op_eqA hr.units) s_eq (ve_lenSet rfl (by rfl) T.b_len (by rfl) T.b_set (ve_z (ve_lc (own := [("pair", 1)]) (p := (.name 1)) rfl sc_is_disk.nd (vi_any (vv 0)) (blkOk_by (N := N_is_disk) (sc := defScope s_is_disk) (by decide +kernel)) (fun _ _ _ _ _ => pg_name (i := 1) sc_is_disk.nd rfl (Or.inl rfl)) (fun _ _ _ _ _ => vts_nil) (fun _ _ _ _ _ => (ve_ix ix_seq s_ix (vv 1) ve_int)) (by decide)))) (ve_callB call_lenA s_len (by rfl) T.b_len (by decide +kernel) (va_cons (vv 0) va_nil)) (nomark _)))))), fun ds μ ev Φ h => ?_⟩)
  · obtain ⟨v, rfl, _⟩ := h; rfl
  · obtain ⟨v, rfl, hv, q⟩ := h
    walk_at "vr"
    refine ⟨v, rfl, hv, ?_⟩
    walk_at "vr"
    cases h1 : arePB μ v with
    | false =>
      have e : diskB μ v = false := by unfold diskB; rw [h1]; rfl
      rw [e] at q
      exact q
    | true =>
      have h1' := h1
      unfold arePB at h1'
      rw [Bool.and_eq_true] at h1'
      obtain ⟨ds, sq, hl, hit⟩ := hv.it h1'.1
      have e0 : itemsOf μ v = ds := by unfold itemsOf; rw [sq.seq]; rfl
      have all : ∀ d ∈ ds, pairB μ d = true := by have := h1'.2; rw [e0] at this; exact List.all_eq_true.mp this
      have e : diskB μ v = decide ((manyOf (ds.map (fstI μ)) : Int) = (ds.length : Int)) := by unfold diskB; rw [h1, e0]; rfl
      rw [e] at q
      rw [if_pos rfl]
      refine iwA_at rfl sq fun P hP => lcW_mapP (fun d => .int (fstI μ d)) (sizeOk (by omega)) (fun Ds l nD => hP _ (hv.kd.set_same nD)) (fun d hd => ⟨_, rfl, fun Ds l Ψ nD q => ?_⟩) fun Ds nD => ?_
      · obtain ⟨_, i, j, h2, _, _, _, h3, _⟩ := pair_parts (all d hd)
        rw [h3] at q
        walk_at "vr"
        simp only [vIx_iff ((seqOf_same ((hit d hd).kd.set_same nD)).trans h2)]
        walk_at "vr"
        exact q
      · walk_at "frz"
        refine ⟨ds.map (fstI μ), .inl (by simp only [fzL, List.map_map]; rfl), by simpa using hl, ?_⟩
        simp only [vLen_iff (lenOf_seqOf sq.seq)]
        walk_at "vr"
        exact q
theorem c_is_disk_1 {P : Program} {w : World} {K : PySem.W.Frag} {mg : Str → Option Value} {base : Heap} (T : Txt w K mg) : CanV P w K mg base CX0 [] 6 (He.ga K "is_disk") 1 [] ([.inl 0].map (toArg [] [])) (sp_is_disk) :=
  canV_of (ps := ["value"]) [.inl 0] T.f_is_disk (b_is_disk T) (fun _ _ _ _ _ _ us ws h1 h2 => match us, ws, h1, h2 with | [_], [], _, _ => rfl) (by decide)

end K25

set_option maxRecDepth 100000
set_option maxHeartbeats 4000000
namespace K25
open PySem L2 FW VL
local macro_rules | `(tactic| walk_at "vr") => `(tactic| simp only [wLenSet, wFor, wSetF, wAugF, wAug, wBM, wProp, wHeld, wVar, wC, wZ, wOp, wUn, wNil, wCons, wStar, wCB, wTup, wLst, wLstM, wTest, wAnd, wOr, VL.wNot, wAndV, wOrV, wNotV, wIf, wChain, wNoPart, wPart, wSl, wName, wGNil, wGCons, wGTup, wSub, wNext, VL.wSeq, wAsg, wDrop, wRet, wRetN, wIfS, wBreak, wCont, wPar, vI0, vI, vU, vAdd, vSub, vMul, vMod, vFdiv, vPow, vLt, vLe, vGt, vGe, vNeg, vIsN, vNotN, vAddA, vMulA, VL.wTru, iwL, iwT, wLc, vstart, List.map_cons, List.map_nil, List.cons_append, List.nil_append, List.set_cons_zero, List.set_cons_succ, List.getElem?_cons_zero, List.getElem?_cons_succ, Option.some.injEq, exists_eq_left, exists_eq_left', exists_eq', D.bl.injEq, D.int.injEq, D.str.injEq, D.tup.injEq, D.ref.injEq, List.cons.injEq, and_true, true_and, List.length_cons, List.length_nil, List.replicate, D.ty.injEq, exists_and_left, List.length, Nat.reduceAdd, wCall, wMake, wMeth, wFld, argsD, argD, toArg, List.getD_cons_zero, List.getD_cons_succ, List.map, iwS, vTupOf, Bool.false_eq_true, if_false, if_true, reduceIte, List.getElem?_nil, Nat.reduceSub, wipeR, vLen_lst, vLen_tup, vEq_ii, vEq_ss, vEq_bb, vIx_lst, vIx_tup, vIn_strs, vIn_s2, vIn_s3, vAll_map, vInK_s, vIxK_s, vInt_i, vAbs_i, atI_0, atI_1, atI_2, Bool.not_true, Bool.not_false, seqOf_lst, seqOf_tup, lstOf_lst, tupOf_tup, fzL_lst, N_is_list, N_is_integer, N_is_within, N_is_short, N_are_shorts, N_are_integers, N_is_lot, N_fixed, N_short_of, N_added, N_taken_from, N_multiplied, N_divided, N_left_over, N_is_less, N_is_equal, N_are_both, N_is_any, N_is_instruction, N_is_target_beyond, N_are_rows, N_Code___init__, N_Code___eq__, N_Code___iter__, N_push_short, N_popped, N_do_push, N_do_load, N_do_store, N_do_fetch, N_do_put, N_do_not, N_do_drop, N_do_copy, N_do_jump, N_do_unless, N_do_wait, N_do_sign, N_do_read, N_do_write, N_do_barrier, N_do_send, N_do_take, N_do_input, N_do_show, N_deed_of_row, N_is_disk_pair, N_are_disk_pairs, N_is_disk, N_Computer_power_on, N_Computer___init__, N_Computer_stack, N_Computer_disk, N_Computer_waiting, N_Computer_cards, N_Computer_memory, N_Computer_hand, N_Computer_cut, N_Computer_go, N_Computer_step, N__law_bench, N__law_turn, N__law_tool, N__law_wrap, N__law_signed, N__law_popped, N__law_written, N__law_settled, N__law_awake, N__law_outside, N__law_step, N__law_piece, N__law_is_so, N__law_moment_right, N_law])
theorem it_Code {P : Program} {w : World} {K : PySem.W.Frag} {mg : Str → Option Value} {base : Heap} (T : Txt w K mg) : ItV P w K mg base 1 (He.ga K "Code") "rows" := by
  obtain ⟨fd, F⟩ := T.f_Code___iter__
  have F2 := fun_of (st := s_Code___iter__) F
  exact ⟨_, fd, T.m_Code___iter__.at_, T.m_Code___iter__.fn, fnI_of (N := N_Code___iter__) F2 sc_Code___iter__ (F2.binds (ps := ["self"]) fun _ _ _ _ _ _ us hl => match us, hl with | [_], _ => rfl) rfl T.cl_Code T.n_Code_rows T.b_iter rfl (fun _ _ _ _ _ _ => ⟨rfl, Or.inl rfl, rfl⟩)⟩
/-! ### switched on -/
def zeros (n : Nat) : List Int := List.replicate n 0
def onS (st : CS) : CS := { st with at_ := 0, held := zeros 1000, pile := [], written := st.settled, queue := [], laid := List.replicate 5 none }
theorem nodup_rev {c s h p w q l : Addr} (n : [c, l, q, w, p, h, s].Nodup) : [c, s, h, p, w, q, l].Nodup := by
  simp only [List.nodup_cons, List.mem_cons, List.not_mem_nil, or_false, not_or, not_false_eq_true, List.nodup_nil, and_true] at n ⊢
  simp_all [eq_comm]
def bareNs : List Str := ["code", "deeds", "given", "settled"]
def bareFs (K : PySem.W.Frag) (st : CS) (s : Addr) : List D := [codeD K st.code, .lst (st.code.map (deedD K)), .int st.given, .ref s]
theorem rep1 (x : D) (n : Nat) : (List.replicate n [x]).flatten = List.replicate n x := by
  induction n with
  | zero => rfl
  | succ n ih => rw [List.replicate_succ, List.flatten_cons, ih]; rfl
def sp_power_on (K : PySem.W.Frag) : VSp := fun ds μ ev Φ => ∃ c s st, ds = [.ref c] ∧ st.settled.length = 200 ∧ μ s = some (.lst (st.settled.map .int)) ∧ s ≠ c ∧
  (μ c = some (.ins (cComp K) bareNs (bareFs K st s)) ∨ ∃ h p w q l, μ c = some (.ins (cComp K) compNs (compFs K st s h p w q l))) ∧
  ∀ μ' F', Kp [c] μ μ' → Nw [c, s] F' μ → CompAt K μ' c F' (onS st) → Φ .non μ'
theorem b_Computer_power_on {P : Program} {w : World} {K : PySem.W.Frag} {mg : Str → Option Value} {base : Heap} (T : Txt w K mg) : ∀ fd, FunD K "power_on" "Computer.power_on" (defArgs s_Computer_power_on) (defBody s_Computer_power_on) (defScope s_Computer_power_on) [] [] (He.ma K (He.ga K "Computer") "power_on") fd → FnG P w K mg base CX0 1 (He.ma K (He.ga K "Computer") "power_on") fd ["self"] (lift K [] (sp_power_on K)) := by
  intro fd F
  refine fun_okD (N := N_Computer_power_on) F sc_Computer_power_on (fun ds μ ev Φ h => ?size) (fun cdv A outer s H E hG hr => ⟨_, (vss_cons (vs_fld T.cl_Computer T.n_Computer_at (vv 0) ve_int)
 (vss_cons (vs_fld T.cl_Computer T.n_Computer_held (vv 0) (ve_op op_rep s_repM (ve_lst (va_cons ve_int va_nil)) (ve_gc rfl T.g_MOST_MEMORY fun _ _ => .int _)))
 (vss_cons (vs_fld T.cl_Computer T.n_Computer_pile (vv 0) (ve_lstM va_nil))
 (vss_cons (vs_fld T.cl_Computer T.n_Computer_written (vv 0) (ve_callTy call_list_of s_listM (by rfl) T.b_list (by decide +kernel) (va_cons (ve_fld T.cl_Computer T.n_Computer_settled (vv 0)) va_nil)))
 (vss_cons (vs_fld T.cl_Computer T.n_Computer_queue (vv 0) (ve_lstM va_nil))
 (vss_one (vs_fld T.cl_Computer T.n_Computer_laid (vv 0) (ve_op op_rep s_repM (ve_lst (va_cons ve_non va_nil)) (ve_gc rfl T.g_MOST_CARDS fun _ _ => .int _))))))))), fun ds μ ev Φ h => ?_⟩)
  · obtain ⟨c, s, st, rfl, _⟩ := h; rfl
  · obtain ⟨c, s, st, rfl, hl, hs, cs, hc, k⟩ := h
    walk_at "vr"
    rcases hc with hc | ⟨h0, p0, w0, q0, l0, hc⟩
    · have b0 : Bd μ [c, s] μ c _ [(s, .lst (st.settled.map .int))] := ⟨hc, fun q hq => by rw [List.mem_singleton.mp hq]; exact hs, Kp.refl, by simp [Ne.symm cs], fun q hq => by rw [List.mem_singleton.mp hq]; exact .inl (by simp)⟩
      refine ⟨_, _, b0.at_c, by decide, sizeOk (by decide), (vRepM_iff rfl (by decide) (by decide) (by rw [sizeLine_eq]; decide)).mpr fun h n1 => ?_⟩
      have b1 := (b0.setc.new (m := .lst (List.replicate (Int.toNat 1000) [D.int 0]).flatten) n1)
      refine ⟨_, _, b1.at_c, by decide, sizeOk (by decide), fun p n2 => ?_⟩
      have b2 := (b1.setc.new (m := .lst []) n2)
      refine ⟨_, _, b2.at_c, by decide, _, _, insOf_of b2.setc.at_c, _, rfl, ?_⟩
      refine (vListM_iff (seqOf_of (b2.setc.all (s, .lst (st.settled.map .int)) (.tail _ (.tail _ (.head _)))))).mpr fun w n3 => ?_
      have b3 := (b2.setc.new (m := .lst (st.settled.map .int)) n3)
      refine ⟨_, _, b3.at_c, by decide, sizeOk (by decide), fun q n4 => ?_⟩
      have b4 := (b3.setc.new (m := .lst []) n4)
      refine ⟨_, _, b4.at_c, by decide, sizeOk (by decide), (vRepM_iff rfl (by decide) (by decide) (by rw [sizeLine_eq]; decide)).mpr fun l n5 => ?_⟩
      have b5 := (b4.setc.new (m := .lst (List.replicate (Int.toNat 5) [D.non]).flatten) n5)
      refine ⟨_, _, b5.at_c, by decide, ?_⟩
      have b6 := b5.setc (Y := .ins (cComp K) compNs (compFs K (onS st) s h p w q l))
      refine k _ [c, s, h, p, w, q, l] b6.kp (fun a ha => ?_) ⟨s, h, p, w, q, l, rfl, ?_⟩
      · have := b6.nw
        simp only [List.mem_cons, List.not_mem_nil, or_false] at ha
        rcases ha with rfl | rfl | rfl | rfl | rfl | rfl | rfl
        · exact .inl (.head _)
        · exact .inl (.tail _ (.head _))
        · exact this (_, _) (.tail _ (.tail _ (.tail _ (.tail _ (.head _)))))
        · exact this (_, _) (.tail _ (.tail _ (.tail _ (.head _))))
        · exact this (_, _) (.tail _ (.tail _ (.head _)))
        · exact this (_, _) (.tail _ (.head _))
        · exact this (_, _) (.head _)
      · have nd := b6.nd
        have al := b6.all
        have a1 := al (_, _) (.head _)
        have a2 := al (_, _) (.tail _ (.head _))
        have a3 := al (_, _) (.tail _ (.tail _ (.head _)))
        have a4 := al (_, _) (.tail _ (.tail _ (.tail _ (.head _))))
        have a5 := al (_, _) (.tail _ (.tail _ (.tail _ (.tail _ (.head _)))))
        have a6 := al (_, _) (.tail _ (.tail _ (.tail _ (.tail _ (.tail _ (.head _))))))
        have nd2 : [c, s, h, p, w, q, l].Nodup := (nodup_rev nd)
        refine ⟨nd2, b6.at_c, a6, ?_, ?_, ?_, ?_, ?_⟩
        · exact a5.trans (congrArg (fun z => some (MO.lst z)) (by show (List.replicate 1000 [D.int 0]).flatten = (List.replicate 1000 (0 : Int)).map D.int; rw [rep1, List.map_replicate]))
        · exact a4
        · exact a3
        · exact a2
        · exact a1.trans (congrArg (fun z => some (MO.lst z)) (by show (List.replicate 5 [D.non]).flatten = (List.replicate 5 none).map letD; rw [rep1, List.map_replicate]; rfl))
    · have b0 : Bd μ [c, s] μ c _ [(s, .lst (st.settled.map .int))] := ⟨hc, fun q hq => by rw [List.mem_singleton.mp hq]; exact hs, Kp.refl, by simp [Ne.symm cs], fun q hq => by rw [List.mem_singleton.mp hq]; exact .inl (by simp)⟩
      refine ⟨_, _, b0.at_c, by decide, sizeOk (by decide), (vRepM_iff rfl (by decide) (by decide) (by rw [sizeLine_eq]; decide)).mpr fun h n1 => ?_⟩
      have b1 := (b0.setc.new (m := .lst (List.replicate (Int.toNat 1000) [D.int 0]).flatten) n1)
      refine ⟨_, _, b1.at_c, by decide, sizeOk (by decide), fun p n2 => ?_⟩
      have b2 := (b1.setc.new (m := .lst []) n2)
      refine ⟨_, _, b2.at_c, by decide, _, _, insOf_of b2.setc.at_c, _, rfl, ?_⟩
      refine (vListM_iff (seqOf_of (b2.setc.all (s, .lst (st.settled.map .int)) (.tail _ (.tail _ (.head _)))))).mpr fun w n3 => ?_
      have b3 := (b2.setc.new (m := .lst (st.settled.map .int)) n3)
      refine ⟨_, _, b3.at_c, by decide, sizeOk (by decide), fun q n4 => ?_⟩
      have b4 := (b3.setc.new (m := .lst []) n4)
      refine ⟨_, _, b4.at_c, by decide, sizeOk (by decide), (vRepM_iff rfl (by decide) (by decide) (by rw [sizeLine_eq]; decide)).mpr fun l n5 => ?_⟩
      have b5 := (b4.setc.new (m := .lst (List.replicate (Int.toNat 5) [D.non]).flatten) n5)
      refine ⟨_, _, b5.at_c, by decide, ?_⟩
      have b6 := b5.setc (Y := .ins (cComp K) compNs (compFs K (onS st) s h p w q l))
      refine k _ [c, s, h, p, w, q, l] b6.kp (fun a ha => ?_) ⟨s, h, p, w, q, l, rfl, ?_⟩
      · have := b6.nw
        simp only [List.mem_cons, List.not_mem_nil, or_false] at ha
        rcases ha with rfl | rfl | rfl | rfl | rfl | rfl | rfl
        · exact .inl (.head _)
        · exact .inl (.tail _ (.head _))
        · exact this (_, _) (.tail _ (.tail _ (.tail _ (.tail _ (.head _)))))
        · exact this (_, _) (.tail _ (.tail _ (.tail _ (.head _))))
        · exact this (_, _) (.tail _ (.tail _ (.head _)))
        · exact this (_, _) (.tail _ (.head _))
        · exact this (_, _) (.head _)
      · have nd := b6.nd
        have al := b6.all
        have a1 := al (_, _) (.head _)
        have a2 := al (_, _) (.tail _ (.head _))
        have a3 := al (_, _) (.tail _ (.tail _ (.head _)))
        have a4 := al (_, _) (.tail _ (.tail _ (.tail _ (.head _))))
        have a5 := al (_, _) (.tail _ (.tail _ (.tail _ (.tail _ (.head _)))))
        have a6 := al (_, _) (.tail _ (.tail _ (.tail _ (.tail _ (.tail _ (.head _))))))
        have nd2 : [c, s, h, p, w, q, l].Nodup := (nodup_rev nd)
        refine ⟨nd2, b6.at_c, a6, ?_, ?_, ?_, ?_, ?_⟩
        · exact a5.trans (congrArg (fun z => some (MO.lst z)) (by show (List.replicate 1000 [D.int 0]).flatten = (List.replicate 1000 (0 : Int)).map D.int; rw [rep1, List.map_replicate]))
        · exact a4
        · exact a3
        · exact a2
        · exact a1.trans (congrArg (fun z => some (MO.lst z)) (by show (List.replicate 5 [D.non]).flatten = (List.replicate 5 none).map letD; rw [rep1, List.map_replicate]; rfl))
theorem c_Computer_power_on_1 {P : Program} {w : World} {K : PySem.W.Frag} {mg : Str → Option Value} {base : Heap} (T : Txt w K mg) : CanV P w K mg base CX0 [] 1 (He.ma K (He.ga K "Computer") "power_on") 1 [] ([.inl 0].map (toArg [] [])) (sp_power_on K) :=
  canV_of (ps := ["self"]) [.inl 0] T.f_Computer_power_on (b_Computer_power_on T) (fun _ _ _ _ _ _ us ws h1 h2 => match us, ws, h1, h2 with | [_], [], _, _ => rfl) (by decide)
end K25

set_option maxRecDepth 100000
set_option maxHeartbeats 4000000
namespace K25
open PySem L2 FW VL
local macro_rules | `(tactic| walk_at "vr") => `(tactic| simp only [wLenSet, wFor, wSetF, wAugF, wAug, wBM, wProp, wHeld, wVar, wC, wZ, wOp, wUn, wNil, wCons, wStar, wCB, wTup, wLst, wLstM, wTest, wAnd, wOr, VL.wNot, wAndV, wOrV, wNotV, wIf, wChain, wNoPart, wPart, wSl, wName, wGNil, wGCons, wGTup, wSub, wNext, VL.wSeq, wAsg, wDrop, wRet, wRetN, wIfS, wBreak, wCont, wPar, vI0, vI, vU, vAdd, vSub, vMul, vMod, vFdiv, vPow, vLt, vLe, vGt, vGe, vNeg, vIsN, vNotN, vAddA, vMulA, VL.wTru, iwL, iwT, wLc, vstart, List.map_cons, List.map_nil, List.cons_append, List.nil_append, List.set_cons_zero, List.set_cons_succ, List.getElem?_cons_zero, List.getElem?_cons_succ, Option.some.injEq, exists_eq_left, exists_eq_left', exists_eq', D.bl.injEq, D.int.injEq, D.str.injEq, D.tup.injEq, D.ref.injEq, List.cons.injEq, and_true, true_and, List.length_cons, List.length_nil, List.replicate, D.ty.injEq, exists_and_left, List.length, Nat.reduceAdd, wCall, wMake, wMeth, wFld, argsD, argD, toArg, List.getD_cons_zero, List.getD_cons_succ, List.map, iwS, vTupOf, Bool.false_eq_true, if_false, if_true, reduceIte, List.getElem?_nil, Nat.reduceSub, wipeR, vLen_lst, vLen_tup, vEq_ii, vEq_ss, vEq_bb, vIx_lst, vIx_tup, vIn_strs, vIn_s2, vIn_s3, vAll_map, vInK_s, vIxK_s, vInt_i, vAbs_i, atI_0, atI_1, atI_2, Bool.not_true, Bool.not_false, seqOf_lst, seqOf_tup, lstOf_lst, tupOf_tup, fzL_lst, N_is_list, N_is_integer, N_is_within, N_is_short, N_are_shorts, N_are_integers, N_is_lot, N_fixed, N_short_of, N_added, N_taken_from, N_multiplied, N_divided, N_left_over, N_is_less, N_is_equal, N_are_both, N_is_any, N_is_instruction, N_is_target_beyond, N_are_rows, N_Code___init__, N_Code___eq__, N_Code___iter__, N_push_short, N_popped, N_do_push, N_do_load, N_do_store, N_do_fetch, N_do_put, N_do_not, N_do_drop, N_do_copy, N_do_jump, N_do_unless, N_do_wait, N_do_sign, N_do_read, N_do_write, N_do_barrier, N_do_send, N_do_take, N_do_input, N_do_show, N_deed_of_row, N_is_disk_pair, N_are_disk_pairs, N_is_disk, N_Computer_power_on, N_Computer___init__, N_Computer_stack, N_Computer_disk, N_Computer_waiting, N_Computer_cards, N_Computer_memory, N_Computer_hand, N_Computer_cut, N_Computer_go, N_Computer_step, N__law_bench, N__law_turn, N__law_tool, N__law_wrap, N__law_signed, N__law_popped, N__law_written, N__law_settled, N__law_awake, N__law_outside, N__law_step, N__law_piece, N__law_is_so, N__law_moment_right, N_law])
local macro_rules | `(tactic| walk_at "frz") => `(tactic| ((try walk_at "vr"); refine ⟨_, frzOf_lst Mu.same, ?_⟩; rw [Mu.del_set (by assumption)]))
theorem insOf_insD (i : Ins) : insOf (insD i) = i := by
  obtain ⟨w, o⟩ := i
  cases o <;> rfl
theorem map_deeds (K : PySem.W.Frag) (is : List Ins) : (is.map insD).map (fun d => deedD K (insOf d)) = is.map (deedD K) := by
  rw [List.map_map]
  exact List.map_congr_left fun i _ => by show deedD K (insOf (insD i)) = _; rw [insOf_insD]
def setI (μ : Mu) (xs : List Int) (d : D) : List Int := xs.set (fstI μ d).toNat (sndI μ d)
def settledI (μ : Mu) (v : D) : List Int := (itemsOf μ v).foldl (setI μ) (zeros 200)
def preD (is : List Ins) (xs : List Int) : CS := ⟨is, 0, xs, 0, [], [], [], [], []⟩
def preS (is : List Ins) : CS := preD is (zeros 200)
theorem foldl_len (μ : Mu) : ∀ (ds : List D) (xs : List Int), (ds.foldl (setI μ) xs).length = xs.length
  | [], _ => rfl
  | d :: ds, xs => by rw [List.foldl_cons, foldl_len μ ds]; simp [setI]
theorem mu_self {μ : Mu} {a : Addr} {m : MO} (h : μ a = some m) : μ.set a m = μ := by
  funext b
  unfold Mu.set
  split
  · rename_i e; rw [e, h]
  · rfl
/-- what is asked of a value that is to be a disk, at a store that has more than μ -/
theorem disk_at {μ : Mu} {v : D} (hv : DiskV μ v) (hd : diskB μ v = true) : ∃ ds, SeqA μ v ds ∧ itemsOf μ v = ds ∧ ds.length ≤ 1000 ∧ ∀ d ∈ ds, Kd μ d ∧ pairB μ d = true ∧ ∃ es, SeqA μ d es := by
  unfold diskB arePB at hd
  simp only [Bool.and_eq_true] at hd
  obtain ⟨ds, sq, hl, hit⟩ := hv.it hd.1.1
  have e0 : itemsOf μ v = ds := by unfold itemsOf; rw [sq.seq]; rfl
  refine ⟨ds, sq, e0, hl, fun d hm => ?_⟩
  have all := hd.1.2
  rw [e0] at all
  have pb := List.all_eq_true.mp all d hm
  refine ⟨(hit d hm).kd, pb, ?_⟩
  have hl := (pair_parts pb).1
  match d, (hit d hm).kd, hl with
  | .lst es, _, _ => exact ⟨es, .inl (.inl rfl)⟩
  | .tup es, _, _ => exact ⟨es, .inl (.inr rfl)⟩
  | .ref a, _, hl =>
    match e : μ a with
    | some (.lst es) => exact ⟨es, .inr ⟨a, rfl, e⟩⟩
    | none => simp [isLst, tyD, e] at hl
    | some (.dic _ _) => simp [isLst, tyD, e] at hl
    | some (.ins _ _ _) => simp [isLst, tyD, e] at hl
    | some (.raw _) => simp [isLst, tyD, e] at hl
  | .non, _, hl | .bl _, _, hl | .int _, _, hl | .str _, _, hl | .ty _, _, hl | .sq _, _, hl | .dic _ _, _, hl | .obj _ _ _, _, hl | .exc _ _ _, _, hl => simp [isLst, tyD] at hl
def sp_Computer___init__ (K : PySem.W.Frag) : VSp := fun ds μ ev Φ => ∃ c cv dv, ds = [.ref c, cv, dv] ∧ μ c = some (.ins (cComp K) [] []) ∧
  ((∃ t, tyO K μ cv t ∧ PySem.W.kitOne K t (.ref (He.ga K "Code")) = some false ∧ ev (He.ga K "BadCode") ["part"] [.str "code"] μ) ∨
   ∃ is, cv = codeD K is ∧ is.all okIns = true ∧ is.length ≤ 10000 ∧ DiskV μ dv ∧
    ((diskB μ dv = false ∧ ev (He.ga K "BadNumber") ["part"] [.str "disk"] μ) ∨
     (diskB μ dv = true ∧ ∀ μ' F', Kp [c] μ μ' → Nw [c] F' μ → CompAt K μ' c F' (onS (preD is (settledI μ dv))) → Φ .non μ')))
theorem b_Computer___init__ {P : Program} {w : World} {K : PySem.W.Frag} {mg : Str → Option Value} {base : Heap} (T : Txt w K mg) : ∀ fd, FunD K "__init__" "Computer.__init__" (defArgs s_Computer___init__) (defBody s_Computer___init__) (defScope s_Computer___init__) [.ref (He.dflAt ("Computer", some "__init__") 0 K)] [] (He.ma K (He.ga K "Computer") "__init__") fd → FnG P w K mg base (L2.CX P w) 7 (He.ma K (He.ga K "Computer") "__init__") fd ["self", "code", "disk"] (lift K [] (sp_Computer___init__ K)) := by
  intro fd F
  refine fun_okD (N := N_Computer___init__) F sc_Computer___init__ (fun ds μ ev Φ h => ?size) (fun cdv A outer s H E hG hr => ⟨_, (vss_cons (vs_if (vt_not (vt_val (ve_callB call_isi s_isiO (by rfl) T.b_isinstance (by decide +kernel) (va_cons (vv 1) (va_cons (ve_gref rfl T.g_Code) va_nil)))))
 (vss_one (vs_raise T.x_BadCode rfl (hr.mono (by decide)) (takes_of rfl rfl rfl rfl) (va_cons ve_str va_nil) rfl))
 vss_nil)
 (vss_cons (vs_if (vt_not (vt_val (ve_call T.g_is_disk (c_is_disk_1 T) hG hr (by decide) pass0 sel_0 rfl (va_cons (vv 2) va_nil) vk_nil)))
 (vss_one (vs_raise T.x_BadNumber rfl (hr.mono (by decide)) (takes_of rfl rfl rfl rfl) (va_cons ve_str va_nil) rfl))
 vss_nil)
 (vss_cons (vs_fld T.cl_Computer T.n_Computer_code (vv 0) (vv 1))
 (vss_cons (vs_fld T.cl_Computer T.n_Computer_deeds (vv 0) (ve_z (ve_lc (own := [("row", 5)]) (p := (.name 5)) rfl sc_Computer___init__.nd (vi_own (it_Code T) hG (hr.mono (by decide)) (vv 1)) (blkOk_by (N := N_Computer___init__) (sc := defScope s_Computer___init__) (by decide +kernel)) (fun _ _ _ _ _ => pg_name (i := 5) sc_Computer___init__.nd rfl (Or.inl rfl)) (fun _ _ _ _ _ => vts_nil) (fun _ _ _ _ _ => (ve_call T.g_deed_of_row (c_deed_of_row_1 T) hG hr (by decide) pass0 sel_0 rfl (va_cons (vv 5) va_nil) vk_nil)) (by decide))))
 (vss_cons (vs_fld T.cl_Computer T.n_Computer_given (vv 0) ve_int)
 (vss_cons (vs_fld T.cl_Computer T.n_Computer_settled (vv 0) (ve_op op_rep s_repM (ve_lst (va_cons ve_int va_nil)) (ve_gc rfl T.g_MOST_DISK fun _ _ => .int _)))
 (vss_cons (vs_for (passes_of rfl) rfl (vi_any (vv 2)) (vg_any (fun _ h => pg_tup (n := 2) rfl h) (fun _ h => pg_lst (n := 2) rfl h) (vgs_cons (vg_name (i := 3) sc_Computer___init__.nd rfl (Or.inl rfl)) (vgs_cons (vg_name (i := 4) sc_Computer___init__.nd rfl (Or.inl rfl)) vgs_nil)))
 (vss_one (vs_asg (vv 4) (vg_sub (fun _ _ h1 h2 => pg_sub h1 h2 set_list) s_setL (ve_fld T.cl_Computer T.n_Computer_settled (vv 0)) (vv 3)))))
 (vss_one (vs_expr (ve_meth0 T.cl_Computer T.m_Computer_power_on (c_Computer_power_on_1 T) hG hr (by decide) pass0 sel_0 (vv 0) vk_nil)))))))))), fun ds μ ev Φ h => ?_⟩)
  · obtain ⟨c, cv, dv, rfl, _⟩ := h; rfl
  · obtain ⟨c, cv, dv, rfl, hc, k⟩ := h
    walk_at "vr"
    rcases k with ⟨t, ty, ki, q⟩ | ⟨is, rfl, ok, hl, hdv, k⟩
    · refine ⟨cv, He.ga K "Code", t, false, rfl, ty, ki, ?_⟩
      walk_at "vr"
      exact ⟨_, rfl, q⟩
    refine ⟨codeD K is, He.ga K "Code", .ref (He.ga K "Code"), true, rfl, .inr ⟨_, _, _, rfl, T.i_Code, rfl⟩, T.o_Code, ?_⟩
    walk_at "vr"
    refine ⟨dv, rfl, hdv, ?_⟩
    walk_at "vr"
    rcases k with ⟨hd, q⟩ | ⟨hd, k⟩
    · rw [hd]
      simp only [Bool.not_false, if_true]
      exact ⟨_, rfl, q⟩
    rw [hd]
    simp only [Bool.not_true, Bool.false_eq_true, if_false]
    obtain ⟨ds, sq, e0, hdl, hit⟩ := disk_at hdv hd
    have b0 : Bd μ [c] μ c _ [] := ⟨hc, fun q hq => (nomatch hq), Kp.refl, by simp, fun q hq => (nomatch hq)⟩
    refine ⟨_, _, b0.at_c, by decide, ?_⟩
    have b1 := b0.setc (Y := .ins (cComp K) ["code"] [codeD K is])
    simp only [iwO]
    walk_at "vr"
    refine ⟨_, _, rfl, is.map insD, rfl, ?_⟩
    refine lcm (fun d => deedD K (insOf d)) (sizeOk (by simp; omega)) (fun d hd => ⟨_, rfl, fun Ds l Ψ nD q => ?_⟩) fun Ds nD => ?_
    · obtain ⟨i, hi, rfl⟩ := List.mem_map.mp hd
      rw [insOf_insD] at q
      walk_at "vr"
      exact ⟨i, rfl, List.all_eq_true.mp ok i hi, q⟩
    walk_at "frz"
    rw [map_deeds]
    refine ⟨_, _, b1.at_c, by decide, ?_⟩
    have b2 := b1.setc (Y := .ins (cComp K) ["code", "deeds"] [codeD K is, .lst (is.map (deedD K))])
    refine ⟨_, _, b2.at_c, by decide, sizeOk (by decide), (vRepM_iff rfl (by decide) (by decide) (by rw [sizeLine_eq]; decide)).mpr fun s n1 => ?_⟩
    have b3 := (b2.setc (Y := .ins (cComp K) ["code", "deeds", "given"] [codeD K is, .lst (is.map (deedD K)), .int 0])).new (m := .lst (List.replicate (Int.toNat 200) [D.int 0]).flatten) n1
    refine ⟨_, _, b3.at_c, by decide, ?_⟩
    have b4 := b3.setc (Y := .ins (cComp K) bareNs (bareFs K (preS is) s))
    have sn : s ≠ c ∧ μ s = none := by
      have := b4.nw (_, _) (.head _)
      have nd := b4.nd
      simp only [List.map_cons, List.map_nil, List.nodup_cons, List.mem_cons, List.not_mem_nil, or_false] at nd
      refine ⟨fun e => nd.1 e.symm, this.elim (fun z => ?_) id⟩
      exact absurd (List.mem_singleton.mp z) fun e => nd.1 e.symm
    have s4 := (b4.all (_, _) (.head _)).trans (congrArg (fun z => some (MO.lst z)) (by show (List.replicate 200 [D.int 0]).flatten = (zeros 200).map D.int; rw [rep1]; unfold zeros; rw [List.map_replicate]))
    have c4 := b4.at_c
    have nr : ∀ x a, Kd μ x → x = .ref a → a ≠ c ∧ a ≠ s := fun x a hk e => by
      subst e
      refine ⟨fun e => ?_, fun e => kd_ref hk (by rw [e]; exact sn.2)⟩
      obtain ⟨t, ht⟩ := hk
      rw [e] at ht
      simp only [tyD, hc] at ht
      cases ht
    have same : ∀ (μ' : Mu), (∀ a, a ≠ c → a ≠ s → μ' a = μ a) → ∀ x, Kd μ x → ∀ a, x = .ref a → μ' a = μ a := fun μ' hs x hk a e => hs a (nr x a hk e).1 (nr x a hk e).2
    clear b0 b1 b2 b3
    refine iwA_at (ds := ds) (x := dv) rfl (SeqA.same (same _ (fun a h1 h2 => by repeat (first | rw [Mu.ne h1] | rw [Mu.ne h2])) dv hdv.kd) sq) fun P hP => ?_
    refine forW_inv (fun i ρ μ' => (∃ x y z, ρ = [some (.ref c), some (codeD K is), some dv, x, y, z]) ∧ μ' c = some (.ins (cComp K) bareNs (bareFs K (preS is) s)) ∧ μ' s = some (.lst (((ds.take i).foldl (setI μ) (zeros 200)).map .int)) ∧ ∀ a, a ≠ c → a ≠ s → μ' a = μ a) ?step ?last ⟨⟨_, _, _, rfl⟩, c4, s4, fun a h1 h2 => by repeat (first | rw [Mu.ne h1] | rw [Mu.ne h2])⟩
    case step =>
      intro i d hi N ρ μ' hN ⟨⟨x, y, z, e⟩, hc', hs', ho⟩
      subst e
      refine ⟨hP _ fun a e => ?_, ?_⟩
      · rw [same μ' ho dv hdv.kd a e]
        have := nr dv a hdv.kd e
        repeat (first | rw [Mu.ne this.1] | rw [Mu.ne this.2])
      obtain ⟨kd, pb, es, sqd⟩ := hit d (List.mem_of_getElem? hi)
      obtain ⟨_, p, q, h2, p0, p1, _, f1, f2⟩ := pair_parts pb
      have ee := sqd.seq
      rw [h2] at ee
      cases ee
      have sqd' : SeqA μ' d [.int p, .int q] := SeqA.same (same μ' ho d kd) sqd
      refine ⟨_, sqd'.any, rfl, ?_⟩
      walk_at "vr"
      refine ⟨_, _, ⟨rfl, rfl⟩, _, _, rfl, rfl, ?_⟩
      try walk_at "vr"
      refine ⟨_, _, insOf_of hc', _, rfl, ?_⟩
      simp only [vSet_iff hs']
      obtain ⟨m, rfl⟩ : ∃ m : Nat, p = (m : Int) := ⟨p.toNat, by omega⟩
      have hl200 : ((ds.take i).foldl (setI μ) (zeros 200)).length = 200 := by rw [foldl_len]; simp [zeros]
      refine ⟨m, ixN_nat (by rw [List.length_map, hl200]; omega), hN _ _ ⟨⟨_, _, _, rfl⟩, ?_, ?_, fun a h1 h2 => by rw [Mu.ne h2]; exact ho a h1 h2⟩⟩
      · rw [Mu.ne (Ne.symm sn.1)]; exact hc'
      · rw [Mu.same, List.take_add_one, hi]
        simp only [Option.toList_some, List.foldl_append, List.foldl_cons, List.foldl_nil]
        unfold setI
        rw [f1, f2, Int.toNat_natCast, List.map_set]
    case last =>
      intro ρ μ' ⟨⟨x, y, z, e⟩, hc', hs', ho⟩
      subst e
      refine ⟨hP _ fun a e => ?_, ?_⟩
      · rw [same μ' ho dv hdv.kd a e]
        have := nr dv a hdv.kd e
        repeat (first | rw [Mu.ne this.1] | rw [Mu.ne this.2])
      rw [List.take_length] at hs'
      have kp : Kp [c] μ μ' := fun a ha hm => ho a (by simpa using ha) fun e => hm (by rw [e]; exact sn.2)
      refine ⟨_, rfl, _, _, insOf_of hc', by decide, ?_⟩
      refine ⟨c, s, preD is (settledI μ dv), rfl, by show (settledI μ dv).length = 200; unfold settledI; rw [foldl_len]; simp [zeros], by unfold settledI; rw [e0]; exact hs', sn.1, .inl hc', fun μ'' F' k1 n2 hC => ?_⟩
      refine k μ'' F' (kp.trans Nw.refl k1) (fun a ha => ?_) hC
      rcases n2 a ha with z | z
      · rcases List.mem_cons.mp z with rfl | z
        · exact .inl (.head _)
        · rw [List.mem_singleton.mp z]; exact .inr sn.2
      · by_cases e : a = c
        · exact .inl (by rw [e]; exact .head _)
        · refine .inr ?_
          by_cases hm : μ a = none
          · exact hm
          · exact absurd ((kp a (by simpa using e) hm).symm.trans z) hm
theorem c_Computer___init___3 {P : Program} {w : World} {K : PySem.W.Frag} {mg : Str → Option Value} {base : Heap} (T : Txt w K mg) : CanV P w K mg base (L2.CX P w) [] 7 (He.ma K (He.ga K "Computer") "__init__") 3 [] ([.inl 0, .inl 1, .inl 2].map (toArg [.ref (He.dflAt ("Computer", some "__init__") 0 K)] [.tup []])) (sp_Computer___init__ K) :=
  canV_dfl (ps := ["self", "code", "disk"]) [.tup []] [.inl 0, .inl 1, .inl 2] T.f_Computer___init__ (b_Computer___init__ T) (by simp) (fun j μ H => match j with | 0 => T.t_disk0 μ H | _ + 1 => .non) (fun _ _ _ _ _ _ _ us its ws h1 h2 h3 => match us, its, ws, h1, h2, h3 with | [_, _, _], [_], [], _, _, _ => ⟨_, rfl, rfl⟩) (by decide)
theorem c_Computer___init___2 {P : Program} {w : World} {K : PySem.W.Frag} {mg : Str → Option Value} {base : Heap} (T : Txt w K mg) : CanV P w K mg base (L2.CX P w) [] 7 (He.ma K (He.ga K "Computer") "__init__") 2 [] ([.inl 0, .inl 1, .inr 0].map (toArg [.ref (He.dflAt ("Computer", some "__init__") 0 K)] [.tup []])) (sp_Computer___init__ K) :=
  canV_dfl (ps := ["self", "code", "disk"]) [.tup []] [.inl 0, .inl 1, .inr 0] T.f_Computer___init__ (b_Computer___init__ T) (by simp) (fun j μ H => match j with | 0 => T.t_disk0 μ H | _ + 1 => .non) (fun _ _ _ _ _ _ _ us its ws h1 h2 h3 => match us, its, ws, h1, h2, h3 with | [_, _], [_], [], _, _, _ => ⟨_, rfl, rfl⟩) (by decide)
end K25

set_option maxRecDepth 100000
set_option maxHeartbeats 4000000
namespace K25
open PySem L2 FW VL
/-! ### what each instruction does -/
section
variable {P : Program} {w : World} {K : PySem.W.Frag} {mg : Str → Option Value} {base : Heap}
def deedOk (P : Program) (w : World) (K : PySem.W.Frag) (mg : Str → Option Value) (base : Heap) (i : Ins) (g : CS → D × CS) : Prop := ∃ f x sp, deedD K i = .tup [.ref f, x] ∧ HeldV P w K mg base [] 3 f 2 sp ∧ ∀ (μ : Mu) (c : Addr) (F : List Addr) (st : CS) (Φ : WK),
  CompAt K μ c F st → st.Ok → (∀ μ' F', Kp F μ μ' → Nw F F' μ → CompAt K μ' c F' (g st).2 → Φ (g st).1 μ') → sp [.ref c, x] μ ev0 Φ
theorem two {x : Str} {st : Stmt} {a b : Str} {k : Nat} {sp : VSp} {f : Addr} (F : ∃ fd, FunD K x x (defArgs st) (defBody st) (defScope st) [] [] f fd) (ok : ∀ fd, FunD K x x (defArgs st) (defBody st) (defScope st) [] [] f fd → FnG P w K mg base CX0 k f fd [a, b] (lift K [] sp)) (h : k ≤ 3)
    (hb : ∀ (kV doc pm : Value) (an : Option Addr) (cdv ct : Value) (us ws : List Value), us.length = 2 → ws.length = 0 → bindArgs (PySem.W.fnOf x x (defArgs st) (defBody st) (defScope st) .none kV doc pm an cdv ct) ⟨us, ([] : List Str).zip ws⟩ = pure ([a, b].zip ([.inl 0, .inl 1].map (pickU (us ++ ws) [])))) : HeldV P w K mg base [] 3 f 2 sp :=
  held2 (canV_of (ps := [a, b]) (ks := []) [.inl 0, .inl 1] F ok hb (by decide)) h
theorem deed_push (T : Txt w K mg) (n : Int) : deedOk P w K mg base ("push", some n) fun st => (.non, push st n) :=
  ⟨_, _, _, rfl, two T.f_do_push (b_do_push T) (by decide) (fun _ _ _ _ _ _ us ws h1 h2 => match us, ws, h1, h2 with | [_, _], [], _, _ => rfl), fun μ c F st Φ hC ok k => ⟨n, c, F, st, rfl, hC, ok, k⟩⟩
theorem deed_load (T : Txt w K mg) (n : Nat) (hn : n < 1000) : deedOk P w K mg base ("load", some (n : Int)) fun st => (.non, push st (st.held.getD n 0)) :=
  ⟨_, _, _, rfl, two T.f_do_load (b_do_load T) (by decide) (fun _ _ _ _ _ _ us ws h1 h2 => match us, ws, h1, h2 with | [_, _], [], _, _ => rfl), fun μ c F st Φ hC ok k => ⟨n, hn, c, F, st, rfl, hC, ok, k⟩⟩
theorem deed_store (T : Txt w K mg) (n : Nat) (hn : n < 1000) : deedOk P w K mg base ("store", some (n : Int)) fun st => (.non, { popS st with held := st.held.set n (popV st) }) :=
  ⟨_, _, _, rfl, two T.f_do_store (b_do_store T) (by decide) (fun _ _ _ _ _ _ us ws h1 h2 => match us, ws, h1, h2 with | [_, _], [], _, _ => rfl), fun μ c F st Φ hC ok k => ⟨n, hn, c, F, st, rfl, hC, ok, k⟩⟩
theorem deed_jump (T : Txt w K mg) (n : Int) : deedOk P w K mg base ("jump", some n) fun st => (.non, { st with at_ := n }) :=
  ⟨_, _, _, rfl, two T.f_do_jump (b_do_jump T) (by decide) (fun _ _ _ _ _ _ us ws h1 h2 => match us, ws, h1, h2 with | [_, _], [], _, _ => rfl), fun μ c F st Φ hC ok k => ⟨n, c, F, st, rfl, hC, ok, k⟩⟩
theorem deed_unless (T : Txt w K mg) (n : Int) : deedOk P w K mg base ("unless", some n) fun st => (.non, unlessS st n) :=
  ⟨_, _, _, rfl, two T.f_do_unless (b_do_unless T) (by decide) (fun _ _ _ _ _ _ us ws h1 h2 => match us, ws, h1, h2 with | [_, _], [], _, _ => rfl), fun μ c F st Φ hC ok k => ⟨n, c, F, st, rfl, hC, ok, k⟩⟩
theorem deed_not (T : Txt w K mg) : deedOk P w K mg base ("not", none) fun st => (.non, push (popS st) (notI (popV st))) :=
  ⟨_, _, _, rfl, two T.f_do_not (b_do_not T) (by decide) (fun _ _ _ _ _ _ us ws h1 h2 => match us, ws, h1, h2 with | [_, _], [], _, _ => rfl), fun μ c F st Φ hC ok k => ⟨_, c, F, st, rfl, hC, ok, k⟩⟩
theorem deed_drop (T : Txt w K mg) : deedOk P w K mg base ("drop", none) fun st => (.non, popS st) :=
  ⟨_, _, _, rfl, two T.f_do_drop (b_do_drop T) (by decide) (fun _ _ _ _ _ _ us ws h1 h2 => match us, ws, h1, h2 with | [_, _], [], _, _ => rfl), fun μ c F st Φ hC ok k => ⟨_, c, F, st, rfl, hC, ok, k⟩⟩
theorem deed_copy (T : Txt w K mg) : deedOk P w K mg base ("copy", none) fun st => (.non, push (push (popS st) (popV st)) (popV st)) :=
  ⟨_, _, _, rfl, two T.f_do_copy (b_do_copy T) (by decide) (fun _ _ _ _ _ _ us ws h1 h2 => match us, ws, h1, h2 with | [_, _], [], _, _ => rfl), fun μ c F st Φ hC ok k => ⟨_, c, F, st, rfl, hC, ok, k⟩⟩
theorem deed_wait (T : Txt w K mg) : deedOk P w K mg base ("wait", none) fun st => (.tup [.str "waits"], st) :=
  ⟨_, _, _, rfl, two T.f_do_wait (b_do_wait T) (by decide) (fun _ _ _ _ _ _ us ws h1 h2 => match us, ws, h1, h2 with | [_, _], [], _, _ => rfl), fun μ c F st Φ hC ok k => ⟨_, c, F, st, rfl, hC, ok, k⟩⟩
theorem two2 {x : Str} {st : Stmt} {hh : Int → Int → Int} {f : Addr} (F : ∃ fd, FunD K x x (defArgs st) (defBody st) (defScope st) [] [] f fd) (ok : ∀ fd, FunD K x x (defArgs st) (defBody st) (defScope st) [] [] f fd → FnG P w K mg base CX0 2 f fd ["one", "other"] (lift K [] (spAct hh)))
    (hb : ∀ (kV doc pm : Value) (an : Option Addr) (cdv ct : Value) (us ws : List Value), us.length = 2 → ws.length = 0 → bindArgs (PySem.W.fnOf x x (defArgs st) (defBody st) (defScope st) .none kV doc pm an cdv ct) ⟨us, ([] : List Str).zip ws⟩ = pure ([("one" : Str), "other"].zip ([.inl 0, .inl 1].map (pickU (us ++ ws) [])))) : HeldV P w K mg base [] 2 f 2 (spAct hh) :=
  held2 (canV_of (ps := ["one", "other"]) (ks := []) [.inl 0, .inl 1] F ok hb (by decide)) (Nat.le_refl _)
theorem deed_act (T : Txt w K mg) {s f : Str} {hh : Int → Int → Int} (he : ACTF.lookup s = some f) (hd : HeldV P w K mg base [] 2 (He.ga K f) 2 (spAct hh)) : deedOk P w K mg base (s, none) fun st => (.non, push (popS (popS st)) (hh (popV (popS st)) (popV st))) :=
  ⟨_, _, _, by show (match ACTF.lookup s with | some f => _ | none => _) = _; rw [he], two T.f_do_sign (b_do_sign T) (by decide) (fun _ _ _ _ _ _ us ws h1 h2 => match us, ws, h1, h2 with | [_, _], [], _, _ => rfl), fun μ c F st Φ hC ok k => ⟨_, hh, hd, c, F, st, rfl, hC, ok, k⟩⟩
theorem fnG_up {k j : Nat} {f : Addr} {fd : FuncData} {ps : List Str} {sp : Sp} (F : FnG P w K mg base CX0 k f fd ps sp) (h : k ≤ j) : FnG P w K mg base CX0 j f fd ps sp := ⟨F.size, fun A outer s H args us vs Q E hG hr => F.goes A outer s H args us vs Q E hG (hr.mono h)⟩
theorem deed_sign (T : Txt w K mg) {s : Str} (hs : s ∈ SIGNW) : deedOk P w K mg base (s, none) fun st => (.non, push (popS (popS st)) (actI s (popV (popS st)) (popV st))) := by
  rcases sign_cases hs with rfl | rfl | rfl | rfl | rfl | rfl | rfl | rfl | rfl <;> simp only [actI, ofStr_inj, String.reduceEq, if_true, if_false]
  · exact deed_act T (by decide +kernel) (two2 T.f_added (fun fd F => fnG_up (b_added T fd F) (by decide)) (fun _ _ _ _ _ _ us ws h1 h2 => match us, ws, h1, h2 with | [_, _], [], _, _ => rfl))
  · exact deed_act T (by decide +kernel) (two2 T.f_taken_from (fun fd F => fnG_up (b_taken_from T fd F) (by decide)) (fun _ _ _ _ _ _ us ws h1 h2 => match us, ws, h1, h2 with | [_, _], [], _, _ => rfl))
  · exact deed_act T (by decide +kernel) (two2 T.f_multiplied (fun fd F => fnG_up (b_multiplied T fd F) (by decide)) (fun _ _ _ _ _ _ us ws h1 h2 => match us, ws, h1, h2 with | [_, _], [], _, _ => rfl))
  · exact deed_act T (by decide +kernel) (two2 T.f_divided (fun fd F => fnG_up (b_divided T fd F) (by decide)) (fun _ _ _ _ _ _ us ws h1 h2 => match us, ws, h1, h2 with | [_, _], [], _, _ => rfl))
  · exact deed_act T (by decide +kernel) (two2 T.f_left_over (fun fd F => fnG_up (b_left_over T fd F) (by decide)) (fun _ _ _ _ _ _ us ws h1 h2 => match us, ws, h1, h2 with | [_, _], [], _, _ => rfl))
  · exact deed_act T (by decide +kernel) (two2 T.f_is_less (fun fd F => fnG_up (b_is_less T fd F) (by decide)) (fun _ _ _ _ _ _ us ws h1 h2 => match us, ws, h1, h2 with | [_, _], [], _, _ => rfl))
  · exact deed_act T (by decide +kernel) (two2 T.f_is_equal (fun fd F => fnG_up (b_is_equal T fd F) (by decide)) (fun _ _ _ _ _ _ us ws h1 h2 => match us, ws, h1, h2 with | [_, _], [], _, _ => rfl))
  · exact deed_act T (by decide +kernel) (two2 T.f_are_both (fun fd F => fnG_up (b_are_both T fd F) (by decide)) (fun _ _ _ _ _ _ us ws h1 h2 => match us, ws, h1, h2 with | [_, _], [], _, _ => rfl))
  · exact deed_act T (by decide +kernel) (two2 T.f_is_any (fun fd F => fnG_up (b_is_any T fd F) (by decide)) (fun _ _ _ _ _ _ us ws h1 h2 => match us, ws, h1, h2 with | [_, _], [], _, _ => rfl))
theorem deed_fetch (T : Txt w K mg) : deedOk P w K mg base ("fetch", none) fun st => (.non, push (popS st) (fetchV st)) :=
  ⟨_, _, _, rfl, two T.f_do_fetch (b_do_fetch T) (by decide) (fun _ _ _ _ _ _ us ws h1 h2 => match us, ws, h1, h2 with | [_, _], [], _, _ => rfl), fun μ c F st Φ hC ok k => ⟨_, c, F, st, rfl, hC, ok, k⟩⟩
theorem deed_put (T : Txt w K mg) : deedOk P w K mg base ("put", none) fun st => (.non, putS st) :=
  ⟨_, _, _, rfl, two T.f_do_put (b_do_put T) (by decide) (fun _ _ _ _ _ _ us ws h1 h2 => match us, ws, h1, h2 with | [_, _], [], _, _ => rfl), fun μ c F st Φ hC ok k => ⟨_, c, F, st, rfl, hC, ok, k⟩⟩
end
end K25

set_option maxRecDepth 100000
set_option maxHeartbeats 4000000
namespace K25
open PySem L2 FW VL
local macro_rules | `(tactic| walk_at "vr") => `(tactic| simp only [wLenSet, wFor, wSetF, wAugF, wAug, wBM, wProp, wHeld, wVar, wC, wZ, wOp, wUn, wNil, wCons, wStar, wCB, wTup, wLst, wLstM, wTest, wAnd, wOr, VL.wNot, wAndV, wOrV, wNotV, wIf, wChain, wNoPart, wPart, wSl, wName, wGNil, wGCons, wGTup, wSub, wNext, VL.wSeq, wAsg, wDrop, wRet, wRetN, wIfS, wBreak, wCont, wPar, vI0, vI, vU, vAdd, vSub, vMul, vMod, vFdiv, vPow, vLt, vLe, vGt, vGe, vNeg, vIsN, vNotN, vAddA, vMulA, VL.wTru, iwL, iwT, wLc, vstart, List.map_cons, List.map_nil, List.cons_append, List.nil_append, List.set_cons_zero, List.set_cons_succ, List.getElem?_cons_zero, List.getElem?_cons_succ, Option.some.injEq, exists_eq_left, exists_eq_left', exists_eq', D.bl.injEq, D.int.injEq, D.str.injEq, D.tup.injEq, D.ref.injEq, List.cons.injEq, and_true, true_and, List.length_cons, List.length_nil, List.replicate, D.ty.injEq, exists_and_left, List.length, Nat.reduceAdd, wCall, wMake, wMeth, wFld, argsD, argD, toArg, List.getD_cons_zero, List.getD_cons_succ, List.map, iwS, vTupOf, Bool.false_eq_true, if_false, if_true, reduceIte, List.getElem?_nil, Nat.reduceSub, wipeR, vLen_lst, vLen_tup, vEq_ii, vEq_ss, vEq_bb, vIx_lst, vIx_tup, vIn_strs, vIn_s2, vIn_s3, vAll_map, vInK_s, vIxK_s, vInt_i, vAbs_i, atI_0, atI_1, atI_2, Bool.not_true, Bool.not_false, seqOf_lst, seqOf_tup, lstOf_lst, tupOf_tup, fzL_lst, N_is_list, N_is_integer, N_is_within, N_is_short, N_are_shorts, N_are_integers, N_is_lot, N_fixed, N_short_of, N_added, N_taken_from, N_multiplied, N_divided, N_left_over, N_is_less, N_is_equal, N_are_both, N_is_any, N_is_instruction, N_is_target_beyond, N_are_rows, N_Code___init__, N_Code___eq__, N_Code___iter__, N_push_short, N_popped, N_do_push, N_do_load, N_do_store, N_do_fetch, N_do_put, N_do_not, N_do_drop, N_do_copy, N_do_jump, N_do_unless, N_do_wait, N_do_sign, N_do_read, N_do_write, N_do_barrier, N_do_send, N_do_take, N_do_input, N_do_show, N_deed_of_row, N_is_disk_pair, N_are_disk_pairs, N_is_disk, N_Computer_power_on, N_Computer___init__, N_Computer_stack, N_Computer_disk, N_Computer_waiting, N_Computer_cards, N_Computer_memory, N_Computer_hand, N_Computer_cut, N_Computer_go, N_Computer_step, N__law_bench, N__law_turn, N__law_tool, N__law_wrap, N__law_signed, N__law_popped, N__law_written, N__law_settled, N__law_awake, N__law_outside, N__law_step, N__law_piece, N__law_is_so, N__law_moment_right, N_law])
local macro_rules | `(tactic| walk_at "wr") => `(tactic| simp only [vInt_bl, iwR1, iwR2, iwM, List.set_cons_succ, wLenSet, wFor, wSetF, wAugF, wAug, wBM, wProp, wHeld, wVar, wC, wZ, wOp, wUn, wNil, wCons, wStar, wCB, wTup, wLst, wLstM, wTest, wAnd, wOr, VL.wNot, wAndV, wOrV, wNotV, wIf, wChain, wNoPart, wPart, wSl, wName, wGNil, wGCons, wGTup, wSub, wNext, VL.wSeq, wAsg, wDrop, wRet, wRetN, wIfS, wBreak, wCont, wPar, vI0, vI, vU, vAdd, vSub, vMul, vMod, vFdiv, vPow, vLt, vLe, vGt, vGe, vNeg, vIsN, vNotN, vAddA_ii, vMulA_ii, VL.wTru, iwL, iwT, wLc, vstart, List.map_cons, List.map_nil, List.cons_append, List.nil_append, List.set_cons_zero, List.set_cons_succ, List.getElem?_cons_zero, List.getElem?_cons_succ, Option.some.injEq, exists_eq_left, exists_eq_left', exists_eq', D.bl.injEq, D.int.injEq, D.str.injEq, D.tup.injEq, D.ref.injEq, List.cons.injEq, and_true, true_and, List.length_cons, List.length_nil, List.replicate, D.ty.injEq, exists_and_left, List.length, Nat.reduceAdd, wCall, wMake, wMeth, wFld, argsD, argD, toArg, List.getD_cons_zero, List.getD_cons_succ, List.map, iwS, vTupOf, Bool.false_eq_true, if_false, if_true, reduceIte, List.getElem?_nil, Nat.reduceSub, wipeR, vLen_lst, vLen_tup, vEq_ii, vEq_ss, vEq_bb, vIx_lst, vIx_tup, vIn_strs, vIn_s2, vIn_s3, vAll_map, vInK_s, vIxK_s, vInt_i, vAbs_i, atI_0, atI_1, atI_2, Bool.not_true, Bool.not_false, seqOf_lst, seqOf_tup, lstOf_lst, tupOf_tup, fzL_lst, N_is_list, N_is_integer, N_is_within, N_is_short, N_are_shorts, N_are_integers, N_is_lot, N_fixed, N_short_of, N_added, N_taken_from, N_multiplied, N_divided, N_left_over, N_is_less, N_is_equal, N_are_both, N_is_any, N_is_instruction, N_is_target_beyond, N_are_rows, N_Code___init__, N_Code___eq__, N_Code___iter__, N_push_short, N_popped, N_do_push, N_do_load, N_do_store, N_do_fetch, N_do_put, N_do_not, N_do_drop, N_do_copy, N_do_jump, N_do_unless, N_do_wait, N_do_sign, N_do_read, N_do_write, N_do_barrier, N_do_send, N_do_take, N_do_input, N_do_show, N_deed_of_row, N_is_disk_pair, N_are_disk_pairs, N_is_disk, N_Computer_power_on, N_Computer___init__, N_Computer_stack, N_Computer_disk, N_Computer_waiting, N_Computer_cards, N_Computer_memory, N_Computer_hand, N_Computer_cut, N_Computer_go, N_Computer_step, N__law_bench, N__law_turn, N__law_tool, N__law_wrap, N__law_signed, N__law_popped, N__law_written, N__law_settled, N__law_awake, N__law_outside, N__law_step, N__law_piece, N__law_is_so, N__law_moment_right, N_law, ofStr_inj, ofStr_beq, String.reduceEq, decide_true, decide_false, Bool.or_false, Bool.or_true, Bool.false_or, Bool.true_or, Bool.and_true, Bool.and_false, Bool.true_and, Bool.false_and, vModN, iwE, iwEM])
def sp_stack (K : PySem.W.Frag) : VSp := fun ds μ ev Φ => ∃ c F st, ds = [.ref c] ∧ CompAt K μ c F st ∧ Φ (.tup (st.pile.map .int)) μ
theorem b_Computer_stack {P : Program} {w : World} {K : PySem.W.Frag} {mg : Str → Option Value} {base : Heap} (T : Txt w K mg) : ∀ fd, FunD K "stack" "Computer.stack" (defArgs s_Computer_stack) (defBody s_Computer_stack) (defScope s_Computer_stack) [] [] (propG K (He.ga K "Computer") "stack") fd → FnG P w K mg base CX0 1 (propG K (He.ga K "Computer") "stack") fd ["self"] (lift K [] (sp_stack K)) := by
  intro fd F
  refine fun_okD (N := N_Computer_stack) F sc_Computer_stack (fun ds μ ev Φ h => ?size) (fun cdv A outer s H E hG hr => ⟨_, (vss_one (vs_ret (ve_callTy call_tuple_of s_tuple (by rfl) T.b_tuple (by decide +kernel) (va_cons (ve_fld T.cl_Computer T.n_Computer_pile (vv 0)) va_nil)))), fun ds μ ev Φ h => ?_⟩)
  · obtain ⟨c, F, st, rfl, _⟩ := h; rfl
  · obtain ⟨c, F, st, rfl, ⟨s, hh, p, w, q, l, rfl, b⟩, k⟩ := h
    walk_at "vr"
    refine ⟨_, _, b.ins, _, rfl, ?_⟩
    exact ⟨_, seqOf_of b.p, k⟩
theorem get_Computer_stack {P : Program} {w : World} {K : PySem.W.Frag} {mg : Str → Option Value} {base : Heap} (T : Txt w K mg) : GetV P w K mg base CX0 [] 1 (propG K (He.ga K "Computer") "stack") (sp_stack K) := by
  obtain ⟨fd, F⟩ := T.f_Computer_stack
  have F2 := fun_of (st := s_Computer_stack) F
  exact ⟨fd, _, b_Computer_stack T fd F, F2.binds (ps := ["self"]) fun _ _ _ _ _ _ us hl => match us, hl with | [_], _ => rfl⟩
def sp_waiting (K : PySem.W.Frag) : VSp := fun ds μ ev Φ => ∃ c F st, ds = [.ref c] ∧ CompAt K μ c F st ∧ Φ (.tup (st.queue.map pairD)) μ
theorem b_Computer_waiting {P : Program} {w : World} {K : PySem.W.Frag} {mg : Str → Option Value} {base : Heap} (T : Txt w K mg) : ∀ fd, FunD K "waiting" "Computer.waiting" (defArgs s_Computer_waiting) (defBody s_Computer_waiting) (defScope s_Computer_waiting) [] [] (propG K (He.ga K "Computer") "waiting") fd → FnG P w K mg base CX0 1 (propG K (He.ga K "Computer") "waiting") fd ["self"] (lift K [] (sp_waiting K)) := by
  intro fd F
  refine fun_okD (N := N_Computer_waiting) F sc_Computer_waiting (fun ds μ ev Φ h => ?size) (fun cdv A outer s H E hG hr => ⟨_, (vss_one (vs_ret (ve_callTy call_tuple_of s_tuple (by rfl) T.b_tuple (by decide +kernel) (va_cons (ve_fld T.cl_Computer T.n_Computer_queue (vv 0)) va_nil)))), fun ds μ ev Φ h => ?_⟩)
  · obtain ⟨c, F, st, rfl, _⟩ := h; rfl
  · obtain ⟨c, F, st, rfl, ⟨s, hh, p, w, q, l, rfl, b⟩, k⟩ := h
    walk_at "vr"
    refine ⟨_, _, b.ins, _, rfl, ?_⟩
    exact ⟨_, seqOf_of b.q, k⟩
theorem get_Computer_waiting {P : Program} {w : World} {K : PySem.W.Frag} {mg : Str → Option Value} {base : Heap} (T : Txt w K mg) : GetV P w K mg base CX0 [] 1 (propG K (He.ga K "Computer") "waiting") (sp_waiting K) := by
  obtain ⟨fd, F⟩ := T.f_Computer_waiting
  have F2 := fun_of (st := s_Computer_waiting) F
  exact ⟨fd, _, b_Computer_waiting T fd F, F2.binds (ps := ["self"]) fun _ _ _ _ _ _ us hl => match us, hl with | [_], _ => rfl⟩
def diskOf (xs : List Int) : List (Int × Int) := (xs.zipIdx.map fun p => ((p.2 : Int), p.1)).filter fun p => decide (p.2 ≠ 0)
def diskOk : D → Bool
  | .tup [_, .int v] => decide (v ≠ 0)
  | _ => false
theorem disk_filt (xs : List Int) : (enumD (xs.map .int)).filter diskOk = (diskOf xs).map pairD := by
  unfold enumD diskOf
  rw [List.zipIdx_map, List.map_map, List.filter_map, List.filter_map, List.map_map]
  rfl
def sp_disk (K : PySem.W.Frag) : VSp := fun ds μ ev Φ => ∃ c F st, ds = [.ref c] ∧ CompAt K μ c F st ∧ st.Ok ∧ Φ (.tup ((diskOf st.settled).map pairD)) μ
theorem b_Computer_disk {P : Program} {w : World} {K : PySem.W.Frag} {mg : Str → Option Value} {base : Heap} (T : Txt w K mg) : ∀ fd, FunD K "disk" "Computer.disk" (defArgs s_Computer_disk) (defBody s_Computer_disk) (defScope s_Computer_disk) [] [] (propG K (He.ga K "Computer") "disk") fd → FnG P w K mg base CX0 1 (propG K (He.ga K "Computer") "disk") fd ["self"] (lift K [] (sp_disk K)) := by
  intro fd F
  refine fun_okD (N := N_Computer_disk) F sc_Computer_disk (fun ds μ ev Φ h => ?size) (fun cdv A outer s H E hG hr => ⟨_, (vss_one (vs_ret (ve_callTy call_tuple_of s_tuple (by rfl) T.b_tuple (by decide +kernel) (va_cons (ve_z (ve_lc (own := [("address", 1), ("short", 2)]) (p := (.tup [(.name 1), (.name 2)])) rfl sc_Computer_disk.nd (vi_enumM (by rfl) T.b_enumerate (va_cons (ve_fld T.cl_Computer T.n_Computer_settled (vv 0)) va_nil)) (blkOk_by (N := N_Computer_disk) (sc := defScope s_Computer_disk) (by decide +kernel)) (fun _ _ _ _ _ => pg_tup (n := 2) rfl (pgs_cons (pg_name (i := 1) sc_Computer_disk.nd rfl (Or.inl rfl)) (pgs_cons (pg_name (i := 2) sc_Computer_disk.nd rfl (Or.inl rfl)) pgs_nil))) (fun _ _ _ _ _ => (vts_one (vt_cmp (op_neA hr.units) s_ne (vv 2) ve_int (nomark _)))) (fun _ _ _ _ _ => (ve_tup (va_cons (vv 1) (va_cons (vv 2) va_nil)))) (by decide))) va_nil)))), fun ds μ ev Φ h => ?_⟩)
  · obtain ⟨c, F, st, rfl, _⟩ := h; rfl
  · obtain ⟨c, F, st, rfl, ⟨s, hh, p, w, q, l, rfl, b⟩, ok, k⟩ := h
    walk_at "wr"
    refine ⟨_, _, b.ins, _, rfl, ?_⟩
    refine ⟨s, rfl, _, b.s, ?_⟩
    refine lcf diskOk id (by unfold enumD; rw [List.length_map, List.length_zipIdx, List.length_map, ok.s]; exact sizeOk (by decide)) (fun Ds l nD => ?_) (fun d hd => ?_) fun Ds nD => ?_
    · rw [Mu.ne fun e => by rw [← e, b.s] at nD; cases nD]; exact b.s
    · obtain ⟨i, hi⟩ := List.mem_iff_getElem?.mp hd
      obtain ⟨x, hx, rfl⟩ := enumD_get hi
      rw [List.getElem?_map] at hx
      obtain ⟨v, hv, rfl⟩ := Option.map_eq_some_iff.mp hx
      refine ⟨_, rfl, fun Ds l nD => ⟨fun Ψ q => ?_, fun _ Ψ q => ?_⟩⟩
      · walk_at "wr"
        have e : diskOk (.tup [.int (i : Nat), .int v]) = !decide (v = 0) := by simp [diskOk]
        rw [e] at q
        exact q
      · walk_at "wr"
        exact ⟨sizeOk (by decide), q⟩
    · refine ⟨Ds, rfl, _, frzOf_lst Mu.same, _, rfl, ?_⟩
      rw [Mu.del_set nD, List.map_id, disk_filt]
      exact k
theorem get_Computer_disk {P : Program} {w : World} {K : PySem.W.Frag} {mg : Str → Option Value} {base : Heap} (T : Txt w K mg) : GetV P w K mg base CX0 [] 1 (propG K (He.ga K "Computer") "disk") (sp_disk K) := by
  obtain ⟨fd, F⟩ := T.f_Computer_disk
  have F2 := fun_of (st := s_Computer_disk) F
  exact ⟨fd, _, b_Computer_disk T fd F, F2.binds (ps := ["self"]) fun _ _ _ _ _ _ us hl => match us, hl with | [_], _ => rfl⟩
def sp_memory (K : PySem.W.Frag) : VSp := fun ds μ ev Φ => ∃ (v : D) (c : Addr) (F : List Addr) (st : CS), ds = [.ref c, v] ∧ Kd μ v ∧ CompAt K μ c F st ∧ st.Ok ∧
  ((within v (some 0) (some 999) = false ∧ ev (He.ga K "BadNumber") ["part"] [.str "address"] μ) ∨ ∃ n : Nat, v = .int n ∧ n < 1000 ∧ Φ (.int (st.held.getD n 0)) μ)
theorem b_Computer_memory {P : Program} {w : World} {K : PySem.W.Frag} {mg : Str → Option Value} {base : Heap} (T : Txt w K mg) : ∀ fd, FunD K "memory" "Computer.memory" (defArgs s_Computer_memory) (defBody s_Computer_memory) (defScope s_Computer_memory) [] [] (He.ma K (He.ga K "Computer") "memory") fd → FnG P w K mg base (L2.CX P w) 3 (He.ma K (He.ga K "Computer") "memory") fd ["self", "address"] (lift K [] (sp_memory K)) := by
  intro fd F
  refine fun_okD (N := N_Computer_memory) F sc_Computer_memory (fun ds μ ev Φ h => ?size) (fun cdv A outer s H E hG hr => ⟨_, (vss_cons (vs_if (vt_not (vt_val (ve_call T.g_is_within (c_is_within_3 T) hG hr (by decide) pass0 sel_0 rfl (va_cons (vv 1) (va_cons ve_int (va_cons (ve_op op_sub s_sub (ve_gc rfl T.g_MOST_MEMORY fun _ _ => .int _) ve_int) va_nil))) vk_nil)))
 (vss_one (vs_raise T.x_BadNumber rfl (hr.mono (by decide)) (takes_of rfl rfl rfl rfl) (va_cons ve_str va_nil) rfl))
 vss_nil)
 (vss_one (vs_ret (ve_ix ix_seq s_ix (ve_fld T.cl_Computer T.n_Computer_held (vv 0)) (vv 1))))), fun ds μ ev Φ h => ?_⟩)
  · obtain ⟨v, c, F, st, rfl, _⟩ := h; rfl
  · obtain ⟨v, c, F, st, rfl, kd, ⟨s, hh, p, w, q, l, rfl, b⟩, ok, k⟩ := h
    walk_at "vr"
    refine ⟨v, some 0, some 999, rfl, kd, ?_⟩
    rcases k with ⟨hw, k⟩ | ⟨n, rfl, hn, k⟩
    · rw [hw]
      walk_at "vr"
      exact ⟨_, rfl, k⟩
    have e : within (.int (n : Int)) (some 0) (some 999) = true := by simp [within]; omega
    rw [e]
    walk_at "vr"
    refine ⟨_, _, b.ins, _, rfl, ?_⟩
    simp only [vIx_iff (seqOf_of b.h)]
    refine ⟨.int (st.held.getD n 0), atI_nat ?_, k⟩
    have : n < st.held.length := by rw [ok.h]; exact hn
    simp [List.getElem?_eq_getElem this]
theorem c_Computer_memory_2 {P : Program} {w : World} {K : PySem.W.Frag} {mg : Str → Option Value} {base : Heap} (T : Txt w K mg) : CanV P w K mg base (L2.CX P w) [] 3 (He.ma K (He.ga K "Computer") "memory") 2 [] ([.inl 0, .inl 1].map (toArg [] [])) (sp_memory K) :=
  canV_of (ps := ["self", "address"]) [.inl 0, .inl 1] T.f_Computer_memory (b_Computer_memory T) (fun _ _ _ _ _ _ us ws h1 h2 => match us, ws, h1, h2 with | [_, _], [], _, _ => rfl) (by decide)
/-- a step begins -/
def fetchS (st : CS) (g : Int) (n : Nat) : CS := { st with given := g, at_ := (n : Int) + 1 }
def sp_go (P : Program) (w : World) (K : PySem.W.Frag) (mg : Str → Option Value) (base : Heap) : VSp := fun ds μ ev Φ => ∃ (gv : Int) (c : Addr) (F : List Addr) (st : CS) (n : Nat), ds = [.ref c, .int gv, .int 1] ∧ Sh gv ∧ CompAt K μ c F st ∧ st.Ok ∧ st.at_ = (n : Int) ∧
  ((n = st.code.length ∧ ∀ μ' F', Kp F μ μ' → Nw F F' μ → CompAt K μ' c F' { st with given := gv } → Φ (.tup [.int 1, .tup [.str "waits"]]) μ') ∨
   ∃ i g, st.code[n]? = some i ∧ deedOk P w K mg base i g ∧ ((g (fetchS st gv n)).1 = .non ∨ ∃ es, (g (fetchS st gv n)).1 = .tup es) ∧ ∀ μ' F', Kp F μ μ' → Nw F F' μ → CompAt K μ' c F' (g (fetchS st gv n)).2 → Φ (.tup [.int 1, (g (fetchS st gv n)).1]) μ')
theorem b_Computer_go {P : Program} {w : World} {K : PySem.W.Frag} {mg : Str → Option Value} {base : Heap} (T : Txt w K mg) : ∀ fd, FunD K "go" "Computer.go" (defArgs s_Computer_go) (defBody s_Computer_go) (defScope s_Computer_go) [] [] (He.ma K (He.ga K "Computer") "go") fd → FnG P w K mg base CX0 4 (He.ma K (He.ga K "Computer") "go") fd ["self", "given", "most"] (lift K [] (sp_go P w K mg base)) := by
  intro fd F
  refine fun_okD (N := N_Computer_go) F sc_Computer_go (fun ds μ ev Φ h => ?size) (fun cdv A outer s H E hG hr => ⟨_, (vss_cons (vs_fld T.cl_Computer T.n_Computer_given (vv 0) (vv 1))
 (vss_cons (vs_set (i := 3) sc_Computer_go.nd rfl (Or.inl rfl) ve_int)
 (vss_cons (vs_while (passes_of rfl) (vt_cmp op_lt s_lt (vv 3) (vv 2) (nomark _))
 (vss_cons (vs_aug (i := 3) sc_Computer_go.nd rfl (Or.inl rfl) (inop iop_add) s_add ve_int)
 (vss_cons (vs_if (vt_cmp (op_eqA hr.units) s_eq (ve_fld T.cl_Computer T.n_Computer_at (vv 0)) (ve_callB call_lenA s_len (by rfl) T.b_len (by decide +kernel) (va_cons (ve_fld T.cl_Computer T.n_Computer_deeds (vv 0)) va_nil)) (nomark _))
 (vss_one (vs_ret (ve_tup (va_cons (vv 3) (va_cons (ve_tup (va_cons ve_str va_nil)) va_nil)))))
 vss_nil)
 (vss_cons (vs_asg (ve_ix ix_seq s_ix (ve_fld T.cl_Computer T.n_Computer_deeds (vv 0)) (ve_fld T.cl_Computer T.n_Computer_at (vv 0))) (vg_tup (fun _ h => pg_tup (n := 2) rfl h) (vgs_cons (vg_name (i := 4) sc_Computer_go.nd rfl (Or.inl rfl)) (vgs_cons (vg_name (i := 5) sc_Computer_go.nd rfl (Or.inl rfl)) vgs_nil))))
 (vss_cons (vs_augf T.cl_Computer T.n_Computer_at (inop iop_add) s_add (vv 0) ve_int)
 (vss_cons (vs_set (i := 6) sc_Computer_go.nd rfl (Or.inl rfl) (ve_held (i := 4) (k := 3) (n := 2) hG (hr.mono (by decide)) rfl (Or.inl rfl) (va_cons (vv 0) (va_cons (vv 5) va_nil))))
 (vss_one (vs_if (vt_notN (vv 6))
 (vss_one (vs_ret (ve_tup (va_cons (vv 3) (va_cons (vv 6) va_nil)))))
 vss_nil))))))))
 (vss_one (vs_ret (ve_tup (va_cons (vv 3) (va_cons ve_non va_nil)))))))), fun ds μ ev Φ h => ?_⟩)
  · obtain ⟨gv, c, F, st, n, rfl, _⟩ := h; rfl
  · obtain ⟨gv, c, F, st, n, rfl, hgv, ⟨s, hh, p, w, q, l, rfl, b⟩, ok, hat, k⟩ := h
    walk_at "vr"
    have b1 := b.setC (st' := { st with given := gv }) ⟨rfl, rfl, rfl, rfl, rfl, rfl⟩
    have k1 : Kp [c, s, hh, p, w, q, l] μ (μ.set c (.ins (cComp K) compNs (compFs K { st with given := gv } s hh p w q l))) := Kp.set (.head _)
    refine ⟨_, _, b.c, by decide, fun m ρ μ' => (m = 2 ∧ ρ = [some (.ref c), some (.int gv), some (.int 1), some (.int 0), none, none, none] ∧ μ' = μ.set c (.ins (cComp K) compNs (compFs K { st with given := gv } s hh p w q l))) ∨
      (m = 1 ∧ (∃ d x y, ρ = [some (.ref c), some (.int gv), some (.int 1), some (.int 1), d, x, y]) ∧ Φ (.tup [.int 1, .non]) μ'), ⟨2, .inl ⟨rfl, rfl, rfl⟩⟩, fun m ρ μ' hI => ?_⟩
    rcases hI with ⟨rfl, rfl, rfl⟩ | ⟨rfl, ⟨d, x, y, rfl⟩, q⟩
    · generalize hμ : μ.set c (.ins (cComp K) compNs (compFs K { st with given := gv } s hh p w q l)) = μ1 at b1 k1 ⊢
      walk_at "vr"
      rw [if_pos (by decide)]
      try walk_at "vr"
      refine ⟨_, _, b1.ins, _, rfl, _, _, b1.ins, _, rfl, ?_⟩
      try walk_at "vr"
      rcases k with ⟨hn, kk⟩ | ⟨i, g, hi, ⟨f, x, sp, ed, held, run⟩, hg, kk⟩
      · rw [if_pos (by simp [hat, hn])]
        exact ⟨sizeOk (by decide), sizeOk (by decide), kk _ _ k1 Nw.refl ⟨s, hh, p, w, q, l, rfl, b1⟩⟩
      · have hlt : n < st.code.length := (List.getElem?_eq_some_iff.mp hi).1
        rw [if_neg (by simp [hat]; omega)]
        refine ⟨_, _, b1.ins, _, rfl, _, _, b1.ins, _, rfl, ?_⟩
        rw [vIx_iff (ds := st.code.map (deedD K)) rfl, hat]
        refine ⟨.tup [.ref f, x], atI_nat (by rw [List.getElem?_map, hi, ← ed]; rfl), ?_⟩
        walk_at "vr"
        refine ⟨_, _, ⟨rfl, rfl⟩, _, _, rfl, rfl, ?_⟩
        walk_at "vr"
        have e2 : ({ st with given := gv, at_ := st.at_ + 1 } : CS) = fetchS st gv n := by unfold fetchS; rw [hat]
        rw [← e2] at kk hg
        have b2 := b1.setC (st' := { st with given := gv, at_ := st.at_ + 1 }) ⟨rfl, rfl, rfl, rfl, rfl, rfl⟩
        refine ⟨_, _, b1.c, _, rfl, _, rfl, _, _, b1.c, by decide, sp, held, ?_⟩
        refine run _ c [c, s, hh, p, w, q, l] { st with given := gv, at_ := st.at_ + 1 } _ ⟨s, hh, p, w, q, l, rfl, b2⟩ ((ok.given_ hgv).at_ _) fun μ' F' k2 n2 hC2 => ?_
        have k12 := k1.trans Nw.refl ((Kp.set (List.mem_cons_self ..)).trans Nw.refl k2)
        have n12 : Nw [c, s, hh, p, w, q, l] F' μ := Nw.refl.trans k1 (Nw.refl.trans (Kp.set (List.mem_cons_self ..)) n2)
        have q := kk μ' F' k12 n12 hC2
        rcases hg with hg | ⟨es, hg⟩
        · rw [hg] at q ⊢
          rw [if_neg (by decide)]
          exact ⟨1, by decide, .inr ⟨rfl, rfl, q⟩⟩
        · rw [hg] at q ⊢
          rw [if_pos (show (!VL.isNon (D.tup es)) = true from rfl)]
          exact ⟨sizeOk (by decide), q⟩
    · walk_at "vr"
      rw [if_neg (by decide)]
      try walk_at "vr"
      exact ⟨sizeOk (by decide), q⟩
theorem c_Computer_go_3 {P : Program} {w : World} {K : PySem.W.Frag} {mg : Str → Option Value} {base : Heap} (T : Txt w K mg) : CanV P w K mg base CX0 [] 4 (He.ma K (He.ga K "Computer") "go") 3 [] ([.inl 0, .inl 1, .inl 2].map (toArg [] [])) (sp_go P w K mg base) :=
  canV_of (ps := ["self", "given", "most"]) [.inl 0, .inl 1, .inl 2] T.f_Computer_go (b_Computer_go T) (fun _ _ _ _ _ _ us ws h1 h2 => match us, ws, h1, h2 with | [_, _, _], [], _, _ => rfl) (by decide)
def sp_step (P : Program) (w : World) (K : PySem.W.Frag) (mg : Str → Option Value) (base : Heap) : VSp := fun ds μ ev Φ => (∃ (c : Addr) (v : D), ds = [.ref c, v] ∧ Kd μ v ∧ isSh v = false ∧ ev (He.ga K "BadNumber") ["part"] [.str "given"] μ) ∨
  ∃ (gv : Int) (c : Addr) (F : List Addr) (st : CS) (n : Nat), ds = [.ref c, .int gv] ∧ Sh gv ∧ CompAt K μ c F st ∧ st.Ok ∧ st.at_ = (n : Int) ∧
  ((n = st.code.length ∧ ∀ μ' F', Kp F μ μ' → Nw F F' μ → CompAt K μ' c F' { st with given := gv } → Φ (.tup [.str "waits"]) μ') ∨
   ∃ i g, st.code[n]? = some i ∧ deedOk P w K mg base i g ∧ ((g (fetchS st gv n)).1 = .non ∨ ∃ es, (g (fetchS st gv n)).1 = .tup es) ∧ ∀ μ' F', Kp F μ μ' → Nw F F' μ → CompAt K μ' c F' (g (fetchS st gv n)).2 → Φ (g (fetchS st gv n)).1 μ')
theorem b_Computer_step {P : Program} {w : World} {K : PySem.W.Frag} {mg : Str → Option Value} {base : Heap} (T : Txt w K mg) : ∀ fd, FunD K "step" "Computer.step" (defArgs s_Computer_step) (defBody s_Computer_step) (defScope s_Computer_step) [] [] (He.ma K (He.ga K "Computer") "step") fd → FnG P w K mg base (L2.CX P w) 5 (He.ma K (He.ga K "Computer") "step") fd ["self", "given"] (lift K [] (sp_step P w K mg base)) := by
  intro fd F
  refine fun_okD (N := N_Computer_step) F sc_Computer_step (fun ds μ ev Φ h => ?size) (fun cdv A outer s H E hG hr => ⟨_, (vss_cons (vs_if (vt_not (vt_val (ve_call T.g_is_short (c_is_short_1 T) hG hr (by decide) pass0 sel_0 rfl (va_cons (vv 1) va_nil) vk_nil)))
 (vss_one (vs_raise T.x_BadNumber rfl (hr.mono (by decide)) (takes_of rfl rfl rfl rfl) (va_cons ve_str va_nil) rfl))
 vss_nil)
 (vss_one (vs_ret (ve_ix ix_seq s_ix (ve_meth T.cl_Computer T.m_Computer_go (c_Computer_go_3 T) hG hr (by decide) pass0 sel_0 (vv 0) (va_cons (vv 1) (va_cons ve_int va_nil)) vk_nil) ve_int)))), fun ds μ ev Φ h => ?_⟩)
  · rcases h with ⟨c, v, rfl, _⟩ | ⟨gv, c, F, st, n, rfl, _⟩ <;> rfl
  · rcases h with ⟨c, v, rfl, kd, hs, k⟩ | h
    · walk_at "vr"
      refine ⟨v, rfl, kd, ?_⟩
      rw [hs]
      walk_at "vr"
      exact ⟨_, rfl, k⟩
    obtain ⟨gv, c, F, st, n, rfl, ⟨g1, g2⟩, hC, ok, hat, k⟩ := h
    have hC' := hC
    obtain ⟨s, hh, p, w, q, l, rfl, b⟩ := hC'
    walk_at "vr"
    refine ⟨.int gv, rfl, ⟨_, rfl⟩, ?_⟩
    have e : isSh (.int gv) = true := by simp [isSh, within]; omega
    rw [e]
    walk_at "vr"
    refine ⟨_, _, b.ins, by decide, gv, c, _, st, n, rfl, ⟨g1, g2⟩, hC, ok, hat, ?_⟩
    rcases k with ⟨hn, kk⟩ | ⟨i, g, hi, dk, hg, kk⟩
    · refine .inl ⟨hn, fun μ' F' k1 n1 hC1 => ?_⟩
      walk_at "vr"
      exact kk μ' F' k1 n1 hC1
    · refine .inr ⟨i, g, hi, dk, hg, fun μ' F' k1 n1 hC1 => ?_⟩
      walk_at "vr"
      exact kk μ' F' k1 n1 hC1
theorem c_Computer_step_2 {P : Program} {w : World} {K : PySem.W.Frag} {mg : Str → Option Value} {base : Heap} (T : Txt w K mg) : CanV P w K mg base (L2.CX P w) [] 5 (He.ma K (He.ga K "Computer") "step") 2 [] ([.inl 0, .inl 1].map (toArg [] [])) (sp_step P w K mg base) :=
  canV_of (ps := ["self", "given"]) [.inl 0, .inl 1] T.f_Computer_step (b_Computer_step T) (fun _ _ _ _ _ _ us ws h1 h2 => match us, ws, h1, h2 with | [_, _], [], _, _ => rfl) (by decide)
end K25

set_option maxRecDepth 100000
set_option maxHeartbeats 4000000
namespace K25
open PySem L2 FW VL
local macro_rules | `(tactic| walk_at "vr") => `(tactic| simp only [wLenSet, wFor, wSetF, wAugF, wAug, wBM, wProp, wHeld, wVar, wC, wZ, wOp, wUn, wNil, wCons, wStar, wCB, wTup, wLst, wLstM, wTest, wAnd, wOr, VL.wNot, wAndV, wOrV, wNotV, wIf, wChain, wNoPart, wPart, wSl, wName, wGNil, wGCons, wGTup, wSub, wNext, VL.wSeq, wAsg, wDrop, wRet, wRetN, wIfS, wBreak, wCont, wPar, vI0, vI, vU, vAdd, vSub, vMul, vMod, vFdiv, vPow, vLt, vLe, vGt, vGe, vNeg, vIsN, vNotN, vAddA, vMulA, VL.wTru, iwL, iwT, wLc, vstart, List.map_cons, List.map_nil, List.cons_append, List.nil_append, List.set_cons_zero, List.set_cons_succ, List.getElem?_cons_zero, List.getElem?_cons_succ, Option.some.injEq, exists_eq_left, exists_eq_left', exists_eq', D.bl.injEq, D.int.injEq, D.str.injEq, D.tup.injEq, D.ref.injEq, List.cons.injEq, and_true, true_and, List.length_cons, List.length_nil, List.replicate, D.ty.injEq, exists_and_left, List.length, Nat.reduceAdd, wCall, wMake, wMeth, wFld, argsD, argD, toArg, List.getD_cons_zero, List.getD_cons_succ, List.map, iwS, vTupOf, Bool.false_eq_true, if_false, if_true, reduceIte, List.getElem?_nil, Nat.reduceSub, wipeR, vLen_lst, vLen_tup, vEq_ii, vEq_ss, vEq_bb, vIx_lst, vIx_tup, vIn_strs, vIn_s2, vIn_s3, vAll_map, vInK_s, vIxK_s, vInt_i, vAbs_i, atI_0, atI_1, atI_2, Bool.not_true, Bool.not_false, seqOf_lst, seqOf_tup, lstOf_lst, tupOf_tup, fzL_lst, N_is_list, N_is_integer, N_is_within, N_is_short, N_are_shorts, N_are_integers, N_is_lot, N_fixed, N_short_of, N_added, N_taken_from, N_multiplied, N_divided, N_left_over, N_is_less, N_is_equal, N_are_both, N_is_any, N_is_instruction, N_is_target_beyond, N_are_rows, N_Code___init__, N_Code___eq__, N_Code___iter__, N_push_short, N_popped, N_do_push, N_do_load, N_do_store, N_do_fetch, N_do_put, N_do_not, N_do_drop, N_do_copy, N_do_jump, N_do_unless, N_do_wait, N_do_sign, N_do_read, N_do_write, N_do_barrier, N_do_send, N_do_take, N_do_input, N_do_show, N_deed_of_row, N_is_disk_pair, N_are_disk_pairs, N_is_disk, N_Computer_power_on, N_Computer___init__, N_Computer_stack, N_Computer_disk, N_Computer_waiting, N_Computer_cards, N_Computer_memory, N_Computer_hand, N_Computer_cut, N_Computer_go, N_Computer_step, N__law_bench, N__law_turn, N__law_tool, N__law_wrap, N__law_signed, N__law_popped, N__law_written, N__law_settled, N__law_awake, N__law_outside, N__law_step, N__law_piece, N__law_is_so, N__law_moment_right, N_law])
local macro_rules | `(tactic| walk_at "wr") => `(tactic| simp only [vInt_bl, iwR1, iwR2, iwM, List.set_cons_succ, wLenSet, wFor, wSetF, wAugF, wAug, wBM, wProp, wHeld, wVar, wC, wZ, wOp, wUn, wNil, wCons, wStar, wCB, wTup, wLst, wLstM, wTest, wAnd, wOr, VL.wNot, wAndV, wOrV, wNotV, wIf, wChain, wNoPart, wPart, wSl, wName, wGNil, wGCons, wGTup, wSub, wNext, VL.wSeq, wAsg, wDrop, wRet, wRetN, wIfS, wBreak, wCont, wPar, vI0, vI, vU, vAdd, vSub, vMul, vMod, vFdiv, vPow, vLt, vLe, vGt, vGe, vNeg, vIsN, vNotN, vAddA_ii, vMulA_ii, VL.wTru, iwL, iwT, wLc, vstart, List.map_cons, List.map_nil, List.cons_append, List.nil_append, List.set_cons_zero, List.set_cons_succ, List.getElem?_cons_zero, List.getElem?_cons_succ, Option.some.injEq, exists_eq_left, exists_eq_left', exists_eq', D.bl.injEq, D.int.injEq, D.str.injEq, D.tup.injEq, D.ref.injEq, List.cons.injEq, and_true, true_and, List.length_cons, List.length_nil, List.replicate, D.ty.injEq, exists_and_left, List.length, Nat.reduceAdd, wCall, wMake, wMeth, wFld, argsD, argD, toArg, List.getD_cons_zero, List.getD_cons_succ, List.map, iwS, vTupOf, Bool.false_eq_true, if_false, if_true, reduceIte, List.getElem?_nil, Nat.reduceSub, wipeR, vLen_lst, vLen_tup, vEq_ii, vEq_ss, vEq_bb, vIx_lst, vIx_tup, vIn_strs, vIn_s2, vIn_s3, vAll_map, vInK_s, vIxK_s, vInt_i, vAbs_i, atI_0, atI_1, atI_2, Bool.not_true, Bool.not_false, seqOf_lst, seqOf_tup, lstOf_lst, tupOf_tup, fzL_lst, N_is_list, N_is_integer, N_is_within, N_is_short, N_are_shorts, N_are_integers, N_is_lot, N_fixed, N_short_of, N_added, N_taken_from, N_multiplied, N_divided, N_left_over, N_is_less, N_is_equal, N_are_both, N_is_any, N_is_instruction, N_is_target_beyond, N_are_rows, N_Code___init__, N_Code___eq__, N_Code___iter__, N_push_short, N_popped, N_do_push, N_do_load, N_do_store, N_do_fetch, N_do_put, N_do_not, N_do_drop, N_do_copy, N_do_jump, N_do_unless, N_do_wait, N_do_sign, N_do_read, N_do_write, N_do_barrier, N_do_send, N_do_take, N_do_input, N_do_show, N_deed_of_row, N_is_disk_pair, N_are_disk_pairs, N_is_disk, N_Computer_power_on, N_Computer___init__, N_Computer_stack, N_Computer_disk, N_Computer_waiting, N_Computer_cards, N_Computer_memory, N_Computer_hand, N_Computer_cut, N_Computer_go, N_Computer_step, N__law_bench, N__law_turn, N__law_tool, N__law_wrap, N__law_signed, N__law_popped, N__law_written, N__law_settled, N__law_awake, N__law_outside, N__law_step, N__law_piece, N__law_is_so, N__law_moment_right, N_law, ofStr_inj, ofStr_beq, String.reduceEq, decide_true, decide_false, Bool.or_false, Bool.or_true, Bool.false_or, Bool.true_or, Bool.and_true, Bool.and_false, Bool.true_and, Bool.false_and, vModN, iwE, iwEM])
local macro_rules | `(tactic| walk_at "frz") => `(tactic| ((try walk_at "vr"); refine ⟨_, frzOf_lst Mu.same, ?_⟩; rw [Mu.del_set (by assumption)]))
/-! ### letters, keyboard, screen -/
theorem CompB.setL {K : PySem.W.Frag} {μ : Mu} {c s h p w q l : Addr} {st : CS} (b : CompB K μ c s h p w q l st) (xs : List (Option (Int × Int × Int))) : CompB K (μ.set l (.lst (xs.map letD))) c s h p w q l { st with laid := xs } := by
  have nd := b.nd
  simp only [List.nodup_cons, List.mem_cons, List.not_mem_nil, or_false, not_or] at nd
  obtain ⟨⟨n1, n2, n3, n4, n5, n6⟩, ⟨n7, n8, n9, n10, n11⟩, ⟨n12, n13, n14, n15⟩, ⟨n16, n17, n18⟩, ⟨n19, n20⟩, n21, _⟩ := nd
  exact ⟨b.nd, by rw [Mu.ne n6]; exact b.c, by rw [Mu.ne n11]; exact b.s, by rw [Mu.ne n15]; exact b.h, by rw [Mu.ne n18]; exact b.p, by rw [Mu.ne n20]; exact b.w, by rw [Mu.ne n21]; exact b.q, Mu.same⟩
theorem CS.Ok.laid_ {st : CS} (h : st.Ok) {n : Nat} {x : Option (Int × Int × Int)} (hx : ∀ p, x = some p → Sh p.1 ∧ Sh p.2.1 ∧ Sh p.2.2) : ({ st with laid := st.laid.set n x } : CS).Ok := ⟨h.p, h.h, h.s, h.w, by rw [List.length_set]; exact h.l, h.q, h.ps, h.hs, h.ss, h.ws, h.qs, fun p hp => by
  rcases List.mem_or_eq_of_mem_set hp with h1 | h1
  · exact h.ls p h1
  · exact hx p h1.symm, h.gs⟩
def sp_do_input (K : PySem.W.Frag) : VSp := fun ds μ ev Φ => ∃ x, spG K (fun st => (.tup [.str "typed", .int st.given], push st st.given)) [x] ds μ ev Φ
theorem b_do_input {P : Program} {w : World} {K : PySem.W.Frag} {mg : Str → Option Value} {base : Heap} (T : Txt w K mg) : ∀ fd, FunD K "do_input" "do_input" (defArgs s_do_input) (defBody s_do_input) (defScope s_do_input) [] [] (He.ga K "do_input") fd → FnG P w K mg base CX0 2 (He.ga K "do_input") fd ["computer", "_"] (lift K [] (sp_do_input K)) := by
  intro fd F
  refine fun_okD (N := N_do_input) F sc_do_input (fun ds μ ev Φ h => ?size) (fun cdv A outer s H E hG hr => ⟨_, (vss_cons (vs_expr (ve_call T.g_push_short (c_push_short_2 T) hG hr (by decide) pass0 sel_0 rfl (va_cons (vv 0) (va_cons (ve_fld T.cl_Computer T.n_Computer_given (vv 0)) va_nil)) vk_nil))
 (vss_one (vs_ret (ve_tup (va_cons ve_str (va_cons (ve_fld T.cl_Computer T.n_Computer_given (vv 0)) va_nil)))))), fun ds μ ev Φ h => ?_⟩)
  · obtain ⟨n, c, F, st, rfl, _⟩ := h; rfl
  · obtain ⟨n, c, F, st, rfl, hC, ok, k⟩ := h
    have hC' := hC
    obtain ⟨s, hh, p, w, q, l, rfl, b⟩ := hC'
    walk_at "wr"
    refine ⟨_, _, b.ins, _, rfl, into_push hC ok fun μ1 F1 k1 n1 hC1 => ?_⟩
    have hC1' := hC1
    obtain ⟨s1, hh1, p1, w1, q1, l1, rfl, b1⟩ := hC1'
    have hg : (push st st.given).given = st.given := by unfold push; split <;> rfl
    refine ⟨_, _, b1.ins, _, rfl, sizeOk (by decide), ?_⟩
    show Φ (.tup [.str "typed", .int (push st st.given).given]) μ1
    rw [hg]
    exact k μ1 _ k1 n1 hC1
def sp_do_show (K : PySem.W.Frag) : VSp := fun ds μ ev Φ => ∃ x, spG K (fun st => (.tup [.str "shown", .int (popV st), .int (popV (popS st))], popS (popS st))) [x] ds μ ev Φ
theorem b_do_show {P : Program} {w : World} {K : PySem.W.Frag} {mg : Str → Option Value} {base : Heap} (T : Txt w K mg) : ∀ fd, FunD K "do_show" "do_show" (defArgs s_do_show) (defBody s_do_show) (defScope s_do_show) [] [] (He.ga K "do_show") fd → FnG P w K mg base CX0 2 (He.ga K "do_show") fd ["computer", "_"] (lift K [] (sp_do_show K)) := by
  intro fd F
  refine fun_okD (N := N_do_show) F sc_do_show (fun ds μ ev Φ h => ?size) (fun cdv A outer s H E hG hr => ⟨_, (vss_cons (vs_set (i := 2) sc_do_show.nd rfl (Or.inl rfl) (ve_call T.g_popped (c_popped_1 T) hG hr (by decide) pass0 sel_0 rfl (va_cons (vv 0) va_nil) vk_nil))
 (vss_cons (vs_set (i := 3) sc_do_show.nd rfl (Or.inl rfl) (ve_call T.g_popped (c_popped_1 T) hG hr (by decide) pass0 sel_0 rfl (va_cons (vv 0) va_nil) vk_nil))
 (vss_one (vs_ret (ve_tup (va_cons ve_str (va_cons (vv 2) (va_cons (vv 3) va_nil)))))))), fun ds μ ev Φ h => ?_⟩)
  · obtain ⟨n, c, F, st, rfl, _⟩ := h; rfl
  · obtain ⟨n, c, F, st, rfl, hC, ok, k⟩ := h
    walk_at "wr"
    refine into_pop hC ok fun μ1 F1 k1 n1 hC1 => ?_
    try walk_at "wr"
    refine into_pop hC1 (pop_ok ok) fun μ2 F2 k2 n2 hC2 => ?_
    try walk_at "wr"
    exact ⟨sizeOk (by decide), k μ2 F2 (k1.trans n1 k2) (n1.trans k1 n2) hC2⟩
def sp_do_send (K : PySem.W.Frag) : VSp := fun ds μ ev Φ => ∃ n, spG K (fun st => (.tup [.str "sent", .int n, .tup [.int (popV (popS (popS st))), .int (popV (popS st)), .int (popV st)]], popS (popS (popS st)))) [.int n] ds μ ev Φ
theorem b_do_send {P : Program} {w : World} {K : PySem.W.Frag} {mg : Str → Option Value} {base : Heap} (T : Txt w K mg) : ∀ fd, FunD K "do_send" "do_send" (defArgs s_do_send) (defBody s_do_send) (defScope s_do_send) [] [] (He.ga K "do_send") fd → FnG P w K mg base CX0 2 (He.ga K "do_send") fd ["computer", "place"] (lift K [] (sp_do_send K)) := by
  intro fd F
  refine fun_okD (N := N_do_send) F sc_do_send (fun ds μ ev Φ h => ?size) (fun cdv A outer s H E hG hr => ⟨_, (vss_cons (vs_set (i := 2) sc_do_send.nd rfl (Or.inl rfl) (ve_call T.g_popped (c_popped_1 T) hG hr (by decide) pass0 sel_0 rfl (va_cons (vv 0) va_nil) vk_nil))
 (vss_cons (vs_set (i := 3) sc_do_send.nd rfl (Or.inl rfl) (ve_call T.g_popped (c_popped_1 T) hG hr (by decide) pass0 sel_0 rfl (va_cons (vv 0) va_nil) vk_nil))
 (vss_cons (vs_set (i := 4) sc_do_send.nd rfl (Or.inl rfl) (ve_call T.g_popped (c_popped_1 T) hG hr (by decide) pass0 sel_0 rfl (va_cons (vv 0) va_nil) vk_nil))
 (vss_one (vs_ret (ve_tup (va_cons ve_str (va_cons (vv 1) (va_cons (ve_tup (va_cons (vv 4) (va_cons (vv 3) (va_cons (vv 2) va_nil)))) va_nil))))))))), fun ds μ ev Φ h => ?_⟩)
  · obtain ⟨n, c, F, st, rfl, _⟩ := h; rfl
  · obtain ⟨n, c, F, st, rfl, hC, ok, k⟩ := h
    walk_at "wr"
    refine into_pop hC ok fun μ1 F1 k1 n1 hC1 => ?_
    try walk_at "wr"
    refine into_pop hC1 (pop_ok ok) fun μ2 F2 k2 n2 hC2 => ?_
    try walk_at "wr"
    refine into_pop hC2 (pop_ok (pop_ok ok)) fun μ3 F3 k3 n3 hC3 => ?_
    try walk_at "wr"
    have k12 := k1.trans n1 k2
    have n12 := n1.trans k1 n2
    exact ⟨sizeOk (by decide), sizeOk (by decide), k μ3 F3 (k12.trans n12 k3) (n12.trans k12 n3) hC3⟩
def takeS (st : CS) (n : Nat) : CS := match st.laid.getD n none with
  | none => push st 0
  | some (a, b, c) => push (push (push (push { st with laid := st.laid.set n none } c) b) a) 1
theorem letD_sh {st : CS} (h : st.Ok) {n : Nat} {p : Int × Int × Int} (e : st.laid.getD n none = some p) : Sh p.1 ∧ Sh p.2.1 ∧ Sh p.2.2 := by
  rw [List.getD_eq_getElem?_getD] at e
  cases e2 : st.laid[n]? with
  | none => rw [e2] at e; cases e
  | some v => rw [e2] at e; exact h.ls p (by rw [← show v = some p from e]; exact List.mem_of_getElem? e2)
theorem take_ok {st : CS} (h : st.Ok) (n : Nat) : (takeS st n).Ok := by
  unfold takeS
  split
  · exact push_ok h sh_zero
  · rename_i a b c e
    obtain ⟨h1, h2, h3⟩ := letD_sh h e
    exact push_ok (push_ok (push_ok (push_ok (h.laid_ (n := n) (x := none) nofun) h3) h2) h1) ⟨by decide, by decide⟩
def sp_do_take (K : PySem.W.Frag) : VSp := fun ds μ ev Φ => ∃ n : Nat, n < 5 ∧ spG K (fun st => (.non, takeS st n)) [.int n] ds μ ev Φ
theorem b_do_take {P : Program} {w : World} {K : PySem.W.Frag} {mg : Str → Option Value} {base : Heap} (T : Txt w K mg) : ∀ fd, FunD K "do_take" "do_take" (defArgs s_do_take) (defBody s_do_take) (defScope s_do_take) [] [] (He.ga K "do_take") fd → FnG P w K mg base CX0 2 (He.ga K "do_take") fd ["computer", "place"] (lift K [] (sp_do_take K)) := by
  intro fd F
  refine fun_okD (N := N_do_take) F sc_do_take (fun ds μ ev Φ h => ?size) (fun cdv A outer s H E hG hr => ⟨_, (vss_cons (vs_set (i := 2) sc_do_take.nd rfl (Or.inl rfl) (ve_ix ix_seq s_ix (ve_fld T.cl_Computer T.n_Computer_laid (vv 0)) (vv 1)))
 (vss_one (vs_if (vt_isN (vv 2))
 (vss_one (vs_expr (ve_call T.g_push_short (c_push_short_2 T) hG hr (by decide) pass0 sel_0 rfl (va_cons (vv 0) (va_cons ve_int va_nil)) vk_nil)))
 (vss_cons (vs_asg ve_non (vg_sub (fun _ _ h1 h2 => pg_sub h1 h2 set_list) s_setL (ve_fld T.cl_Computer T.n_Computer_laid (vv 0)) (vv 1)))
 (vss_cons (vs_expr (ve_call T.g_push_short (c_push_short_2 T) hG hr (by decide) pass0 sel_0 rfl (va_cons (vv 0) (va_cons (ve_ix ix_seq s_ix (vv 2) ve_int) va_nil)) vk_nil))
 (vss_cons (vs_expr (ve_call T.g_push_short (c_push_short_2 T) hG hr (by decide) pass0 sel_0 rfl (va_cons (vv 0) (va_cons (ve_ix ix_seq s_ix (vv 2) ve_int) va_nil)) vk_nil))
 (vss_cons (vs_expr (ve_call T.g_push_short (c_push_short_2 T) hG hr (by decide) pass0 sel_0 rfl (va_cons (vv 0) (va_cons (ve_ix ix_seq s_ix (vv 2) ve_int) va_nil)) vk_nil))
 (vss_one (vs_expr (ve_call T.g_push_short (c_push_short_2 T) hG hr (by decide) pass0 sel_0 rfl (va_cons (vv 0) (va_cons ve_int va_nil)) vk_nil)))))))))), fun ds μ ev Φ h => ?_⟩)
  · obtain ⟨n, _, c, F, st, rfl, _⟩ := h; rfl
  · obtain ⟨n, hn, c, F, st, rfl, hC, ok, k⟩ := h
    have hC' := hC
    obtain ⟨s, hh, p, w, q, l, rfl, b⟩ := hC'
    have hlt : n < st.laid.length := by rw [ok.l]; exact hn
    walk_at "vr"
    refine ⟨_, _, b.ins, _, rfl, ?_⟩
    simp only [vIx_iff (seqOf_of b.l)]
    refine ⟨letD (st.laid.getD n none), atI_nat (by rw [List.getElem?_map, List.getD_eq_getElem?_getD, List.getElem?_eq_getElem hlt]; rfl), ?_⟩
    cases e : st.laid.getD n none with
    | none =>
      have eT : takeS st n = push st 0 := by unfold takeS; rw [e]
      try walk_at "vr"
      rw [if_pos (show VL.isNon (letD none) = true from rfl)]
      refine into_push hC ok fun μ1 F1 k1 n1 hC1 => ?_
      have kk := k μ1 F1 k1 n1
      simp only [eT] at kk
      exact kk hC1
    | some p0 =>
      obtain ⟨x, y, z⟩ := p0
      obtain ⟨h1, h2, h3⟩ := letD_sh ok e
      have eT : takeS st n = push (push (push (push { st with laid := st.laid.set n none } z) y) x) 1 := by unfold takeS; rw [e]
      try walk_at "vr"
      rw [if_neg (by show ¬ VL.isNon (D.tup _) = true; exact nofun)]
      try walk_at "vr"
      refine ⟨_, _, b.ins, _, rfl, ?_⟩
      simp only [vSet_iff b.l]
      refine ⟨n, ixN_nat (by rw [List.length_map]; exact hlt), ?_⟩
      have b2 := b.setL (st.laid.set n none)
      rw [List.map_set] at b2
      have k0 : Kp [c, s, hh, p, w, q, l] μ (μ.set l (.lst ((st.laid.map letD).set n (letD none)))) := Kp.set (by simp)
      have hC0 : CompAt K (μ.set l (.lst ((st.laid.map letD).set n (letD none)))) c [c, s, hh, p, w, q, l] { st with laid := st.laid.set n none } := ⟨s, hh, p, w, q, l, rfl, b2⟩
      have ok0 := ok.laid_ (n := n) (x := none) nofun
      show _
      generalize hμ : μ.set l (.lst ((st.laid.map letD).set n (letD none))) = μ0 at k0 hC0
      have hμ' : μ.set l (.lst ((st.laid.map letD).set n .non)) = μ0 := hμ
      rw [hμ']
      simp only [letD]
      try walk_at "vr"
      refine into_push hC0 ok0 fun μ1 F1 k1 n1 hC1 => ?_
      try walk_at "vr"
      refine into_push hC1 (push_ok ok0 h3) fun μ2 F2 k2 n2 hC2 => ?_
      try walk_at "vr"
      refine into_push hC2 (push_ok (push_ok ok0 h3) h2) fun μ3 F3 k3 n3 hC3 => ?_
      try walk_at "vr"
      refine into_push hC3 (push_ok (push_ok (push_ok ok0 h3) h2) h1) fun μ4 F4 k4 n4 hC4 => ?_
      have k01 := k0.trans Nw.refl k1
      have n01 : Nw _ F1 μ := Nw.refl.trans k0 n1
      have k02 := k01.trans n01 k2
      have n02 := n01.trans k01 n2
      have k03 := k02.trans n02 k3
      have n03 := n02.trans k02 n3
      have kk := k μ4 F4 (k03.trans n03 k4) (n03.trans k03 n4)
      simp only [eT] at kk
      exact kk hC4
section
variable {P : Program} {w : World} {K : PySem.W.Frag} {mg : Str → Option Value} {base : Heap}
theorem deed_send (T : Txt w K mg) (n : Int) : deedOk P w K mg base ("send", some n) fun st => (.tup [.str "sent", .int n, .tup [.int (popV (popS (popS st))), .int (popV (popS st)), .int (popV st)]], popS (popS (popS st))) :=
  ⟨_, _, _, rfl, two T.f_do_send (b_do_send T) (by decide) (fun _ _ _ _ _ _ us ws h1 h2 => match us, ws, h1, h2 with | [_, _], [], _, _ => rfl), fun μ c F st Φ hC ok k => ⟨_, c, F, st, rfl, hC, ok, k⟩⟩
theorem deed_take (T : Txt w K mg) (n : Nat) (hn : n < 5) : deedOk P w K mg base ("take", some (n : Int)) fun st => (.non, takeS st n) :=
  ⟨_, _, _, rfl, two T.f_do_take (b_do_take T) (by decide) (fun _ _ _ _ _ _ us ws h1 h2 => match us, ws, h1, h2 with | [_, _], [], _, _ => rfl), fun μ c F st Φ hC ok k => ⟨n, hn, c, F, st, rfl, hC, ok, k⟩⟩
theorem deed_input (T : Txt w K mg) : deedOk P w K mg base ("input", none) fun st => (.tup [.str "typed", .int st.given], push st st.given) :=
  ⟨_, _, _, rfl, two T.f_do_input (b_do_input T) (by decide) (fun _ _ _ _ _ _ us ws h1 h2 => match us, ws, h1, h2 with | [_, _], [], _, _ => rfl), fun μ c F st Φ hC ok k => ⟨_, c, F, st, rfl, hC, ok, k⟩⟩
theorem deed_show (T : Txt w K mg) : deedOk P w K mg base ("show", none) fun st => (.tup [.str "shown", .int (popV st), .int (popV (popS st))], popS (popS st)) :=
  ⟨_, _, _, rfl, two T.f_do_show (b_do_show T) (by decide) (fun _ _ _ _ _ _ us ws h1 h2 => match us, ws, h1, h2 with | [_, _], [], _, _ => rfl), fun μ c F st Φ hC ok k => ⟨_, c, F, st, rfl, hC, ok, k⟩⟩
end
def sp_cards (K : PySem.W.Frag) : VSp := fun ds μ ev Φ => ∃ c F st, ds = [.ref c] ∧ CompAt K μ c F st ∧ Φ (.tup (st.laid.map letD)) μ
theorem b_Computer_cards {P : Program} {w : World} {K : PySem.W.Frag} {mg : Str → Option Value} {base : Heap} (T : Txt w K mg) : ∀ fd, FunD K "cards" "Computer.cards" (defArgs s_Computer_cards) (defBody s_Computer_cards) (defScope s_Computer_cards) [] [] (propG K (He.ga K "Computer") "cards") fd → FnG P w K mg base CX0 1 (propG K (He.ga K "Computer") "cards") fd ["self"] (lift K [] (sp_cards K)) := by
  intro fd F
  refine fun_okD (N := N_Computer_cards) F sc_Computer_cards (fun ds μ ev Φ h => ?size) (fun cdv A outer s H E hG hr => ⟨_, (vss_one (vs_ret (ve_callTy call_tuple_of s_tuple (by rfl) T.b_tuple (by decide +kernel) (va_cons (ve_fld T.cl_Computer T.n_Computer_laid (vv 0)) va_nil)))), fun ds μ ev Φ h => ?_⟩)
  · obtain ⟨c, F, st, rfl, _⟩ := h; rfl
  · obtain ⟨c, F, st, rfl, ⟨s, hh, p, w, q, l, rfl, b⟩, k⟩ := h
    walk_at "vr"
    refine ⟨_, _, b.ins, _, rfl, ?_⟩
    exact ⟨_, seqOf_of b.l, k⟩
theorem get_Computer_cards {P : Program} {w : World} {K : PySem.W.Frag} {mg : Str → Option Value} {base : Heap} (T : Txt w K mg) : GetV P w K mg base CX0 [] 1 (propG K (He.ga K "Computer") "cards") (sp_cards K) := by
  obtain ⟨fd, F⟩ := T.f_Computer_cards
  have F2 := fun_of (st := s_Computer_cards) F
  exact ⟨fd, _, b_Computer_cards T fd F, F2.binds (ps := ["self"]) fun _ _ _ _ _ _ us hl => match us, hl with | [_], _ => rfl⟩
/-- a value that may be judged as shorts -/
structure ShV (μ : Mu) (v : D) : Prop where
  kd : Kd μ v
  it : isLst μ v = true → ∃ ds, SeqA μ v ds ∧ ds.length ≤ 1000 ∧ ∀ d ∈ ds, Kd μ d
def shortsB (μ : Mu) (v : D) (m : Nat) : Bool := isLst μ v && (decide ((itemsOf μ v).length = m) && (itemsOf μ v).all isSh)
def sp_are_shorts : VSp := fun ds μ ev Φ => ∃ v m, ds = [v, .int (m : Nat)] ∧ ShV μ v ∧ Φ (.bl (shortsB μ v m)) μ
theorem b_are_shorts {P : Program} {w : World} {K : PySem.W.Frag} {mg : Str → Option Value} {base : Heap} (T : Txt w K mg) : ∀ fd, FunD K "are_shorts" "are_shorts" (defArgs s_are_shorts) (defBody s_are_shorts) (defScope s_are_shorts) [] [] (He.ga K "are_shorts") fd → FnG P w K mg base CX0 4 (He.ga K "are_shorts") fd ["value", "many"] (lift K [] (sp_are_shorts)) := by
  intro fd F
  refine fun_okD (N := N_are_shorts) F sc_are_shorts (fun ds μ ev Φ h => ?size) (fun cdv A outer s H E hG hr => ⟨_, (vss_cons (vs_if (PW.pt (vw_or (vt_not (vt_val (ve_call T.g_is_list (c_is_list_1 T) hG hr (by decide) pass0 sel_0 rfl (va_cons (vv 0) va_nil) vk_nil))) (vw_or1 (PW.pt (vw_and (vt_notN (vv 1)) (vw_and1 (vt_cmp (op_neA hr.units) s_ne (ve_callB call_lenA s_len (by rfl) T.b_len (by decide +kernel) (va_cons (vv 0) va_nil)) (vv 1) (nomark _))))))))
 (vss_one (vs_ret ve_bl))
 vss_nil)
 (vss_one (vs_ret (ve_callB (cr_all rfl) s_all (by rfl) T.b_all (by decide +kernel) (va_cons (ve_z (ve_lc (own := [("item", 2)]) (p := (.name 2)) rfl sc_are_shorts.nd (vi_any (vv 0)) (blkOk_by (N := N_are_shorts) (sc := defScope s_are_shorts) (by decide +kernel)) (fun _ _ _ _ _ => pg_name (i := 2) sc_are_shorts.nd rfl (Or.inl rfl)) (fun _ _ _ _ _ => vts_nil) (fun _ _ _ _ _ => (ve_call T.g_is_short (c_is_short_1 T) hG hr (by decide) pass0 sel_0 rfl (va_cons (vv 2) va_nil) vk_nil)) (by decide))) va_nil))))), fun ds μ ev Φ h => ?_⟩)
  · obtain ⟨v, m, rfl, _⟩ := h; rfl
  · obtain ⟨v, m, rfl, hv, q⟩ := h
    walk_at "vr"
    refine ⟨v, rfl, hv.kd, ?_⟩
    walk_at "vr"
    cases h1 : isLst μ v with
    | false =>
      have e : shortsB μ v m = false := by unfold shortsB; rw [h1]; rfl
      rw [e] at q
      exact q
    | true =>
      obtain ⟨ds, sq, hl, hit⟩ := hv.it h1
      have e : shortsB μ v m = (decide (ds.length = m) && ds.all isSh) := by unfold shortsB itemsOf; rw [h1, sq.seq]; rfl
      rw [e] at q
      simp only [Bool.not_true, Bool.false_eq_true, if_false, VL.isNon, Bool.not_false, if_true, vLen_iff (lenOf_seqOf sq.seq)]
      walk_at "vr"
      by_cases hm : ds.length = m
      · rw [if_neg (by simp [hm])]
        refine iwA_at rfl sq fun P hP => lcW_mapP (fun d => .bl (isSh d)) (sizeOk (by omega)) (fun Ds l nD => hP _ (hv.kd.set_same nD)) (fun d hd => ⟨_, rfl, fun Ds l Ψ nD q => ?_⟩) fun Ds nD => ?_
        · walk_at "vr"
          exact ⟨d, rfl, Kd.set (hit d hd) nD, q⟩
        · walk_at "frz"
          walk_at "vr"
          simpa [hm] using q
      · rw [if_pos (by simp; omega)]
        simpa [hm] using q
theorem c_are_shorts_2 {P : Program} {w : World} {K : PySem.W.Frag} {mg : Str → Option Value} {base : Heap} (T : Txt w K mg) : CanV P w K mg base CX0 [] 4 (He.ga K "are_shorts") 2 [] ([.inl 0, .inl 1].map (toArg [] [])) (sp_are_shorts) :=
  canV_of (ps := ["value", "many"]) [.inl 0, .inl 1] T.f_are_shorts (b_are_shorts T) (fun _ _ _ _ _ _ us ws h1 h2 => match us, ws, h1, h2 with | [_, _], [], _, _ => rfl) (by decide)
def sp_hand (K : PySem.W.Frag) : VSp := fun ds μ ev Φ => ∃ c F st pv lv, ds = [.ref c, pv, lv] ∧ CompAt K μ c F st ∧ CS.Ok st ∧ Kd μ pv ∧
  ((within pv (some 0) (some 4) = false ∧ ev (He.ga K "BadNumber") ["part"] [.str "place"] μ) ∨
   ∃ n : Nat, pv = .int n ∧ n < 5 ∧ ShV μ lv ∧ ((shortsB μ lv 3 = false ∧ ev (He.ga K "BadNumber") ["part"] [.str "letter"] μ) ∨
    ∃ x : Int × Int × Int, SeqA μ lv [.int x.1, .int x.2.1, .int x.2.2] ∧ shortsB μ lv 3 = true ∧ ∀ μ', Kp F μ μ' → CompAt K μ' c F { st with laid := st.laid.set n (some x) } → Φ .non μ'))
theorem b_Computer_hand {P : Program} {w : World} {K : PySem.W.Frag} {mg : Str → Option Value} {base : Heap} (T : Txt w K mg) : ∀ fd, FunD K "hand" "Computer.hand" (defArgs s_Computer_hand) (defBody s_Computer_hand) (defScope s_Computer_hand) [] [] (He.ma K (He.ga K "Computer") "hand") fd → FnG P w K mg base (L2.CX P w) 5 (He.ma K (He.ga K "Computer") "hand") fd ["self", "place", "letter"] (lift K [] (sp_hand K)) := by
  intro fd F
  refine fun_okD (N := N_Computer_hand) F sc_Computer_hand (fun ds μ ev Φ h => ?size) (fun cdv A outer s H E hG hr => ⟨_, (vss_cons (vs_if (vt_not (vt_val (ve_call T.g_is_within (c_is_within_3 T) hG hr (by decide) pass0 sel_0 rfl (va_cons (vv 1) (va_cons ve_int (va_cons (ve_op op_sub s_sub (ve_gc rfl T.g_MOST_CARDS fun _ _ => .int _) ve_int) va_nil))) vk_nil)))
 (vss_one (vs_raise T.x_BadNumber rfl (hr.mono (by decide)) (takes_of rfl rfl rfl rfl) (va_cons ve_str va_nil) rfl))
 vss_nil)
 (vss_cons (vs_if (vt_not (vt_val (ve_call T.g_are_shorts (c_are_shorts_2 T) hG hr (by decide) pass0 sel_0 rfl (va_cons (vv 2) (va_cons ve_int va_nil)) vk_nil)))
 (vss_one (vs_raise T.x_BadNumber rfl (hr.mono (by decide)) (takes_of rfl rfl rfl rfl) (va_cons ve_str va_nil) rfl))
 vss_nil)
 (vss_one (vs_asg (ve_callTy call_tuple_of s_tuple (by rfl) T.b_tuple (by decide +kernel) (va_cons (vv 2) va_nil)) (vg_sub (fun _ _ h1 h2 => pg_sub h1 h2 set_list) s_setL (ve_fld T.cl_Computer T.n_Computer_laid (vv 0)) (vv 1)))))), fun ds μ ev Φ h => ?_⟩)
  · obtain ⟨c, F, st, pv, lv, rfl, _⟩ := h; rfl
  · obtain ⟨c, F, st, pv, lv, rfl, ⟨s, hh, p, w, q, l, rfl, b⟩, ok, kd, k⟩ := h
    walk_at "vr"
    refine ⟨pv, some 0, some 4, rfl, kd, ?_⟩
    rcases k with ⟨hw, k⟩ | ⟨n, rfl, hn, sv, k⟩
    · rw [hw]
      walk_at "vr"
      exact ⟨_, rfl, k⟩
    have e : within (.int (n : Int)) (some 0) (some 4) = true := by simp [within]; omega
    rw [e]
    walk_at "vr"
    refine ⟨lv, 3, rfl, sv, ?_⟩
    rcases k with ⟨hs, k⟩ | ⟨x, sq, hs, k⟩
    · rw [hs]
      walk_at "vr"
      exact ⟨_, rfl, k⟩
    rw [hs]
    walk_at "vr"
    refine ⟨_, sq.seq, ?_⟩
    try walk_at "vr"
    refine ⟨_, _, b.ins, _, rfl, ?_⟩
    simp only [vSet_iff b.l]
    have hlt : n < st.laid.length := by rw [ok.l]; exact hn
    refine ⟨n, ixN_nat (by rw [List.length_map]; exact hlt), ?_⟩
    have b2 := b.setL (st.laid.set n (some x))
    rw [List.map_set] at b2
    exact k _ (Kp.set (by simp)) ⟨s, hh, p, w, q, l, rfl, b2⟩
theorem c_Computer_hand_3 {P : Program} {w : World} {K : PySem.W.Frag} {mg : Str → Option Value} {base : Heap} (T : Txt w K mg) : CanV P w K mg base (L2.CX P w) [] 5 (He.ma K (He.ga K "Computer") "hand") 3 [] ([.inl 0, .inl 1, .inl 2].map (toArg [] [])) (sp_hand K) :=
  canV_of (ps := ["self", "place", "letter"]) [.inl 0, .inl 1, .inl 2] T.f_Computer_hand (b_Computer_hand T) (fun _ _ _ _ _ _ us ws h1 h2 => match us, ws, h1, h2 with | [_, _, _], [], _, _ => rfl) (by decide)
end K25

set_option maxRecDepth 100000
set_option maxHeartbeats 4000000
namespace K25
open PySem L2 FW VL
local macro_rules | `(tactic| walk_at "vr") => `(tactic| simp only [wLenSet, wFor, wSetF, wAugF, wAug, wBM, wProp, wHeld, wVar, wC, wZ, wOp, wUn, wNil, wCons, wStar, wCB, wTup, wLst, wLstM, wTest, wAnd, wOr, VL.wNot, wAndV, wOrV, wNotV, wIf, wChain, wNoPart, wPart, wSl, wName, wGNil, wGCons, wGTup, wSub, wNext, VL.wSeq, wAsg, wDrop, wRet, wRetN, wIfS, wBreak, wCont, wPar, vI0, vI, vU, vAdd, vSub, vMul, vMod, vFdiv, vPow, vLt, vLe, vGt, vGe, vNeg, vIsN, vNotN, vAddA, vMulA, VL.wTru, iwL, iwT, wLc, vstart, List.map_cons, List.map_nil, List.cons_append, List.nil_append, List.set_cons_zero, List.set_cons_succ, List.getElem?_cons_zero, List.getElem?_cons_succ, Option.some.injEq, exists_eq_left, exists_eq_left', exists_eq', D.bl.injEq, D.int.injEq, D.str.injEq, D.tup.injEq, D.ref.injEq, List.cons.injEq, and_true, true_and, List.length_cons, List.length_nil, List.replicate, D.ty.injEq, exists_and_left, List.length, Nat.reduceAdd, wCall, wMake, wMeth, wFld, argsD, argD, toArg, List.getD_cons_zero, List.getD_cons_succ, List.map, iwS, vTupOf, Bool.false_eq_true, if_false, if_true, reduceIte, List.getElem?_nil, Nat.reduceSub, wipeR, vLen_lst, vLen_tup, vEq_ii, vEq_ss, vEq_bb, vIx_lst, vIx_tup, vIn_strs, vIn_s2, vIn_s3, vAll_map, vInK_s, vIxK_s, vInt_i, vAbs_i, atI_0, atI_1, atI_2, Bool.not_true, Bool.not_false, seqOf_lst, seqOf_tup, lstOf_lst, tupOf_tup, fzL_lst, N_is_list, N_is_integer, N_is_within, N_is_short, N_are_shorts, N_are_integers, N_is_lot, N_fixed, N_short_of, N_added, N_taken_from, N_multiplied, N_divided, N_left_over, N_is_less, N_is_equal, N_are_both, N_is_any, N_is_instruction, N_is_target_beyond, N_are_rows, N_Code___init__, N_Code___eq__, N_Code___iter__, N_push_short, N_popped, N_do_push, N_do_load, N_do_store, N_do_fetch, N_do_put, N_do_not, N_do_drop, N_do_copy, N_do_jump, N_do_unless, N_do_wait, N_do_sign, N_do_read, N_do_write, N_do_barrier, N_do_send, N_do_take, N_do_input, N_do_show, N_deed_of_row, N_is_disk_pair, N_are_disk_pairs, N_is_disk, N_Computer_power_on, N_Computer___init__, N_Computer_stack, N_Computer_disk, N_Computer_waiting, N_Computer_cards, N_Computer_memory, N_Computer_hand, N_Computer_cut, N_Computer_go, N_Computer_step, N__law_bench, N__law_turn, N__law_tool, N__law_wrap, N__law_signed, N__law_popped, N__law_written, N__law_settled, N__law_awake, N__law_outside, N__law_step, N__law_piece, N__law_is_so, N__law_moment_right, N_law])
local macro_rules | `(tactic| walk_at "wr") => `(tactic| simp only [vInt_bl, iwR1, iwR2, iwM, List.set_cons_succ, wLenSet, wFor, wSetF, wAugF, wAug, wBM, wProp, wHeld, wVar, wC, wZ, wOp, wUn, wNil, wCons, wStar, wCB, wTup, wLst, wLstM, wTest, wAnd, wOr, VL.wNot, wAndV, wOrV, wNotV, wIf, wChain, wNoPart, wPart, wSl, wName, wGNil, wGCons, wGTup, wSub, wNext, VL.wSeq, wAsg, wDrop, wRet, wRetN, wIfS, wBreak, wCont, wPar, vI0, vI, vU, vAdd, vSub, vMul, vMod, vFdiv, vPow, vLt, vLe, vGt, vGe, vNeg, vIsN, vNotN, vAddA_ii, vMulA_ii, VL.wTru, iwL, iwT, wLc, vstart, List.map_cons, List.map_nil, List.cons_append, List.nil_append, List.set_cons_zero, List.set_cons_succ, List.getElem?_cons_zero, List.getElem?_cons_succ, Option.some.injEq, exists_eq_left, exists_eq_left', exists_eq', D.bl.injEq, D.int.injEq, D.str.injEq, D.tup.injEq, D.ref.injEq, List.cons.injEq, and_true, true_and, List.length_cons, List.length_nil, List.replicate, D.ty.injEq, exists_and_left, List.length, Nat.reduceAdd, wCall, wMake, wMeth, wFld, argsD, argD, toArg, List.getD_cons_zero, List.getD_cons_succ, List.map, iwS, vTupOf, Bool.false_eq_true, if_false, if_true, reduceIte, List.getElem?_nil, Nat.reduceSub, wipeR, vLen_lst, vLen_tup, vEq_ii, vEq_ss, vEq_bb, vIx_lst, vIx_tup, vIn_strs, vIn_s2, vIn_s3, vAll_map, vInK_s, vIxK_s, vInt_i, vAbs_i, atI_0, atI_1, atI_2, Bool.not_true, Bool.not_false, seqOf_lst, seqOf_tup, lstOf_lst, tupOf_tup, fzL_lst, N_is_list, N_is_integer, N_is_within, N_is_short, N_are_shorts, N_are_integers, N_is_lot, N_fixed, N_short_of, N_added, N_taken_from, N_multiplied, N_divided, N_left_over, N_is_less, N_is_equal, N_are_both, N_is_any, N_is_instruction, N_is_target_beyond, N_are_rows, N_Code___init__, N_Code___eq__, N_Code___iter__, N_push_short, N_popped, N_do_push, N_do_load, N_do_store, N_do_fetch, N_do_put, N_do_not, N_do_drop, N_do_copy, N_do_jump, N_do_unless, N_do_wait, N_do_sign, N_do_read, N_do_write, N_do_barrier, N_do_send, N_do_take, N_do_input, N_do_show, N_deed_of_row, N_is_disk_pair, N_are_disk_pairs, N_is_disk, N_Computer_power_on, N_Computer___init__, N_Computer_stack, N_Computer_disk, N_Computer_waiting, N_Computer_cards, N_Computer_memory, N_Computer_hand, N_Computer_cut, N_Computer_go, N_Computer_step, N__law_bench, N__law_turn, N__law_tool, N__law_wrap, N__law_signed, N__law_popped, N__law_written, N__law_settled, N__law_awake, N__law_outside, N__law_step, N__law_piece, N__law_is_so, N__law_moment_right, N_law, ofStr_inj, ofStr_beq, String.reduceEq, decide_true, decide_false, Bool.or_false, Bool.or_true, Bool.false_or, Bool.true_or, Bool.and_true, Bool.and_false, Bool.true_and, Bool.false_and, vModN, iwE, iwEM])
local macro_rules | `(tactic| walk_at "frz") => `(tactic| ((try walk_at "vr"); refine ⟨_, frzOf_lst Mu.same, ?_⟩; rw [Mu.del_set (by assumption)]))
/-! ### what waits, what is on the disk -/
section
variable {K : PySem.W.Frag} {μ : Mu} {c s h p w q l : Addr} {st : CS}
theorem CompB.setS (b : CompB K μ c s h p w q l st) (xs : List Int) : CompB K (μ.set s (.lst (xs.map .int))) c s h p w q l { st with settled := xs } := by
  have nd := b.nd
  simp only [List.nodup_cons, List.mem_cons, List.not_mem_nil, or_false, not_or] at nd
  obtain ⟨⟨n1, n2, n3, n4, n5, n6⟩, ⟨n7, n8, n9, n10, n11⟩, ⟨n12, n13, n14, n15⟩, ⟨n16, n17, n18⟩, ⟨n19, n20⟩, n21, _⟩ := nd
  exact ⟨b.nd, by rw [Mu.ne n1]; exact b.c, Mu.same, by rw [Mu.ne (Ne.symm n7)]; exact b.h, by rw [Mu.ne (Ne.symm n8)]; exact b.p, by rw [Mu.ne (Ne.symm n9)]; exact b.w, by rw [Mu.ne (Ne.symm n10)]; exact b.q, by rw [Mu.ne (Ne.symm n11)]; exact b.l⟩
theorem CompB.setW (b : CompB K μ c s h p w q l st) (xs : List Int) : CompB K (μ.set w (.lst (xs.map .int))) c s h p w q l { st with written := xs } := by
  have nd := b.nd
  simp only [List.nodup_cons, List.mem_cons, List.not_mem_nil, or_false, not_or] at nd
  obtain ⟨⟨n1, n2, n3, n4, n5, n6⟩, ⟨n7, n8, n9, n10, n11⟩, ⟨n12, n13, n14, n15⟩, ⟨n16, n17, n18⟩, ⟨n19, n20⟩, n21, _⟩ := nd
  exact ⟨b.nd, by rw [Mu.ne n4]; exact b.c, by rw [Mu.ne n9]; exact b.s, by rw [Mu.ne n13]; exact b.h, by rw [Mu.ne n16]; exact b.p, Mu.same, by rw [Mu.ne (Ne.symm n19)]; exact b.q, by rw [Mu.ne (Ne.symm n20)]; exact b.l⟩
theorem CompB.setQ (b : CompB K μ c s h p w q l st) (xs : List (Int × Int)) : CompB K (μ.set q (.lst (xs.map pairD))) c s h p w q l { st with queue := xs } := by
  have nd := b.nd
  simp only [List.nodup_cons, List.mem_cons, List.not_mem_nil, or_false, not_or] at nd
  obtain ⟨⟨n1, n2, n3, n4, n5, n6⟩, ⟨n7, n8, n9, n10, n11⟩, ⟨n12, n13, n14, n15⟩, ⟨n16, n17, n18⟩, ⟨n19, n20⟩, n21, _⟩ := nd
  exact ⟨b.nd, by rw [Mu.ne n5]; exact b.c, by rw [Mu.ne n10]; exact b.s, by rw [Mu.ne n14]; exact b.h, by rw [Mu.ne n17]; exact b.p, by rw [Mu.ne n19]; exact b.w, Mu.same, by rw [Mu.ne (Ne.symm n21)]; exact b.l⟩
end
def readV (st : CS) : Int := if 0 ≤ popV st ∧ popV st < 200 then st.written.getD (popV st).toNat 0 else 0
theorem readV_sh {st : CS} (h : st.Ok) : Sh (readV st) := by
  unfold readV
  split
  · exact getD_sh h.ws _
  · exact sh_zero
def sp_do_read (K : PySem.W.Frag) : VSp := fun ds μ ev Φ => ∃ x, spG K (fun st => (.non, push (popS st) (readV st))) [x] ds μ ev Φ
theorem b_do_read {P : Program} {w : World} {K : PySem.W.Frag} {mg : Str → Option Value} {base : Heap} (T : Txt w K mg) : ∀ fd, FunD K "do_read" "do_read" (defArgs s_do_read) (defBody s_do_read) (defScope s_do_read) [] [] (He.ga K "do_read") fd → FnG P w K mg base CX0 2 (He.ga K "do_read") fd ["computer", "_"] (lift K [] (sp_do_read K)) := by
  intro fd F
  refine fun_okD (N := N_do_read) F sc_do_read (fun ds μ ev Φ h => ?size) (fun cdv A outer s H E hG hr => ⟨_, (vss_cons (vs_set (i := 2) sc_do_read.nd rfl (Or.inl rfl) (ve_call T.g_popped (c_popped_1 T) hG hr (by decide) pass0 sel_0 rfl (va_cons (vv 0) va_nil) vk_nil))
 (vss_one (vs_expr (ve_call T.g_push_short (c_push_short_2 T) hG hr (by decide) pass0 sel_0 rfl (va_cons (vv 0) (va_cons (ve_if (vt_chain op_le s_le op_lt s_lt ve_int (vv 2) (ve_gc rfl T.g_MOST_DISK fun _ _ => .int _)) (ve_ix ix_seq s_ix (ve_fld T.cl_Computer T.n_Computer_written (vv 0)) (vv 2)) ve_int) va_nil)) vk_nil)))), fun ds μ ev Φ h => ?_⟩)
  · obtain ⟨n, c, F, st, rfl, _⟩ := h; rfl
  · obtain ⟨n, c, F, st, rfl, hC, ok, k⟩ := h
    walk_at "wr"
    refine into_pop hC ok fun μ1 F1 k1 n1 hC1 => ?_
    try walk_at "wr"
    have hC1' := hC1
    obtain ⟨s, hh, p, w, q, l, rfl, b⟩ := hC1'
    have fin : ∀ v, v = readV st → sp_push_short K [.ref c, .int v] μ1 ev0 fun d μ1 => Φ .non μ1 := fun v e => by
      subst e
      exact into_push hC1 (pop_ok ok) fun μ2 F2 k2 n2 hC2 => k μ2 F2 (k1.trans n1 k2) (n1.trans k1 n2) hC2
    have e0 : readV st = if 0 ≤ popV st ∧ popV st < 200 then st.written.getD (popV st).toNat 0 else 0 := rfl
    generalize popV st = a at e0 ⊢
    by_cases h1 : 0 ≤ a
    · by_cases h2 : a < 200
      · simp only [h1, h2, decide_true, if_true]
        refine ⟨_, _, b.ins, _, rfl, ?_⟩
        rw [vIx_iff (seqOf_of b.w)]
        obtain ⟨m, rfl⟩ : ∃ m : Nat, a = (m : Int) := ⟨a.toNat, by omega⟩
        refine ⟨.int (st.written.getD m 0), atI_nat ?_, fin _ (by rw [e0, if_pos ⟨h1, h2⟩, Int.toNat_natCast])⟩
        have : m < (popS st).written.length := by show m < st.written.length; rw [ok.w]; omega
        show (st.written.map D.int)[m]? = _
        simp [List.getElem?_eq_getElem (show m < st.written.length from this)]
      · simp only [h1, h2, decide_true, decide_false, if_true, Bool.false_eq_true, if_false]
        exact fin _ (by rw [e0, if_neg (by omega)])
    · simp only [h1, decide_false, Bool.false_eq_true, if_false]
      exact fin _ (by rw [e0, if_neg (by omega)])
def canW (st : CS) : Prop := (0 ≤ popV st ∧ popV st < 200) ∧ st.queue.length < 400
instance (st : CS) : Decidable (canW st) := inferInstanceAs (Decidable (_ ∧ _))
def writeG (st : CS) : D × CS := if canW st then (.tup [.str "wrote", .int (popV st), .int (popV (popS st))], { popS (popS st) with queue := st.queue ++ [(popV st, popV (popS st))], written := st.written.set (popV st).toNat (popV (popS st)) }) else (.non, popS (popS st))
theorem writeG_ok {st : CS} (h : st.Ok) : (writeG st).2.Ok := by
  have o := pop_ok (pop_ok h)
  have v2 := popV_sh (pop_ok h)
  unfold writeG
  split
  · rename_i hc
    exact ⟨o.p, o.h, o.s, by show (List.set _ _ _).length = _; rw [List.length_set]; exact h.w, o.l, by show (st.queue ++ [(popV st, popV (popS st))]).length ≤ 400; have := hc.2; simp; omega, o.ps, o.hs, o.ss, set_sh h.ws v2, fun p hp => by
      rcases List.mem_append.mp hp with z | z
      · exact h.qs p z
      · rw [List.mem_singleton.mp z]; exact ⟨hc.1.1, hc.1.2, v2⟩, o.ls, o.gs⟩
  · exact o
def sp_do_write (K : PySem.W.Frag) : VSp := fun ds μ ev Φ => ∃ x, spG K writeG [x] ds μ ev Φ
theorem b_do_write {P : Program} {w : World} {K : PySem.W.Frag} {mg : Str → Option Value} {base : Heap} (T : Txt w K mg) : ∀ fd, FunD K "do_write" "do_write" (defArgs s_do_write) (defBody s_do_write) (defScope s_do_write) [] [] (He.ga K "do_write") fd → FnG P w K mg base CX0 2 (He.ga K "do_write") fd ["computer", "_"] (lift K [] (sp_do_write K)) := by
  intro fd F
  refine fun_okD (N := N_do_write) F sc_do_write (fun ds μ ev Φ h => ?size) (fun cdv A outer s H E hG hr => ⟨_, (vss_cons (vs_set (i := 2) sc_do_write.nd rfl (Or.inl rfl) (ve_call T.g_popped (c_popped_1 T) hG hr (by decide) pass0 sel_0 rfl (va_cons (vv 0) va_nil) vk_nil))
 (vss_cons (vs_set (i := 3) sc_do_write.nd rfl (Or.inl rfl) (ve_call T.g_popped (c_popped_1 T) hG hr (by decide) pass0 sel_0 rfl (va_cons (vv 0) va_nil) vk_nil))
 (vss_cons (vs_if (PW.pt (vw_or (vt_not (vt_chain op_le s_le op_lt s_lt ve_int (vv 2) (ve_gc rfl T.g_MOST_DISK fun _ _ => .int _))) (vw_or1 (vt_cmp (op_eqA hr.units) s_eq (ve_callB call_lenA s_len (by rfl) T.b_len (by decide +kernel) (va_cons (ve_fld T.cl_Computer T.n_Computer_queue (vv 0)) va_nil)) (ve_gc rfl T.g_MOST_WAITING fun _ _ => .int _) (nomark _)))))
 (vss_one (vs_ret ve_non))
 vss_nil)
 (vss_cons (vs_expr (ve_bm PySem.F.plainAttrs_list PySem.F.slot_list_append PySem.F.type_list_append mt_append s_append (ve_fld T.cl_Computer T.n_Computer_queue (vv 0)) (va_cons (ve_tup (va_cons (vv 2) (va_cons (vv 3) va_nil))) va_nil) (fun _ _ h1 h2 => pe_bm PySem.F.plainAttrs_list PySem.F.slot_list_append PySem.F.type_list_append mt_append h1 h2)))
 (vss_cons (vs_asg (vv 3) (vg_sub (fun _ _ h1 h2 => pg_sub h1 h2 set_list) s_setL (ve_fld T.cl_Computer T.n_Computer_written (vv 0)) (vv 2)))
 (vss_one (vs_ret (ve_tup (va_cons ve_str (va_cons (vv 2) (va_cons (vv 3) va_nil))))))))))), fun ds μ ev Φ h => ?_⟩)
  · obtain ⟨n, c, F, st, rfl, _⟩ := h; rfl
  · obtain ⟨n, c, F, st, rfl, hC, ok, k⟩ := h
    walk_at "wr"
    refine into_pop hC ok fun μ1 F1 k1 n1 hC1 => ?_
    try walk_at "wr"
    refine into_pop hC1 (pop_ok ok) fun μ2 F2 k2 n2 hC2 => ?_
    try walk_at "wr"
    have k12 := k1.trans n1 k2
    have n12 := n1.trans k1 n2
    have hC2' := hC2
    obtain ⟨s, hh, p, w, q, l, rfl, b⟩ := hC2'
    have no : ¬ canW st → Φ .non μ2 := fun h => by
      have kk := k μ2 _ k12 n12
      unfold writeG at kk
      rw [if_neg h] at kk
      exact kk hC2
    have hl : lenOf μ2 (.ref q) = some st.queue.length := by rw [lenOf_of b.q, List.length_map]; rfl
    by_cases h1 : 0 ≤ popV st
    · by_cases h2 : popV st < 200
      · simp only [h1, h2, decide_true, if_true, Bool.not_true, Bool.false_eq_true, if_false]
        refine ⟨_, _, b.ins, _, rfl, ?_⟩
        simp only [vLen_iff hl]
        walk_at "wr"
        by_cases h3 : st.queue.length = 400
        · rw [if_pos (by simp [h3])]
          exact no fun h => by have := h.2; omega
        · rw [if_neg (by simp; omega)]
          have hc : canW st := ⟨⟨h1, h2⟩, by have := ok.q; omega⟩
          have kk := fun μ' F' => k μ' F'
          unfold writeG at kk
          rw [if_pos hc] at kk
          obtain ⟨m, hm⟩ : ∃ m : Nat, popV st = (m : Int) := ⟨(popV st).toNat, by omega⟩
          refine ⟨_, _, b.ins, _, rfl, ⟨q, _, rfl, b.q⟩, sizeOk (by decide), (vApp_iff b.q).mpr ⟨by rw [List.length_map, sizeLine_eq]; have := ok.q; show (popS (popS st)).queue.length < _; show st.queue.length < _; omega, ?_⟩⟩
          have b2 := b.setQ (st.queue ++ [(popV st, popV (popS st))])
          rw [List.map_append] at b2
          refine ⟨_, _, b2.ins, _, rfl, (vSet_iff b2.w).mpr ⟨m, ?_, sizeOk (by decide), ?_⟩⟩
          · rw [hm]
            exact ixN_nat (by rw [List.length_map]; show m < st.written.length; rw [ok.w]; omega)
          · have b3 := b2.setW (st.written.set m (popV (popS st)))
            rw [List.map_set] at b3
            have hm2 : (popV st).toNat = m := by omega
            rw [hm2] at kk
            have e2 : (popS (popS st)).queue = st.queue := rfl
            exact kk _ _ (k12.trans n12 ((Kp.set (by simp)).trans Nw.refl (Kp.set (by simp)))) (n12.trans k12 Nw.refl) ⟨s, hh, p, w, q, l, rfl, b3⟩
      · simp only [h1, h2, decide_true, decide_false, if_true, Bool.not_false]
        exact no fun h => h2 h.1.2
    · simp only [h1, decide_false, Bool.not_false, if_true]
      exact no fun h => h1 h.1.1
theorem CompB.newQ {K : PySem.W.Frag} {μ : Mu} {c s h p w q l q' : Addr} {st : CS} (b : CompB K μ c s h p w q l st) (n : μ q' = none) : CompB K ((μ.set q' (.lst [])).set c (.ins (cComp K) compNs (compFs K { st with queue := [] } s h p w q' l))) c s h p w q' l { st with queue := [] } := by
  have off : ∀ {x : Addr} {m : MO}, μ x = some m → x ≠ q' := fun e z => by rw [z, n] at e; cases e
  have qc := off b.c
  have qs := off b.s
  have qh := off b.h
  have qp := off b.p
  have qw := off b.w
  have ql := off b.l
  have nd := b.nd
  simp only [List.nodup_cons, List.mem_cons, List.not_mem_nil, or_false, not_or] at nd
  obtain ⟨⟨n1, n2, n3, n4, n5, n6⟩, ⟨n7, n8, n9, n10, n11⟩, ⟨n12, n13, n14, n15⟩, ⟨n16, n17, n18⟩, ⟨n19, n20⟩, n21, _⟩ := nd
  refine ⟨?_, Mu.same, ?_, ?_, ?_, ?_, ?_, ?_⟩
  · simp only [List.nodup_cons, List.mem_cons, List.not_mem_nil, or_false, not_or, not_false_eq_true, List.nodup_nil, and_true]
    exact ⟨⟨n1, n2, n3, n4, qc, n6⟩, ⟨n7, n8, n9, qs, n11⟩, ⟨n12, n13, qh, n15⟩, ⟨n16, qp, n18⟩, ⟨qw, n20⟩, Ne.symm ql⟩
  · rw [Mu.ne (Ne.symm n1), Mu.ne qs]; exact b.s
  · rw [Mu.ne (Ne.symm n2), Mu.ne qh]; exact b.h
  · rw [Mu.ne (Ne.symm n3), Mu.ne qp]; exact b.p
  · rw [Mu.ne (Ne.symm n4), Mu.ne qw]; exact b.w
  · rw [Mu.ne (Ne.symm qc)]; exact Mu.same
  · rw [Mu.ne (Ne.symm n6), Mu.ne ql]; exact b.l
def setP (xs : List Int) (p : Int × Int) : List Int := xs.set p.1.toNat p.2
theorem setP_len : ∀ (ps : List (Int × Int)) (xs : List Int), (ps.foldl setP xs).length = xs.length
  | [], _ => rfl
  | p :: ps, xs => by rw [List.foldl_cons, setP_len ps]; simp [setP]
theorem setP_sh : ∀ (ps : List (Int × Int)) (xs : List Int), (∀ p ∈ ps, Sh p.2) → (∀ v ∈ xs, Sh v) → ∀ v ∈ ps.foldl setP xs, Sh v
  | [], _, _, h => h
  | p :: ps, xs, hp, h => setP_sh ps _ (fun q hq => hp q (List.mem_cons_of_mem _ hq)) (set_sh h (hp p (List.mem_cons_self ..)))
def setS (st : CS) (ps : List (Int × Int)) : CS := { st with settled := ps.foldl setP st.settled }
theorem setS_ok {st : CS} (h : st.Ok) {ps : List (Int × Int)} (hp : ∀ p ∈ ps, Sh p.2) : (setS st ps).Ok := ⟨h.p, h.h, by show (ps.foldl setP st.settled).length = 200; rw [setP_len]; exact h.s, h.w, h.l, h.q, h.ps, h.hs, setP_sh ps _ hp h.ss, h.ws, h.qs, h.ls, h.gs⟩
def barG (st : CS) : D × CS := (.tup [.str "settled", .tup (st.queue.map pairD)], { setS st st.queue with queue := [] })
theorem barG_ok {st : CS} (h : st.Ok) : (barG st).2.Ok := by
  have o := setS_ok h (ps := st.queue) fun p hp => (h.qs p hp).2.2
  exact ⟨o.p, o.h, o.s, o.w, o.l, by show ([] : List (Int × Int)).length ≤ 400; decide, o.ps, o.hs, o.ss, o.ws, fun p hp => (nomatch hp), o.ls, o.gs⟩
/-- pairs are laid onto the disk -/
theorem lay_pairs {K : PySem.W.Frag} {μ : Mu} {ev : EV} {DD : VEnds} {c s h p w q l : Addr} {st : CS} {ps : List (Int × Int)} {g : WG} {b : WS} (Q : Ro → Prop) (hps : ∀ p ∈ ps, 0 ≤ p.1 ∧ p.1 < 200) (ok : st.Ok) (cb : CompB K μ c s h p w q l st) {ρ : Ro} (h0 : Q ρ)
    (step : ∀ (x : Int × Int) ρ μ' (N : Ro → Mu → Prop) xs, Q ρ → xs.length = 200 → CompB K μ' c s h p w q l { st with settled := xs } → (0 ≤ x.1 ∧ x.1 < 200) → (∀ ρ', Q ρ' → N ρ' (μ'.set s (.lst ((xs.set x.1.toNat x.2).map .int)))) → g (pairD x) ρ μ' ev fun ρ' μ' => b { DD with nx := N, ct := N, bk := DD.nx } ρ' μ' ev)
    (last : ∀ ρ μ', Q ρ → Kp [s] μ μ' → CompB K μ' c s h p w q l (setS st ps) → DD.nx ρ μ') : forW noP g b DD ev (ps.map pairD) ρ μ := by
  refine forW_inv (fun i ρ μ' => Q ρ ∧ Kp [s] μ μ' ∧ CompB K μ' c s h p w q l { st with settled := (ps.take i).foldl setP st.settled }) ?_ ?_ ⟨h0, Kp.refl, by cases st; exact cb⟩
  · intro i d hd N ρ μ' hN ⟨hQ, kp, cb'⟩
    rw [List.getElem?_map] at hd
    obtain ⟨x, hx, rfl⟩ := Option.map_eq_some_iff.mp hd
    refine ⟨trivial, step x ρ μ' N _ hQ (by rw [setP_len]; exact ok.s) cb' (hps x (List.mem_of_getElem? hx)) fun ρ' hQ' => hN _ _ ⟨hQ', kp.trans Nw.refl (Kp.set (.head _)), ?_⟩⟩
    have e := cb'.setS (((ps.take i).foldl setP st.settled).set x.1.toNat x.2)
    have e2 : (ps.take (i + 1)).foldl setP st.settled = ((ps.take i).foldl setP st.settled).set x.1.toNat x.2 := by
      rw [List.take_add_one, hx]
      simp only [Option.toList_some, List.foldl_append, List.foldl_cons, List.foldl_nil]
      rfl
    rw [e2]
    exact e
  · intro ρ μ' ⟨hQ, kp, cb'⟩
    rw [List.length_map, List.take_length] at cb'
    exact ⟨trivial, last ρ μ' hQ kp cb'⟩
def sp_do_barrier (K : PySem.W.Frag) : VSp := fun ds μ ev Φ => ∃ x, spG K barG [x] ds μ ev Φ
theorem b_do_barrier {P : Program} {w : World} {K : PySem.W.Frag} {mg : Str → Option Value} {base : Heap} (T : Txt w K mg) : ∀ fd, FunD K "do_barrier" "do_barrier" (defArgs s_do_barrier) (defBody s_do_barrier) (defScope s_do_barrier) [] [] (He.ga K "do_barrier") fd → FnG P w K mg base CX0 1 (He.ga K "do_barrier") fd ["computer", "_"] (lift K [] (sp_do_barrier K)) := by
  intro fd F
  refine fun_okD (N := N_do_barrier) F sc_do_barrier (fun ds μ ev Φ h => ?size) (fun cdv A outer s H E hG hr => ⟨_, (vss_cons (vs_set (i := 2) sc_do_barrier.nd rfl (Or.inl rfl) (ve_callTy call_tuple_of s_tuple (by rfl) T.b_tuple (by decide +kernel) (va_cons (ve_fld T.cl_Computer T.n_Computer_queue (vv 0)) va_nil)))
 (vss_cons (vs_for (passes_of rfl) rfl (vi_tup (vv 2)) (vg_tup (fun _ h => pg_tup (n := 2) rfl h) (vgs_cons (vg_name (i := 3) sc_do_barrier.nd rfl (Or.inl rfl)) (vgs_cons (vg_name (i := 4) sc_do_barrier.nd rfl (Or.inl rfl)) vgs_nil)))
 (vss_one (vs_asg (vv 4) (vg_sub (fun _ _ h1 h2 => pg_sub h1 h2 set_list) s_setL (ve_fld T.cl_Computer T.n_Computer_settled (vv 0)) (vv 3)))))
 (vss_cons (vs_fld T.cl_Computer T.n_Computer_queue (vv 0) (ve_lstM va_nil))
 (vss_one (vs_ret (ve_tup (va_cons ve_str (va_cons (vv 2) va_nil)))))))), fun ds μ ev Φ h => ?_⟩)
  · obtain ⟨n, c, F, st, rfl, _⟩ := h; rfl
  · obtain ⟨x0, c, F, st, rfl, hC, ok, k⟩ := h
    obtain ⟨s, hh, p, w, q, l, rfl, b⟩ := hC
    walk_at "wr"
    refine ⟨_, _, b.ins, _, rfl, _, seqOf_of b.q, ?_⟩
    try walk_at "wr"
    refine lay_pairs (fun ρ => ∃ x y, ρ = [some (.ref c), some x0, some (.tup (st.queue.map pairD)), x, y]) (fun p hp => ⟨(ok.qs p hp).1, (ok.qs p hp).2.1⟩) ok b ⟨_, _, rfl⟩ ?_ ?_
    · rintro x ρ μ' N xs ⟨y, z, rfl⟩ hl cb hx hN
      simp only [pairD]
      walk_at "wr"
      refine ⟨_, _, ⟨rfl, rfl⟩, _, _, rfl, rfl, ?_⟩
      try walk_at "wr"
      refine ⟨_, _, cb.ins, _, rfl, ?_⟩
      refine (vSet_iff cb.s).mpr ⟨x.1.toNat, ?_, ?_⟩
      · have := ixN_nat (m := (xs.map D.int).length) (n := x.1.toNat) (by rw [List.length_map, hl]; omega)
        rw [Int.toNat_of_nonneg hx.1] at this
        exact this
      · have := hN [some (.ref c), some x0, some (.tup (st.queue.map pairD)), some (.int x.1), some (.int x.2)] ⟨_, _, rfl⟩
        rw [List.map_set] at this
        exact this
    · rintro ρ μ' ⟨y, z, rfl⟩ kp cb
      try walk_at "wr"
      refine ⟨sizeOk (by decide), fun q' nq => ?_⟩
      have qc : c ≠ q' := fun e => by have := cb.c; rw [e, nq] at this; cases this
      refine ⟨_, _, by rw [Mu.ne qc]; exact cb.c, by decide, sizeOk (by decide), ?_⟩
      have cb2 := cb.newQ nq
      have hs : μ s ≠ none := some_ne b.s
      refine k _ [c, s, hh, p, w, q', l] (((kp.sub (G := [c, s, hh, p, w, q, l]) (by simp)).trans Nw.refl (Kp.new nq)).trans Nw.refl (Kp.set (.head _))) (fun a ha => ?_) ⟨s, hh, p, w, q', l, rfl, cb2⟩
      by_cases e : a = q'
      · refine .inr ?_
        by_cases hm : μ a = none
        · exact hm
        · by_cases e2 : a = s
          · have := cb.s
            rw [← e2, e, nq] at this
            cases this
          · exact absurd ((kp a (by simpa using e2) hm).symm.trans (by rw [e]; exact nq)) hm
      · refine .inl ?_
        simp only [List.mem_cons, List.not_mem_nil, or_false] at ha ⊢
        rcases ha with h | h | h | h | h | h | h
        · exact .inl h
        · exact .inr (.inl h)
        · exact .inr (.inr (.inl h))
        · exact .inr (.inr (.inr (.inl h)))
        · exact .inr (.inr (.inr (.inr (.inl h))))
        · exact absurd h e
        · exact .inr (.inr (.inr (.inr (.inr (.inr h)))))
def isI (d : D) : Bool := match d with
  | .int _ => true
  | _ => false
theorem isTy_int {μ : Mu} {x : D} : isTy μ x "int" = isI x := by
  cases e : isTy μ x "int" with
  | true => obtain ⟨i, rfl⟩ := ty_int e; rfl
  | false => cases x <;> first | rfl | simp [isTy, tyD] at e
def intsB (μ : Mu) (v : D) : Bool := isLst μ v && (itemsOf μ v).all isI
def sp_are_integers : VSp := fun ds μ ev Φ => ∃ v, ds = [v] ∧ ShV μ v ∧ Φ (.bl (intsB μ v)) μ
theorem b_are_integers {P : Program} {w : World} {K : PySem.W.Frag} {mg : Str → Option Value} {base : Heap} (T : Txt w K mg) : ∀ fd, FunD K "are_integers" "are_integers" (defArgs s_are_integers) (defBody s_are_integers) (defScope s_are_integers) [] [] (He.ga K "are_integers") fd → FnG P w K mg base CX0 2 (He.ga K "are_integers") fd ["value"] (lift K [] (sp_are_integers)) := by
  intro fd F
  refine fun_okD (N := N_are_integers) F sc_are_integers (fun ds μ ev Φ h => ?size) (fun cdv A outer s H E hG hr => ⟨_, (vss_one (vs_ret (ve_and (ve_call T.g_is_list (c_is_list_1 T) hG hr (by decide) pass0 sel_0 rfl (va_cons (vv 0) va_nil) vk_nil) (ve_one (ve_callB (cr_all rfl) s_all (by rfl) T.b_all (by decide +kernel) (va_cons (ve_z (ve_lc (own := [("item", 1)]) (p := (.name 1)) rfl sc_are_integers.nd (vi_any (vv 0)) (blkOk_by (N := N_are_integers) (sc := defScope s_are_integers) (by decide +kernel)) (fun _ _ _ _ _ => pg_name (i := 1) sc_are_integers.nd rfl (Or.inl rfl)) (fun _ _ _ _ _ => vts_nil) (fun _ _ _ _ _ => (ve_call T.g_is_integer (c_is_integer_1 T) hG hr (by decide) pass0 sel_0 rfl (va_cons (vv 1) va_nil) vk_nil)) (by decide))) va_nil)))))), fun ds μ ev Φ h => ?_⟩)
  · obtain ⟨v, rfl, _⟩ := h; rfl
  · obtain ⟨v, rfl, hv, q⟩ := h
    walk_at "vr"
    refine ⟨v, rfl, hv.kd, ?_⟩
    walk_at "vr"
    cases h1 : isLst μ v with
    | false =>
      have e : intsB μ v = false := by unfold intsB; rw [h1]; rfl
      rw [e] at q
      exact q
    | true =>
      obtain ⟨ds, sq, hl, hit⟩ := hv.it h1
      have e : intsB μ v = ds.all isI := by unfold intsB itemsOf; rw [h1, sq.seq]; rfl
      rw [e] at q
      rw [if_pos rfl]
      refine iwA_at rfl sq fun P hP => lcW_mapP (fun d => .bl (isI d)) (sizeOk (by omega)) (fun Ds l nD => hP _ (hv.kd.set_same nD)) (fun d hd => ⟨_, rfl, fun Ds l Ψ nD q => ?_⟩) fun Ds nD => ?_
      · walk_at "vr"
        refine ⟨d, rfl, Kd.set (hit d hd) nD, ?_⟩
        rw [isTy_int]
        exact q
      · walk_at "frz"
        walk_at "vr"
        exact q
theorem c_are_integers_1 {P : Program} {w : World} {K : PySem.W.Frag} {mg : Str → Option Value} {base : Heap} (T : Txt w K mg) : CanV P w K mg base CX0 [] 2 (He.ga K "are_integers") 1 [] ([.inl 0].map (toArg [] [])) (sp_are_integers) :=
  canV_of (ps := ["value"]) [.inl 0] T.f_are_integers (b_are_integers T) (fun _ _ _ _ _ _ us ws h1 h2 => match us, ws, h1, h2 with | [_], [], _, _ => rfl) (by decide)
def lotL (many : Int) : Int → List D → Bool
  | _, [] => true
  | least, .int n :: r => decide (least ≤ n) && (decide (n < many) && lotL many (n + 1) r)
  | _, _ :: _ => false
def lotB (μ : Mu) (v : D) (many : Int) : Bool := intsB μ v && lotL many 0 (itemsOf μ v)
def sp_is_lot : VSp := fun ds μ ev Φ => ∃ v m, ds = [v, .int m] ∧ ShV μ v ∧ Φ (.bl (lotB μ v m)) μ
theorem b_is_lot {P : Program} {w : World} {K : PySem.W.Frag} {mg : Str → Option Value} {base : Heap} (T : Txt w K mg) : ∀ fd, FunD K "is_lot" "is_lot" (defArgs s_is_lot) (defBody s_is_lot) (defScope s_is_lot) [] [] (He.ga K "is_lot") fd → FnG P w K mg base CX0 3 (He.ga K "is_lot") fd ["value", "many"] (lift K [] (sp_is_lot)) := by
  intro fd F
  refine fun_okD (N := N_is_lot) F sc_is_lot (fun ds μ ev Φ h => ?size) (fun cdv A outer s H E hG hr => ⟨_, (vss_cons (vs_if (vt_not (vt_val (ve_call T.g_are_integers (c_are_integers_1 T) hG hr (by decide) pass0 sel_0 rfl (va_cons (vv 0) va_nil) vk_nil)))
 (vss_one (vs_ret ve_bl))
 vss_nil)
 (vss_cons (vs_set (i := 2) sc_is_lot.nd rfl (Or.inl rfl) ve_int)
 (vss_cons (vs_for (passes_of rfl) rfl (vi_any (vv 0)) (vg_name (i := 3) sc_is_lot.nd rfl (Or.inl rfl))
 (vss_cons (vs_if (vt_not (vt_chain op_le s_le op_lt s_lt (vv 2) (vv 3) (vv 1)))
 (vss_one (vs_ret ve_bl))
 vss_nil)
 (vss_one (vs_set (i := 2) sc_is_lot.nd rfl (Or.inl rfl) (ve_op op_addA s_addA (vv 3) ve_int)))))
 (vss_one (vs_ret ve_bl))))), fun ds μ ev Φ h => ?_⟩)
  · obtain ⟨v, m, rfl, _⟩ := h; rfl
  · obtain ⟨v, m, rfl, hv, q⟩ := h
    walk_at "vr"
    refine ⟨v, rfl, hv, ?_⟩
    walk_at "vr"
    cases h1 : intsB μ v with
    | false =>
      have e : lotB μ v m = false := by unfold lotB; rw [h1]; rfl
      rw [e] at q
      exact q
    | true =>
      have h1' := h1
      unfold intsB at h1'
      rw [Bool.and_eq_true] at h1'
      obtain ⟨ds, sq, hl, hit⟩ := hv.it h1'.1
      have e0 : itemsOf μ v = ds := by unfold itemsOf; rw [sq.seq]; rfl
      have all := h1'.2
      rw [e0] at all
      have e : lotB μ v m = lotL m 0 ds := by unfold lotB; rw [h1, e0]; rfl
      rw [e] at q
      simp only [Bool.not_true, Bool.false_eq_true, if_false]
      try walk_at "vr"
      refine iwA_at rfl sq fun P hP => forW_inv (fun i ρ μ' => ∃ (least : Int) (x : Option D), ρ = [some v, some (.int m), some (.int least), x] ∧ μ' = μ ∧ lotL m 0 ds = lotL m least (ds.drop i)) ?_ ?_ ⟨0, _, rfl, rfl, rfl⟩
      · rintro i d hd N ρ μ' hN ⟨least, x, rfl, rfl, hL⟩
        refine ⟨hP _ fun _ _ => rfl, ?_⟩
        have hi := List.all_eq_true.mp all d (List.mem_of_getElem? hd)
        obtain ⟨n, rfl⟩ : ∃ n, d = .int n := by cases d <;> first | exact ⟨_, rfl⟩ | cases hi
        have hlt : i < ds.length := (List.getElem?_eq_some_iff.mp hd).1
        have ed : ds.drop i = .int n :: ds.drop (i + 1) := by rw [List.drop_eq_getElem_cons hlt, (List.getElem?_eq_some_iff.mp hd).2]
        rw [ed] at hL
        simp only [lotL] at hL
        walk_at "wr"
        by_cases c1 : least ≤ n
        · by_cases c2 : n < m
          · simp only [c1, c2, decide_true, if_true, Bool.not_true, Bool.false_eq_true, if_false, Bool.true_and] at hL ⊢
            exact hN _ _ ⟨n + 1, _, rfl, rfl, hL⟩
          · simp only [c1, c2, decide_true, decide_false, if_true, Bool.not_false, Bool.true_and, Bool.false_and] at hL ⊢
            rw [hL] at q
            exact q
        · simp only [c1, decide_false, Bool.false_eq_true, if_false, Bool.not_false, if_true, Bool.false_and] at hL ⊢
          rw [hL] at q
          exact q
      · rintro ρ μ' ⟨least, x, rfl, rfl, hL⟩
        refine ⟨hP _ fun _ _ => rfl, ?_⟩
        rw [List.drop_length] at hL
        have hL : lotL m 0 ds = true := hL
        rw [hL] at q
        walk_at "vr"
        exact q
theorem c_is_lot_2 {P : Program} {w : World} {K : PySem.W.Frag} {mg : Str → Option Value} {base : Heap} (T : Txt w K mg) : CanV P w K mg base CX0 [] 3 (He.ga K "is_lot") 2 [] ([.inl 0, .inl 1].map (toArg [] [])) (sp_is_lot) :=
  canV_of (ps := ["value", "many"]) [.inl 0, .inl 1] T.f_is_lot (b_is_lot T) (fun _ _ _ _ _ _ us ws h1 h2 => match us, ws, h1, h2 with | [_, _], [], _, _ => rfl) (by decide)
def intD0 (d : D) : Int := match d with
  | .int i => i
  | _ => 0
def keptP (st : CS) (ds : List D) : List (Int × Int) := ds.map fun d => st.queue.getD (intD0 d).toNat (0, 0)
theorem lot_items {m : Int} : ∀ (ds : List D) (least : Int), 0 ≤ least → lotL m least ds = true → ∀ d ∈ ds, ∃ n : Nat, d = .int (n : Int) ∧ (n : Int) < m
  | [], _, _, _, _, h => (nomatch h)
  | .int n :: r, least, hl, h, d, hd => by
    simp only [lotL, Bool.and_eq_true, decide_eq_true_eq] at h
    rcases List.mem_cons.mp hd with rfl | hd
    · exact ⟨n.toNat, by rw [Int.toNat_of_nonneg (by omega)], by omega⟩
    · exact lot_items r (n + 1) (by omega) h.2.2 d hd
  | .non :: _, _, _, h, _, _ | .bl _ :: _, _, _, h, _, _ | .str _ :: _, _, _, h, _, _ | .ty _ :: _, _, _, h, _, _ | .ref _ :: _, _, _, h, _, _ | .lst _ :: _, _, _, h, _, _ | .tup _ :: _, _, _, h, _, _ | .sq _ :: _, _, _, h, _, _ | .dic _ _ :: _, _, _, h, _, _ | .obj _ _ _ :: _, _, _, h, _, _ | .exc _ _ _ :: _, _, _, h, _, _ => nomatch h
theorem kept_mem {st : CS} {ds : List D} (h : ∀ d ∈ ds, ∃ n : Nat, d = .int (n : Int) ∧ (n : Int) < (st.queue.length : Int)) : ∀ p ∈ keptP st ds, p ∈ st.queue := fun p hp => by
  obtain ⟨d, hd, rfl⟩ := List.mem_map.mp hp
  obtain ⟨n, rfl, hn⟩ := h d hd
  have hn : n < st.queue.length := by omega
  show st.queue.getD n (0, 0) ∈ _
  rw [List.getD_eq_getElem?_getD, List.getElem?_eq_getElem hn]
  exact List.getElem_mem hn
def sp_cut (K : PySem.W.Frag) : VSp := fun ds μ ev Φ => ∃ c F st kv, ds = [.ref c, kv] ∧ CompAt K μ c F st ∧ CS.Ok st ∧ ShV μ kv ∧
  ((lotB μ kv (st.queue.length : Int) = false ∧ ev (He.ga K "BadNumber") ["part"] [.str "kept"] μ) ∨
   (lotB μ kv (st.queue.length : Int) = true ∧ ∀ μ' F', Kp F μ μ' → Nw F F' μ → CompAt K μ' c F' (onS (setS st (keptP st (itemsOf μ kv)))) → Φ (.tup ((keptP st (itemsOf μ kv)).map pairD)) μ'))
theorem b_Computer_cut {P : Program} {w : World} {K : PySem.W.Frag} {mg : Str → Option Value} {base : Heap} (T : Txt w K mg) : ∀ fd, FunD K "cut" "Computer.cut" (defArgs s_Computer_cut) (defBody s_Computer_cut) (defScope s_Computer_cut) [] [] (He.ma K (He.ga K "Computer") "cut") fd → FnG P w K mg base (L2.CX P w) 4 (He.ma K (He.ga K "Computer") "cut") fd ["self", "kept"] (lift K [] (sp_cut K)) := by
  intro fd F
  refine fun_okD (N := N_Computer_cut) F sc_Computer_cut (fun ds μ ev Φ h => ?size) (fun cdv A outer s H E hG hr => ⟨_, (vss_cons (vs_if (vt_not (vt_val (ve_call T.g_is_lot (c_is_lot_2 T) hG hr (by decide) pass0 sel_0 rfl (va_cons (vv 1) (va_cons (ve_callB call_lenA s_len (by rfl) T.b_len (by decide +kernel) (va_cons (ve_fld T.cl_Computer T.n_Computer_queue (vv 0)) va_nil)) va_nil)) vk_nil)))
 (vss_one (vs_raise T.x_BadNumber rfl (hr.mono (by decide)) (takes_of rfl rfl rfl rfl) (va_cons ve_str va_nil) rfl))
 vss_nil)
 (vss_cons (vs_set (i := 2) sc_Computer_cut.nd rfl (Or.inl rfl) (ve_callTy call_tuple_of s_tuple (by rfl) T.b_tuple (by decide +kernel) (va_cons (ve_z (ve_lc (own := [("index", 5)]) (p := (.name 5)) rfl sc_Computer_cut.nd (vi_any (vv 1)) (blkOk_by (N := N_Computer_cut) (sc := defScope s_Computer_cut) (by decide +kernel)) (fun _ _ _ _ _ => pg_name (i := 5) sc_Computer_cut.nd rfl (Or.inl rfl)) (fun _ _ _ _ _ => vts_nil) (fun _ _ _ _ _ => (ve_ix ix_seq s_ix (ve_fld T.cl_Computer T.n_Computer_queue (vv 0)) (vv 5))) (by decide))) va_nil)))
 (vss_cons (vs_for (passes_of rfl) rfl (vi_tup (vv 2)) (vg_tup (fun _ h => pg_tup (n := 2) rfl h) (vgs_cons (vg_name (i := 3) sc_Computer_cut.nd rfl (Or.inl rfl)) (vgs_cons (vg_name (i := 4) sc_Computer_cut.nd rfl (Or.inl rfl)) vgs_nil)))
 (vss_one (vs_asg (vv 4) (vg_sub (fun _ _ h1 h2 => pg_sub h1 h2 set_list) s_setL (ve_fld T.cl_Computer T.n_Computer_settled (vv 0)) (vv 3)))))
 (vss_cons (vs_expr (ve_meth0 T.cl_Computer T.m_Computer_power_on (c_Computer_power_on_1 T) hG hr (by decide) pass0 sel_0 (vv 0) vk_nil))
 (vss_one (vs_ret (vv 2))))))), fun ds μ ev Φ h => ?_⟩)
  · obtain ⟨c, F, st, kv, rfl, _⟩ := h; rfl
  · obtain ⟨c, F, st, kv, rfl, ⟨s, hh, p, w, q, l, rfl, b⟩, ok, hv, k⟩ := h
    have hl : lenOf μ (.ref q) = some st.queue.length := by rw [lenOf_of b.q, List.length_map]
    walk_at "vr"
    refine ⟨_, _, b.ins, _, rfl, ?_⟩
    simp only [vLen_iff hl]
    refine ⟨kv, _, rfl, hv, ?_⟩
    rcases k with ⟨h1, k⟩ | ⟨h1, k⟩
    · rw [h1]
      walk_at "vr"
      exact ⟨_, rfl, k⟩
    rw [h1]
    walk_at "vr"
    have h1' := h1
    unfold lotB intsB at h1'
    simp only [Bool.and_eq_true] at h1'
    obtain ⟨ds, sq, hdl, hit⟩ := hv.it h1'.1.1
    have e0 : itemsOf μ kv = ds := by unfold itemsOf; rw [sq.seq]; rfl
    have hlot := h1'.2
    rw [e0] at hlot
    rw [e0] at k
    have its := lot_items ds 0 (by decide) hlot
    refine iwA_at (x := kv) (ds := ds) rfl sq fun P hP => lcW_mapP (fun d => pairD (st.queue.getD (intD0 d).toNat (0, 0))) (sizeOk (by omega)) (fun Ds l nD => hP _ (hv.kd.set_same nD)) (fun d hd => ⟨_, rfl, fun Ds l Ψ nD q => ?_⟩) fun Ds nD => ?_
    · obtain ⟨n, rfl, hn⟩ := its d hd
      have hn : n < st.queue.length := by omega
      have keep : ∀ {x : Addr} {m : MO}, μ x = some m → (μ.set Ds (.lst l)) x = some m := fun e => by rw [Mu.ne fun z => by rw [z, nD] at e; cases e]; exact e
      walk_at "vr"
      refine ⟨_, _, insOf_of (keep b.c), _, rfl, ?_⟩
      simp only [vIx_iff (seqOf_of (keep b.q))]
      refine ⟨_, atI_nat (by rw [List.getElem?_map, List.getElem?_eq_getElem hn]; rfl), ?_⟩
      have e : (st.queue.getD (intD0 (.int (n : Int))).toNat (0, 0)) = st.queue[n] := by
        show st.queue.getD n (0, 0) = _
        rw [List.getD_eq_getElem?_getD, List.getElem?_eq_getElem hn]; rfl
      rw [e] at q
      exact q
    walk_at "frz"
    have em : (ds.map fun d => pairD (st.queue.getD (intD0 d).toNat (0, 0))) = (keptP st ds).map pairD := by unfold keptP; rw [List.map_map]; rfl
    rw [em]
    refine ⟨_, rfl, ?_⟩
    try walk_at "vr"
    have km := kept_mem its
    refine lay_pairs (fun ρ => ∃ x y, ρ = [some (.ref c), some kv, some (.tup ((keptP st ds).map pairD)), x, y, Option.none]) (fun p hp => ⟨(ok.qs p (km p hp)).1, (ok.qs p (km p hp)).2.1⟩) ok b ⟨_, _, rfl⟩ ?_ ?_
    · rintro x ρ μ' N xs ⟨y, z, rfl⟩ hl cb hx hN
      simp only [pairD]
      walk_at "wr"
      refine ⟨_, _, ⟨rfl, rfl⟩, _, _, rfl, rfl, ?_⟩
      try walk_at "wr"
      refine ⟨_, _, cb.ins, _, rfl, ?_⟩
      refine (vSet_iff cb.s).mpr ⟨x.1.toNat, ?_, ?_⟩
      · have := ixN_nat (m := (xs.map D.int).length) (n := x.1.toNat) (by rw [List.length_map, hl]; omega)
        rw [Int.toNat_of_nonneg hx.1] at this
        exact this
      · have := hN [some (.ref c), some kv, some (.tup ((keptP st ds).map pairD)), some (.int x.1), some (.int x.2), Option.none] ⟨_, _, rfl⟩
        rw [List.map_set] at this
        exact this
    · rintro ρ μ' ⟨y, z, rfl⟩ kp cb
      try walk_at "wr"
      have so := setS_ok ok (ps := keptP st ds) fun p hp => (ok.qs p (km p hp)).2.2
      have sc : s ≠ c := by
        have nd := b.nd
        simp only [List.nodup_cons, List.mem_cons, List.not_mem_nil, or_false, not_or] at nd
        exact Ne.symm nd.1.1
      refine ⟨_, _, cb.ins, by decide, c, s, setS st (keptP st ds), rfl, so.s, cb.s, sc, .inr ⟨_, _, _, _, _, cb.c⟩, fun μ'' F' k1 w1 hC => ?_⟩
      try walk_at "wr"
      have hs : μ s ≠ Option.none := some_ne b.s
      refine k μ'' F' ((kp.sub (G := [c, s, hh, p, w, q, l]) (by simp)).trans Nw.refl (k1.sub (by simp))) (fun a ha => ?_) hC
      rcases w1 a ha with z | z
      · simp only [List.mem_cons, List.not_mem_nil, or_false] at z
        rcases z with rfl | rfl
        · exact .inl (.head _)
        · exact .inl (.tail _ (.head _))
      · refine .inr ?_
        by_cases hm : μ a = Option.none
        · exact hm
        · by_cases e2 : a = s
          · have := cb.s
            rw [← e2, z] at this
            cases this
          · exact absurd ((kp a (by simpa using e2) hm).symm.trans z) hm
theorem c_Computer_cut_2 {P : Program} {w : World} {K : PySem.W.Frag} {mg : Str → Option Value} {base : Heap} (T : Txt w K mg) : CanV P w K mg base (L2.CX P w) [] 4 (He.ma K (He.ga K "Computer") "cut") 2 [] ([.inl 0, .inl 1].map (toArg [] [])) (sp_cut K) :=
  canV_of (ps := ["self", "kept"]) [.inl 0, .inl 1] T.f_Computer_cut (b_Computer_cut T) (fun _ _ _ _ _ _ us ws h1 h2 => match us, ws, h1, h2 with | [_, _], [], _, _ => rfl) (by decide)
section
variable {P : Program} {w : World} {K : PySem.W.Frag} {mg : Str → Option Value} {base : Heap}
theorem deed_read (T : Txt w K mg) : deedOk P w K mg base ("read", none) fun st => (.non, push (popS st) (readV st)) :=
  ⟨_, _, _, rfl, two T.f_do_read (b_do_read T) (by decide) (fun _ _ _ _ _ _ us ws h1 h2 => match us, ws, h1, h2 with | [_, _], [], _, _ => rfl), fun μ c F st Φ hC ok k => ⟨_, c, F, st, rfl, hC, ok, k⟩⟩
theorem deed_write (T : Txt w K mg) : deedOk P w K mg base ("write", none) writeG :=
  ⟨_, _, _, rfl, two T.f_do_write (b_do_write T) (by decide) (fun _ _ _ _ _ _ us ws h1 h2 => match us, ws, h1, h2 with | [_, _], [], _, _ => rfl), fun μ c F st Φ hC ok k => ⟨_, c, F, st, rfl, hC, ok, k⟩⟩
theorem deed_barrier (T : Txt w K mg) : deedOk P w K mg base ("barrier", none) barG :=
  ⟨_, _, _, rfl, two T.f_do_barrier (b_do_barrier T) (by decide) (fun _ _ _ _ _ _ us ws h1 h2 => match us, ws, h1, h2 with | [_, _], [], _, _ => rfl), fun μ c F st Φ hC ok k => ⟨_, c, F, st, rfl, hC, ok, k⟩⟩
end
end K25

set_option maxRecDepth 100000
set_option maxHeartbeats 4000000
namespace K25
open PySem L2 FW VL
local macro_rules | `(tactic| walk_at "vr") => `(tactic| simp only [wLenSet, wFor, wSetF, wAugF, wAug, wBM, wProp, wHeld, wVar, wC, wZ, wOp, wUn, wNil, wCons, wStar, wCB, wTup, wLst, wLstM, wTest, wAnd, wOr, VL.wNot, wAndV, wOrV, wNotV, wIf, wChain, wNoPart, wPart, wSl, wName, wGNil, wGCons, wGTup, wSub, wNext, VL.wSeq, wAsg, wDrop, wRet, wRetN, wIfS, wBreak, wCont, wPar, vI0, vI, vU, vAdd, vSub, vMul, vMod, vFdiv, vPow, vLt, vLe, vGt, vGe, vNeg, vIsN, vNotN, vAddA, vMulA, VL.wTru, iwL, iwT, wLc, vstart, List.map_cons, List.map_nil, List.cons_append, List.nil_append, List.set_cons_zero, List.set_cons_succ, List.getElem?_cons_zero, List.getElem?_cons_succ, Option.some.injEq, exists_eq_left, exists_eq_left', exists_eq', D.bl.injEq, D.int.injEq, D.str.injEq, D.tup.injEq, D.ref.injEq, List.cons.injEq, and_true, true_and, List.length_cons, List.length_nil, List.replicate, D.ty.injEq, exists_and_left, List.length, Nat.reduceAdd, wCall, wMake, wMeth, wFld, argsD, argD, toArg, List.getD_cons_zero, List.getD_cons_succ, List.map, iwS, vTupOf, Bool.false_eq_true, if_false, if_true, reduceIte, List.getElem?_nil, Nat.reduceSub, wipeR, vLen_lst, vLen_tup, vEq_ii, vEq_ss, vEq_bb, vIx_lst, vIx_tup, vIn_strs, vIn_s2, vIn_s3, vAll_map, vInK_s, vIxK_s, vInt_i, vAbs_i, atI_0, atI_1, atI_2, Bool.not_true, Bool.not_false, seqOf_lst, seqOf_tup, lstOf_lst, tupOf_tup, fzL_lst, N_is_list, N_is_integer, N_is_within, N_is_short, N_are_shorts, N_are_integers, N_is_lot, N_fixed, N_short_of, N_added, N_taken_from, N_multiplied, N_divided, N_left_over, N_is_less, N_is_equal, N_are_both, N_is_any, N_is_instruction, N_is_target_beyond, N_are_rows, N_Code___init__, N_Code___eq__, N_Code___iter__, N_push_short, N_popped, N_do_push, N_do_load, N_do_store, N_do_fetch, N_do_put, N_do_not, N_do_drop, N_do_copy, N_do_jump, N_do_unless, N_do_wait, N_do_sign, N_do_read, N_do_write, N_do_barrier, N_do_send, N_do_take, N_do_input, N_do_show, N_deed_of_row, N_is_disk_pair, N_are_disk_pairs, N_is_disk, N_Computer_power_on, N_Computer___init__, N_Computer_stack, N_Computer_disk, N_Computer_waiting, N_Computer_cards, N_Computer_memory, N_Computer_hand, N_Computer_cut, N_Computer_go, N_Computer_step, N__law_bench, N__law_turn, N__law_tool, N__law_wrap, N__law_signed, N__law_popped, N__law_written, N__law_settled, N__law_awake, N__law_outside, N__law_step, N__law_piece, N__law_is_so, N__law_moment_right, N_law])
local macro_rules | `(tactic| walk_at "wr") => `(tactic| simp only [vInt_bl, iwR1, iwR2, iwM, List.set_cons_succ, wLenSet, wFor, wSetF, wAugF, wAug, wBM, wProp, wHeld, wVar, wC, wZ, wOp, wUn, wNil, wCons, wStar, wCB, wTup, wLst, wLstM, wTest, wAnd, wOr, VL.wNot, wAndV, wOrV, wNotV, wIf, wChain, wNoPart, wPart, wSl, wName, wGNil, wGCons, wGTup, wSub, wNext, VL.wSeq, wAsg, wDrop, wRet, wRetN, wIfS, wBreak, wCont, wPar, vI0, vI, vU, vAdd, vSub, vMul, vMod, vFdiv, vPow, vLt, vLe, vGt, vGe, vNeg, vIsN, vNotN, vAddA_ii, vMulA_ii, VL.wTru, iwL, iwT, wLc, vstart, List.map_cons, List.map_nil, List.cons_append, List.nil_append, List.set_cons_zero, List.set_cons_succ, List.getElem?_cons_zero, List.getElem?_cons_succ, Option.some.injEq, exists_eq_left, exists_eq_left', exists_eq', D.bl.injEq, D.int.injEq, D.str.injEq, D.tup.injEq, D.ref.injEq, List.cons.injEq, and_true, true_and, List.length_cons, List.length_nil, List.replicate, D.ty.injEq, exists_and_left, List.length, Nat.reduceAdd, wCall, wMake, wMeth, wFld, argsD, argD, toArg, List.getD_cons_zero, List.getD_cons_succ, List.map, iwS, vTupOf, Bool.false_eq_true, if_false, if_true, reduceIte, List.getElem?_nil, Nat.reduceSub, wipeR, vLen_lst, vLen_tup, vEq_ii, vEq_ss, vEq_bb, vIx_lst, vIx_tup, vIn_strs, vIn_s2, vIn_s3, vAll_map, vInK_s, vIxK_s, vInt_i, vAbs_i, atI_0, atI_1, atI_2, Bool.not_true, Bool.not_false, seqOf_lst, seqOf_tup, lstOf_lst, tupOf_tup, fzL_lst, N_is_list, N_is_integer, N_is_within, N_is_short, N_are_shorts, N_are_integers, N_is_lot, N_fixed, N_short_of, N_added, N_taken_from, N_multiplied, N_divided, N_left_over, N_is_less, N_is_equal, N_are_both, N_is_any, N_is_instruction, N_is_target_beyond, N_are_rows, N_Code___init__, N_Code___eq__, N_Code___iter__, N_push_short, N_popped, N_do_push, N_do_load, N_do_store, N_do_fetch, N_do_put, N_do_not, N_do_drop, N_do_copy, N_do_jump, N_do_unless, N_do_wait, N_do_sign, N_do_read, N_do_write, N_do_barrier, N_do_send, N_do_take, N_do_input, N_do_show, N_deed_of_row, N_is_disk_pair, N_are_disk_pairs, N_is_disk, N_Computer_power_on, N_Computer___init__, N_Computer_stack, N_Computer_disk, N_Computer_waiting, N_Computer_cards, N_Computer_memory, N_Computer_hand, N_Computer_cut, N_Computer_go, N_Computer_step, N__law_bench, N__law_turn, N__law_tool, N__law_wrap, N__law_signed, N__law_popped, N__law_written, N__law_settled, N__law_awake, N__law_outside, N__law_step, N__law_piece, N__law_is_so, N__law_moment_right, N_law, ofStr_inj, ofStr_beq, String.reduceEq, decide_true, decide_false, Bool.or_false, Bool.or_true, Bool.false_or, Bool.true_or, Bool.and_true, Bool.and_false, Bool.true_and, Bool.false_and, vModN, iwE, iwEM])
local macro_rules | `(tactic| walk_at "frz") => `(tactic| ((try walk_at "vr"); refine ⟨_, frzOf_lst Mu.same, ?_⟩; rw [Mu.del_set (by assumption)]))
theorem toPys_ints (μ : Mu) : ∀ cs : List Int, toPys μ (cs.map .int) = some (cs.map .int)
  | [] => rfl
  | c :: cs => by
    rw [List.map_cons, List.map_cons]
    unfold toPys
    rw [toPys_ints μ cs]
    rfl
theorem canLay_ints : ∀ cs : List Int, PyData.canLayAll0 (cs.map .int) = true
  | [] => rfl
  | c :: cs => by rw [List.map_cons, PyData.canLayAll0, canLay_ints cs]; rfl
theorem depth_ints : ∀ cs : List Int, PyData.depthAll (cs.map .int) = 0
  | [] => rfl
  | c :: cs => by rw [List.map_cons, PyData.depthAll, depth_ints cs]; rfl
theorem shaped_ints (cs : List Int) : SeqAt.shaped (.list (cs.map .int)) = true := by
  unfold SeqAt.shaped
  rw [Bool.and_eq_true, decide_eq_true_eq, PyData.canLay0, PyData.depth, depth_ints]
  exact ⟨canLay_ints cs, by decide⟩
theorem eqv_nil (cs : List Int) : PyData.eqv (.list (cs.map .int)) (.list []) = decide (cs = []) := by
  cases cs <;> simp [PyData.eqv, PyData.eqvAll]
theorem eqD_nil {μ : Mu} {x : D} {cs : List Int} (h : toPyT μ x = some (.list (cs.map .int))) (hx : (∃ a, x = .ref a) ∨ ∃ ds, x = .lst ds) : eqD μ x (.lst []) = some (decide (cs = [])) := by
  have e2 : toPyT μ (.lst []) = some (.list []) := rfl
  have go : (match toPyT μ x, toPyT μ (.lst []) with | some p, some q => pyEq p q | _, _ => none) = some (decide (cs = [])) := by
    rw [h, e2]
    show pyEq _ _ = _
    unfold pyEq
    rw [shaped_ints, show SeqAt.shaped (.list []) = true from shaped_ints []]
    simp only [Bool.and_self, if_true]
    rw [eqv_nil]
  rcases hx with ⟨a, rfl⟩ | ⟨ds, rfl⟩ <;> exact go
/-! ### draws -/
def mistO (cs : List Int) (n r : Int) : MO := .lst [.lst (cs.map .int), .int n, .int r]
/-- at a the draws' list; b draws more may be asked -/
def Mist (μ : Mu) (a : Addr) (b : Nat) : Prop := ∃ cs n r, μ a = some (mistO cs (n : Nat) r) ∧ n + b ≤ 2 ^ 20
theorem Mist.mono {μ : Mu} {a : Addr} {b b' : Nat} (h : Mist μ a b) (l : b' ≤ b) : Mist μ a b' := by
  obtain ⟨cs, n, r, e, hb⟩ := h
  exact ⟨cs, n, r, e, by omega⟩
theorem Mist.keep {μ μ' : Mu} {a : Addr} {b : Nat} {F : List Addr} (h : Mist μ a b) (k : Kp F μ μ') (n : a ∉ F) : Mist μ' a b := by
  obtain ⟨cs, m, r, e, hb⟩ := h
  exact ⟨cs, m, r, by rw [k a n (by rw [e]; exact nofun)]; exact e, hb⟩
def sp__law_bench : VSp := fun ds μ ev Φ => ∃ ns : List Int, ds = [.sq (ns.map .int)] ∧ ∀ a cs, μ a = none → Φ (.ref a) (μ.set a (mistO cs 0 0))
theorem b__law_bench {P : Program} {w : World} {K : PySem.W.Frag} {mg : Str → Option Value} {base : Heap} (T : Txt w K mg) : ∀ fd, FunD K "_law_bench" "_law_bench" (defArgs s__law_bench) (defBody s__law_bench) (defScope s__law_bench) [] [] (He.ga K "_law_bench") fd → FnG P w K mg base CX0 1 (He.ga K "_law_bench") fd ["_law_script"] (lift K [] (sp__law_bench)) := by
  intro fd F
  refine fun_okD (N := N__law_bench) F sc__law_bench (fun ds μ ev Φ h => ?size) (fun cdv A outer s H E hG hr => ⟨_, (vss_one (vs_ret (ve_lstM (va_cons (ve_z (ve_lc (own := [("_law_cell", 1)]) (p := (.name 1)) rfl sc__law_bench.nd (vi_list (ve_slice sl_list s_slL (vv 0) vo_none (vo_some ve_int))) (blkOk_by (N := N__law_bench) (sc := defScope s__law_bench) (by decide +kernel)) (fun _ _ _ _ _ => pg_name (i := 1) sc__law_bench.nd rfl (Or.inl rfl)) (fun _ _ _ _ _ => vts_nil) (fun _ _ _ _ _ => (ve_callTy call_intA s_int (by rfl) T.b_int (by decide +kernel) (va_cons (vv 1) va_nil))) (by decide))) (va_cons ve_int (va_cons ve_int va_nil)))))), fun ds μ ev Φ h => ?_⟩)
  · obtain ⟨ns, rfl, _⟩ := h; rfl
  · obtain ⟨ns, rfl, k⟩ := h
    walk_at "vr"
    have hz : ∀ (cs : List Int), cutD (cs.map D.int) none (some 63) = (((cs.drop (HT.sIx cs.length 0 none)).take (HT.sIx cs.length cs.length (some 63) - HT.sIx cs.length 0 none))).map D.int := fun cs => by
      unfold cutD
      rw [List.length_map, List.map_take, List.map_drop]
    refine ⟨ns.map .int, .inl rfl, ?_⟩
    rw [hz]
    have hlen : ((ns.drop (HT.sIx ns.length 0 none)).take (HT.sIx ns.length ns.length (some 63) - HT.sIx ns.length 0 none)).length ≤ 63 := by
      rw [List.length_take]
      have : HT.sIx ns.length ns.length (some 63) ≤ 63 := by simp [HT.sIx]; omega
      omega
    generalize (ns.drop (HT.sIx ns.length 0 none)).take (HT.sIx ns.length ns.length (some 63) - HT.sIx ns.length 0 none) = cs at hlen ⊢
    refine ⟨cs.map .int, rfl, ?_⟩
    have hcs : (cs.map D.int).length ≤ sizeLine := by rw [List.length_map]; exact sizeOk (Nat.le_trans hlen (by decide))
    refine lcm (fun d => d) hcs (fun d hd => ⟨_, rfl, fun Ds l Ψ nD q => ?_⟩) fun Ds nD => ?_
    · obtain ⟨c, _, rfl⟩ := List.mem_map.mp hd
      walk_at "wr"
      exact q
    · walk_at "frz"
      refine ⟨sizeOk (by decide), fun p hp => ?_⟩
      have := k p cs hp
      rw [List.map_id']
      exact this
theorem c__law_bench_1 {P : Program} {w : World} {K : PySem.W.Frag} {mg : Str → Option Value} {base : Heap} (T : Txt w K mg) : CanV P w K mg base CX0 [] 1 (He.ga K "_law_bench") 1 [] ([.inl 0].map (toArg [] [])) (sp__law_bench) :=
  canV_of (ps := ["_law_script"]) [.inl 0] T.f__law_bench (b__law_bench T) (fun _ _ _ _ _ _ us ws h1 h2 => match us, ws, h1, h2 with | [_], [], _, _ => rfl) (by decide)
theorem mix_ok (z : Int) {n : Nat} (hn : (n : Int) < 1048576) : CMul 43013 (n : Int) ∧ CPow (z % 2147483587 + 43013 * (n : Int) + 8069) 5 ∧ CMul 2 (n : Int) ∧ CMul ((z % 2147483587 + 43013 * (n : Int) + 8069) ^ Int.toNat 5 % 2147483629) (2 * (n : Int) + 6703) ∧ CMul 57301 (n : Int) ∧ CMul (57301 * (n : Int)) (n : Int) ∧
    CPow ((z % 2147483587 + 43013 * (n : Int) + 8069) ^ Int.toNat 5 % 2147483629 * (2 * (n : Int) + 6703) + 57301 * (n : Int) * (n : Int) + 43013) 3 ∧ CDivA (((z % 2147483587 + 43013 * (n : Int) + 8069) ^ Int.toNat 5 % 2147483629 * (2 * (n : Int) + 6703) + 57301 * (n : Int) * (n : Int) + 43013) ^ Int.toNat 3 % 2147483563) 64 := by
  have h0 : 0 ≤ z % 2147483587 := Int.emod_nonneg _ (by decide)
  have h1 : z % 2147483587 < 2147483587 := Int.emod_lt_of_pos _ (by decide)
  generalize (z % 2147483587 + 43013 * (n : Int) + 8069) ^ Int.toNat 5 = y
  have y0 : 0 ≤ y % 2147483629 := Int.emod_nonneg _ (by decide)
  have y1 : y % 2147483629 < 2147483629 := Int.emod_lt_of_pos _ (by decide)
  generalize y % 2147483629 = x at y0 y1 ⊢
  have e1 : 0 ≤ x * (2 * (n : Int) + 6703) := Int.mul_nonneg y0 (by omega)
  have e2 : x * (2 * (n : Int) + 6703) ≤ 2147483629 * (2097152 + 6703) := Int.mul_le_mul (by omega) (by omega) (by omega) (by decide)
  have e3 : 0 ≤ 57301 * (n : Int) * (n : Int) := Int.mul_nonneg (by omega) (by omega)
  have e4 : 57301 * (n : Int) * (n : Int) ≤ (57301 * 1048576) * 1048576 := Int.mul_le_mul (by omega) (by omega) (by omega) (by decide)
  generalize x * (2 * (n : Int) + 6703) = u at e1 e2 ⊢
  generalize 57301 * (n : Int) * (n : Int) = v at e3 e4 ⊢
  exact ⟨.inl ⟨by decide, by decide⟩, ⟨by decide, by decide, by omega⟩, .inl ⟨by decide, by decide⟩, .inl ⟨by omega, by omega⟩, .inl ⟨by decide, by decide⟩, .inl ⟨by omega, by omega⟩, ⟨by decide, by decide, by omega⟩, ⟨by decide, by decide⟩⟩
def sp__law_turn : VSp := fun ds μ ev Φ => ∃ (a : Addr) (many : Int) (b : Nat), ds = [.ref a, .int many] ∧ 0 < many ∧ many < 2 ^ 40 ∧ Mist μ a (b + 1) ∧ ∀ v μ', 0 ≤ v → v < many → Kp [a] μ μ' → Mist μ' a b → Φ (.int v) μ'
theorem b__law_turn {P : Program} {w : World} {K : PySem.W.Frag} {mg : Str → Option Value} {base : Heap} (T : Txt w K mg) : ∀ fd, FunD K "_law_turn" "_law_turn" (defArgs s__law_turn) (defBody s__law_turn) (defScope s__law_turn) [] [] (He.ga K "_law_turn") fd → FnG P w K mg base CX0 1 (He.ga K "_law_turn") fd ["_law_bench_here", "_law_many"] (lift K [] (sp__law_turn)) := by
  intro fd F
  refine fun_okD (N := N__law_turn) F sc__law_turn (fun ds μ ev Φ h => ?size) (fun cdv A outer s H E hG hr => ⟨_, (vss_cons (vs_if (vt_cmp (op_eqA hr.units) s_eq (ve_ix ix_seq s_ix (vv 0) ve_int) (ve_lst va_nil) (nomark _))
 (vss_one (vs_ret ve_int))
 vss_nil)
 (vss_cons (vs_if (vt_cmp op_gt s_gt (ve_ix ix_seq s_ix (vv 0) ve_int) ve_int (nomark _))
 (vss_cons (vs_set (i := 2) sc__law_turn.nd rfl (Or.inl rfl) (ve_callTy call_intA s_int (by rfl) T.b_int (by decide +kernel) (va_cons (ve_ix ix_seq s_ix (vv 0) ve_int) va_nil)))
 (vss_cons (vs_asg (ve_op op_fdivA s_fdiv (vv 2) (vv 1)) (vg_sub (fun _ _ h1 h2 => pg_sub h1 h2 set_list) s_setL (vv 0) ve_int))
 (vss_one (vs_ret (ve_op op_mod s_mod (ve_callTy call_intA s_int (by rfl) T.b_int (by decide +kernel) (va_cons (vv 2) va_nil)) (vv 1))))))
 vss_nil)
 (vss_cons (vs_set (i := 3) sc__law_turn.nd rfl (Or.inl rfl) (ve_ix ix_seq s_ix (vv 0) ve_int))
 (vss_cons (vs_asg (ve_op op_addA s_addA (vv 3) ve_int) (vg_sub (fun _ _ h1 h2 => pg_sub h1 h2 set_list) s_setL (vv 0) ve_int))
 (vss_cons (vs_set (i := 4) sc__law_turn.nd rfl (Or.inl rfl) (ve_ix ix_seq s_ix (ve_ix ix_seq s_ix (vv 0) ve_int) (ve_op op_mod s_mod (ve_callTy call_intA s_int (by rfl) T.b_int (by decide +kernel) (va_cons (vv 3) va_nil)) (ve_callB call_lenA s_len (by rfl) T.b_len (by decide +kernel) (va_cons (ve_ix ix_seq s_ix (vv 0) ve_int) va_nil)))))
 (vss_cons (vs_if (PW.pt (vw_and (vt_cmp op_lt s_lt (vv 3) (ve_callB call_lenA s_len (by rfl) T.b_len (by decide +kernel) (va_cons (ve_ix ix_seq s_ix (vv 0) ve_int) va_nil)) (nomark _)) (vw_and1 (vt_cmp op_ge s_ge (ve_callB call_absA s_abs (by rfl) T.b_abs (by decide +kernel) (va_cons (vv 4) va_nil)) (ve_op op_pow s_pow ve_int ve_int) (nomark _)))))
 (vss_cons (vs_set (i := 2) sc__law_turn.nd rfl (Or.inl rfl) (ve_op op_addA s_addA (ve_op op_mulA s_mulA ve_int (ve_op op_sub s_sub (ve_callB call_absA s_abs (by rfl) T.b_abs (by decide +kernel) (va_cons (vv 4) va_nil)) (ve_op op_pow s_pow ve_int ve_int))) (ve_callTy call_intA s_int (by rfl) T.b_int (by decide +kernel) (va_cons (ve_cmp op_lt s_lt (vv 4) ve_int (nomark _)) va_nil))))
 (vss_cons (vs_asg (ve_op op_fdivA s_fdiv (ve_callTy call_intA s_int (by rfl) T.b_int (by decide +kernel) (va_cons (vv 2) va_nil)) (vv 1)) (vg_sub (fun _ _ h1 h2 => pg_sub h1 h2 set_list) s_setL (vv 0) ve_int))
 (vss_one (vs_ret (ve_op op_mod s_mod (ve_callTy call_intA s_int (by rfl) T.b_int (by decide +kernel) (va_cons (vv 2) va_nil)) (vv 1))))))
 vss_nil)
 (vss_cons (vs_set (i := 5) sc__law_turn.nd rfl (Or.inl rfl) (ve_op op_mod s_mod (ve_callTy call_intA s_int (by rfl) T.b_int (by decide +kernel) (va_cons (ve_op op_pow s_pow (ve_op op_addA s_addA (ve_op op_addA s_addA (ve_op op_mod s_mod (ve_callTy call_intA s_int (by rfl) T.b_int (by decide +kernel) (va_cons (vv 4) va_nil)) ve_int) (ve_op op_mulA s_mulA ve_int (vv 3))) ve_int) ve_int) va_nil)) ve_int))
 (vss_cons (vs_set (i := 5) sc__law_turn.nd rfl (Or.inl rfl) (ve_op op_mod s_mod (ve_callTy call_intA s_int (by rfl) T.b_int (by decide +kernel) (va_cons (ve_op op_pow s_pow (ve_op op_addA s_addA (ve_op op_addA s_addA (ve_op op_mulA s_mulA (vv 5) (ve_op op_addA s_addA (ve_op op_mulA s_mulA ve_int (vv 3)) ve_int)) (ve_op op_mulA s_mulA (ve_op op_mulA s_mulA ve_int (vv 3)) (vv 3))) ve_int) ve_int) va_nil)) ve_int))
 (vss_one (vs_ret (ve_op op_mod s_mod (ve_callTy call_intA s_int (by rfl) T.b_int (by decide +kernel) (va_cons (ve_op op_fdivA s_fdiv (vv 5) ve_int) va_nil)) (vv 1)))))))))))), fun ds μ ev Φ h => ?_⟩)
  · obtain ⟨a, many, b, rfl, _⟩ := h; rfl
  · obtain ⟨a, many, b, rfl, m0, m1, ⟨cs, n, r, e, hb⟩, k⟩ := h
    walk_at "wr"
    simp only [vIx_iff (seqOf_of e)]
    walk_at "wr"
    refine ⟨sizeOk (by decide), ?_⟩
    rw [vEq_iff (eqD_nil (cs := cs) (by show toPy μ (.lst _) = _; rw [toPy, toPys_ints]; rfl) (.inr ⟨_, rfl⟩))]
    walk_at "wr"
    by_cases hc : cs = []
    · rw [if_pos (by simpa using hc)]
      exact k 0 μ (by omega) m0 Kp.refl ⟨cs, n, r, e, by omega⟩
    · rw [if_neg (by simpa using hc)]
      simp only [vIx_iff (seqOf_of e)]
      walk_at "wr"
      have hm : CDivA (0 : Int) many → ∀ x, CDivA x many := fun h x => h
      have cd : ∀ x, CDivA x many := fun x => ⟨by omega, Nat.lt_trans (log2_lt (k := 40) (by omega) (by decide)) (by decide)⟩
      by_cases hr0 : 0 < r
      · rw [if_pos (by simpa using hr0)]
        refine ⟨cd r, (vSet_iff e).mpr ⟨2, rfl, m0, ?_⟩⟩
        exact k (r % many) _ (Int.emod_nonneg _ (by omega)) (Int.emod_lt_of_pos _ m0) (Kp.set (.head _)) ⟨cs, n, r.fdiv many, by rw [Mu.same]; rfl, by omega⟩
      · rw [if_neg (by simpa using hr0)]
        refine (vSet_iff e).mpr ⟨1, rfl, ?_⟩
        have e1 : (μ.set a (.lst (([.lst (cs.map D.int), .int n, .int r] : List D).set 1 (.int ((n : Int) + 1))))) a = some (mistO cs ((n + 1 : Nat)) r) := by rw [Mu.same]; simp [mistO]
        have k1 : Kp [a] μ (μ.set a (.lst (([.lst (cs.map D.int), .int n, .int r] : List D).set 1 (.int ((n : Int) + 1))))) := Kp.set (.head _)
        show _
        generalize μ.set a (.lst (([.lst (cs.map D.int), .int n, .int r] : List D).set 1 (.int ((n : Int) + 1)))) = μ1 at e1 k1 ⊢
        simp only [vIx_iff (seqOf_of e1)]
        walk_at "wr"
        have hl : (0 : Int) < (cs.length : Int) := by
          cases cs with
          | nil => exact absurd rfl hc
          | cons _ _ => simp
        simp only [List.length_map]
        refine ⟨hl, ?_⟩
        obtain ⟨j, hj⟩ : ∃ j : Nat, (n : Int) % (cs.length : Int) = (j : Int) := ⟨((n : Int) % (cs.length : Int)).toNat, by have := Int.emod_nonneg (n : Int) (b := (cs.length : Int)) (by omega); omega⟩
        have hjl : j < cs.length := by have := Int.emod_lt_of_pos (n : Int) hl; omega
        rw [hj]
        refine ⟨.int cs[j], atI_nat (by simp [hjl]), ?_⟩
        generalize cs[j] = z
        have mist : ∀ r', Mist (μ1.set a (mistO cs ((n + 1 : Nat)) r')) a b := fun r' => ⟨cs, n + 1, r', Mu.same, by omega⟩
        have mist1 : Mist μ1 a b := ⟨cs, n + 1, r, e1, by omega⟩
        have hn : (n : Int) < 1048576 := by omega
        simp only [vIx_iff (seqOf_of e1)]
        walk_at "wr"
        have p18 : (10 : Int) ^ Int.toNat 18 = 1000000000000000000 := by decide
        have c18 : CPow 10 18 := ⟨by decide, by decide, by decide⟩
        have last : ∀ x : Int, Φ (.int (x % many)) μ1 := fun x => k _ _ (Int.emod_nonneg _ (by omega)) (Int.emod_lt_of_pos _ m0) k1 mist1
        have mix := mix_ok z (n := n) hn
        rw [p18]
        generalize (if z < 0 then -z else z) = y
        refine ite_sp (fun h1 => ?_) (fun h1 => ?_)
        · refine ⟨c18, ite_sp (fun h2 => ?_) (fun h2 => ?_)⟩
          · refine ⟨c18, .inl ⟨by decide, by decide⟩, cd _, (vSet_iff e1).mpr ⟨2, rfl, m0, ?_⟩⟩
            refine k _ _ (Int.emod_nonneg _ (by omega)) (Int.emod_lt_of_pos _ m0) (k1.trans Nw.refl (Kp.set (.head _))) ?_
            exact mist _
          · obtain ⟨c1, c2, c3, c4, c5, c6, c7, c8⟩ := mix
            exact ⟨by decide, c1, c2, by decide, c3, c4, c5, c6, c7, by decide, c8, m0, last _⟩
        · obtain ⟨c1, c2, c3, c4, c5, c6, c7, c8⟩ := mix
          exact ⟨by decide, c1, c2, by decide, c3, c4, c5, c6, c7, by decide, c8, m0, last _⟩
theorem c__law_turn_2 {P : Program} {w : World} {K : PySem.W.Frag} {mg : Str → Option Value} {base : Heap} (T : Txt w K mg) : CanV P w K mg base CX0 [] 1 (He.ga K "_law_turn") 2 [] ([.inl 0, .inl 1].map (toArg [] [])) (sp__law_turn) :=
  canV_of (ps := ["_law_bench_here", "_law_many"]) [.inl 0, .inl 1] T.f__law_turn (b__law_turn T) (fun _ _ _ _ _ _ us ws h1 h2 => match us, ws, h1, h2 with | [_, _], [], _, _ => rfl) (by decide)
def sp__law_tool : VSp := fun ds μ ev Φ => ∃ (a : Addr) (es : List D) (b : Nat), ds = [.ref a, .lst es] ∧ es ≠ [] ∧ es.length ≤ 1000 ∧ Mist μ a (b + 1) ∧ ∀ e μ', e ∈ es → Kp [a] μ μ' → Mist μ' a b → Φ e μ'
theorem b__law_tool {P : Program} {w : World} {K : PySem.W.Frag} {mg : Str → Option Value} {base : Heap} (T : Txt w K mg) : ∀ fd, FunD K "_law_tool" "_law_tool" (defArgs s__law_tool) (defBody s__law_tool) (defScope s__law_tool) [] [] (He.ga K "_law_tool") fd → FnG P w K mg base CX0 2 (He.ga K "_law_tool") fd ["_law_bench_here", "_law_some"] (lift K [] (sp__law_tool)) := by
  intro fd F
  refine fun_okD (N := N__law_tool) F sc__law_tool (fun ds μ ev Φ h => ?size) (fun cdv A outer s H E hG hr => ⟨_, (vss_one (vs_ret (ve_ix ix_seq s_ix (vv 1) (ve_call T.g__law_turn (c__law_turn_2 T) hG hr (by decide) pass0 sel_0 rfl (va_cons (vv 0) (va_cons (ve_callB call_lenA s_len (by rfl) T.b_len (by decide +kernel) (va_cons (vv 1) va_nil)) va_nil)) vk_nil)))), fun ds μ ev Φ h => ?_⟩)
  · obtain ⟨a, es, b, rfl, _⟩ := h; rfl
  · obtain ⟨a, es, b, rfl, hne, hl, hm, k⟩ := h
    walk_at "wr"
    refine ⟨a, (es.length : Int), b, rfl, by cases es with | nil => exact absurd rfl hne | cons _ _ => simp, by omega, hm, fun v μ' v0 v1 k1 m1 => ?_⟩
    obtain ⟨j, rfl⟩ : ∃ j : Nat, v = (j : Int) := ⟨v.toNat, by omega⟩
    have hj : j < es.length := by omega
    walk_at "wr"
    exact ⟨es[j], atI_nat (by simp [hj]), k _ _ (List.getElem_mem hj) k1 m1⟩
theorem c__law_tool_2 {P : Program} {w : World} {K : PySem.W.Frag} {mg : Str → Option Value} {base : Heap} (T : Txt w K mg) : CanV P w K mg base CX0 [] 2 (He.ga K "_law_tool") 2 [] ([.inl 0, .inl 1].map (toArg [] [])) (sp__law_tool) :=
  canV_of (ps := ["_law_bench_here", "_law_some"]) [.inl 0, .inl 1] T.f__law_tool (b__law_tool T) (fun _ _ _ _ _ _ us ws h1 h2 => match us, ws, h1, h2 with | [_, _], [], _, _ => rfl) (by decide)

theorem Mist.setN {μ : Mu} {a f : Addr} {b : Nat} {m : MO} (h : Mist μ a b) (n : a ≠ f) : Mist (μ.set f m) a b := h.keep (F := [f]) (Kp.set (.head _)) (by simpa using n)
theorem Mist.ne {μ : Mu} {a f : Addr} {b : Nat} (h : Mist μ a b) (hf : μ f = none) : a ≠ f := fun e => by obtain ⟨_, _, _, e2, _⟩ := h; rw [e, hf] at e2; cases e2
end K25

set_option maxRecDepth 100000
set_option maxHeartbeats 4000000
namespace K25
open PySem L2 FW VL

/-! ### codes of rows; new computers; what keeps a computer -/
theorem fz_insD (i : Ins) : ∃ r, fz (insD i) = some (.str i.1 :: r) ∧ ((r = [] ∧ i.2 = none) ∨ ∃ n, r = [.int n] ∧ i.2 = some n) := by
  obtain ⟨w, o⟩ := i
  cases o with
  | none => exact ⟨[], rfl, .inl ⟨rfl, rfl⟩⟩
  | some n => exact ⟨[.int n], rfl, .inr ⟨n, rfl, rfl⟩⟩
theorem insF_insD {i : Ins} (h : okIns i = true) : insF (insD i) = true := by
  obtain ⟨w, o⟩ := i
  unfold okIns at h
  cases o with
  | none =>
    cases q : NUMS.lookup w with
    | none => simp only [q] at h; simp only [insF, insD, fz, insL, q, List.isEmpty_nil, Bool.true_and]; exact h
    | some p => simp only [q] at h; cases h
  | some n =>
    cases q : NUMS.lookup w with
    | none => simp only [q] at h; cases h
    | some p => simp only [q] at h; simp only [insF, insD, fz, insL, q, oneIn, within]; exact h
def TgtOk (len : Nat) (i : Ins) : Prop := ∀ n, i.2 = some n → (i.1 = "jump" ∨ i.1 = "unless") → n ≤ len
theorem bey_insD {len : Nat} {i : Ins} (h : TgtOk len i) : beyF len (insD i) = false := by
  obtain ⟨w, o⟩ := i
  cases o with
  | none => simp [beyF, insD, fz, beyB]
  | some n =>
    simp only [beyF, insD, fz, beyB, Bool.and_eq_false_iff, decide_eq_false_iff_not]
    by_cases hw : w = "jump" ∨ w = "unless"
    · exact .inr (by have := h n rfl hw; omega)
    · refine .inl ?_
      rw [Bool.or_eq_false_iff, beq_eq_false_iff_ne, beq_eq_false_iff_ne]
      exact ⟨fun e => hw (.inl e), fun e => hw (.inr e)⟩
theorem pl_insD (i : Ins) : Pl 3 (insD i) := by
  obtain ⟨w, o⟩ := i
  cases o with
  | none => intro d hd; simp at hd; subst hd; trivial
  | some n => intro d hd; simp at hd; rcases hd with rfl | rfl <;> trivial
theorem rows_code {is : List Ins} (h1 : 1 ≤ is.length) (h2 : is.length ≤ 10000) (ok : ∀ i ∈ is, okIns i = true) (tg : ∀ i ∈ is, TgtOk is.length i) : Pl 4 (.lst (is.map insD)) ∧ rowsF (.lst (is.map insD)) = true ∧ codeOf (.lst (is.map insD)) = is ∧ is.all okIns = true := by
  refine ⟨fun d hd => ?_, ?_, ?_, List.all_eq_true.mpr ok⟩
  · obtain ⟨i, _, rfl⟩ := List.mem_map.mp hd
    exact pl_insD i
  · simp only [rowsF, fz, List.length_map, Bool.and_eq_true, decide_eq_true_eq, Bool.not_eq_true']
    refine ⟨⟨h1, h2⟩, List.all_eq_true.mpr fun d hd => ?_, List.any_eq_false.mpr fun d hd => ?_⟩
    · obtain ⟨i, hi, rfl⟩ := List.mem_map.mp hd
      exact insF_insD (ok i hi)
    · obtain ⟨i, hi, rfl⟩ := List.mem_map.mp hd
      rw [bey_insD (tg i hi)]; simp
  · unfold codeOf
    show ((is.map insD)).map insOf = is
    rw [List.map_map]
    exact (List.map_congr_left fun i _ => insOf_insD i).trans (List.map_id _)
theorem comp_has {K : PySem.W.Frag} {μ : Mu} {c : Addr} {F : List Addr} {st : CS} (h : CompAt K μ c F st) : ∀ x ∈ F, μ x ≠ none := by
  obtain ⟨s, hh, p, w, q, l, rfl, b⟩ := h
  intro x hx
  simp only [List.mem_cons, List.not_mem_nil, or_false] at hx
  rcases hx with rfl | rfl | rfl | rfl | rfl | rfl | rfl
  · rw [b.c]; exact nofun
  · rw [b.s]; exact nofun
  · rw [b.h]; exact nofun
  · rw [b.p]; exact nofun
  · rw [b.w]; exact nofun
  · rw [b.q]; exact nofun
  · rw [b.l]; exact nofun
theorem comp_keep {K : PySem.W.Frag} {μ μ' : Mu} {c : Addr} {F G : List Addr} {st : CS} (h : CompAt K μ c F st) (k : Kp G μ μ') (ap : ∀ x, x ∈ F → x ∉ G) : CompAt K μ' c F st := by
  obtain ⟨s, hh, p, w, q, l, rfl, b⟩ := h
  have e : ∀ {x : Addr} {m : MO}, x ∈ [c, s, hh, p, w, q, l] → μ x = some m → μ' x = some m := fun hx hm => by rw [k _ (ap _ hx) (by rw [hm]; exact nofun)]; exact hm
  exact ⟨s, hh, p, w, q, l, rfl, b.nd, e (by simp) b.c, e (by simp) b.s, e (by simp) b.h, e (by simp) b.p, e (by simp) b.w, e (by simp) b.q, e (by simp) b.l⟩
theorem disk0 (μ : Mu) : DiskV μ (.tup []) ∧ diskB μ (.tup []) = true ∧ settledI μ (.tup []) = zeros 200 := ⟨⟨⟨_, rfl⟩, fun _ => ⟨[], .inl (.inr rfl), by simp, fun _ z => nomatch z⟩⟩, by simp [diskB, arePB, isLst, tyD, itemsOf, seqOf, manyOf]; rfl, rfl⟩
theorem new_comp {K : PySem.W.Frag} {μ : Mu} {ev : EV} {Ψ : Addr → Mu → Prop} {is : List Ins} (hall : is.all okIns = true) (hl : is.length ≤ 10000) (k : ∀ c μ' F', μ c = none → Kp [] μ μ' → (∀ x ∈ F', μ x = none) → CompAt K μ' c F' (onS (preS is)) → Ψ c μ') :
    ∀ c, μ c = none → sp_Computer___init__ K [.ref c, codeD K is, .tup []] (μ.set c (.ins (cComp K) [] [])) ev fun d μ3 => d = .non ∧ Ψ c μ3 := fun c hc =>
  ⟨c, _, _, rfl, Mu.same, .inr ⟨is, rfl, hall, hl, (disk0 _).1, .inr ⟨(disk0 _).2.1, fun μ' F' k1 w1 hC => ⟨rfl, k c μ' F' hc (fun x _ hx => by
    have xc : x ≠ c := fun e => hx (by rw [e]; exact hc)
    rw [k1 x (by simpa using xc) (by rw [Mu.ne xc]; exact hx), Mu.ne xc]) (fun x hx => by
      rcases w1 x hx with z | z
      · rw [List.mem_singleton.mp z]; exact hc
      · exact (set_none z).2) (by rw [(disk0 _).2.2] at hC; exact hC)⟩⟩⟩⟩
theorem zeros_sh {n : Nat} : ∀ v ∈ zeros n, Sh v := fun v hv => by rw [(List.mem_replicate.mp hv).2]; exact sh_zero
theorem onS_ok (is : List Ins) : (onS (preS is)).Ok := ⟨by simp [onS], by simp [onS, zeros], by show (zeros 200).length = 200; simp [zeros], by show (zeros 200).length = 200; simp [zeros], by simp [onS], by simp [onS], fun v hv => (nomatch hv), zeros_sh, zeros_sh, zeros_sh, fun p hp => (nomatch hp),
  fun p hp => (nomatch (List.mem_replicate.mp hp).2), sh_zero⟩
end K25

set_option maxRecDepth 100000
set_option maxHeartbeats 4000000
namespace K25
open PySem L2 FW VL
local macro_rules | `(tactic| walk_at "wr") => `(tactic| simp only [vInt_bl, iwR1, iwR2, iwM, List.set_cons_succ, wLenSet, wFor, wSetF, wAugF, wAug, wBM, wProp, wHeld, wVar, wC, wZ, wOp, wUn, wNil, wCons, wStar, wCB, wTup, wLst, wLstM, wTest, wAnd, wOr, VL.wNot, wAndV, wOrV, wNotV, wIf, wChain, wNoPart, wPart, wSl, wName, wGNil, wGCons, wGTup, wSub, wNext, VL.wSeq, wAsg, wDrop, wRet, wRetN, wIfS, wBreak, wCont, wPar, vI0, vI, vU, vAdd, vSub, vMul, vMod, vFdiv, vPow, vLt, vLe, vGt, vGe, vNeg, vIsN, vNotN, vAddA_ii, vMulA_ii, VL.wTru, iwL, iwT, wLc, vstart, List.map_cons, List.map_nil, List.cons_append, List.nil_append, List.set_cons_zero, List.set_cons_succ, List.getElem?_cons_zero, List.getElem?_cons_succ, Option.some.injEq, exists_eq_left, exists_eq_left', exists_eq', D.bl.injEq, D.int.injEq, D.str.injEq, D.tup.injEq, D.ref.injEq, List.cons.injEq, and_true, true_and, List.length_cons, List.length_nil, List.replicate, D.ty.injEq, exists_and_left, List.length, Nat.reduceAdd, wCall, wMake, wMeth, wFld, argsD, argD, toArg, List.getD_cons_zero, List.getD_cons_succ, List.map, iwS, vTupOf, Bool.false_eq_true, if_false, if_true, reduceIte, List.getElem?_nil, Nat.reduceSub, wipeR, vLen_lst, vLen_tup, vEq_ii, vEq_ss, vEq_bb, vIx_lst, vIx_tup, vIn_strs, vIn_s2, vIn_s3, vAll_map, vInK_s, vIxK_s, vInt_i, vAbs_i, atI_0, atI_1, atI_2, Bool.not_true, Bool.not_false, seqOf_lst, seqOf_tup, lstOf_lst, tupOf_tup, fzL_lst, N_is_list, N_is_integer, N_is_within, N_is_short, N_are_shorts, N_are_integers, N_is_lot, N_fixed, N_short_of, N_added, N_taken_from, N_multiplied, N_divided, N_left_over, N_is_less, N_is_equal, N_are_both, N_is_any, N_is_instruction, N_is_target_beyond, N_are_rows, N_Code___init__, N_Code___eq__, N_Code___iter__, N_push_short, N_popped, N_do_push, N_do_load, N_do_store, N_do_fetch, N_do_put, N_do_not, N_do_drop, N_do_copy, N_do_jump, N_do_unless, N_do_wait, N_do_sign, N_do_read, N_do_write, N_do_barrier, N_do_send, N_do_take, N_do_input, N_do_show, N_deed_of_row, N_is_disk_pair, N_are_disk_pairs, N_is_disk, N_Computer_power_on, N_Computer___init__, N_Computer_stack, N_Computer_disk, N_Computer_waiting, N_Computer_cards, N_Computer_memory, N_Computer_hand, N_Computer_cut, N_Computer_go, N_Computer_step, N__law_bench, N__law_turn, N__law_tool, N__law_wrap, N__law_signed, N__law_popped, N__law_written, N__law_settled, N__law_awake, N__law_outside, N__law_step, N__law_piece, N__law_is_so, N__law_moment_right, N_law, ofStr_inj, ofStr_beq, String.reduceEq, decide_true, decide_false, Bool.or_false, Bool.or_true, Bool.false_or, Bool.true_or, Bool.and_true, Bool.and_false, Bool.true_and, Bool.false_and, vModN, iwE, iwEM])

/-! ### the law's own reckoning -/
def sp__law_wrap : VSp := fun ds μ ev Φ => ∃ n, ds = [.int n] ∧ Φ (.int (shortOf n)) μ
theorem b__law_wrap {P : Program} {w : World} {K : PySem.W.Frag} {mg : Str → Option Value} {base : Heap} (T : Txt w K mg) : ∀ fd, FunD K "_law_wrap" "_law_wrap" (defArgs s__law_wrap) (defBody s__law_wrap) (defScope s__law_wrap) [] [] (He.ga K "_law_wrap") fd → FnG P w K mg base CX0 1 (He.ga K "_law_wrap") fd ["_law_number"] (lift K [] (sp__law_wrap)) := by
  intro fd F
  refine fun_okD (N := N__law_wrap) F sc__law_wrap (fun ds μ ev Φ h => ?size) (fun cdv A outer s H E hG hr => ⟨_, (vss_one (vs_ret (ve_op op_sub s_sub (ve_op op_mod s_mod (ve_callTy call_intA s_int (by rfl) T.b_int (by decide +kernel) (va_cons (ve_op op_addA s_addA (vv 0) ve_int) va_nil)) ve_int) ve_int))), fun ds μ ev Φ h => ?_⟩)
  · obtain ⟨n, rfl, _⟩ := h; rfl
  · obtain ⟨n, rfl, q⟩ := h
    walk_at "wr"
    exact ⟨by decide, q⟩
theorem c__law_wrap_1 {P : Program} {w : World} {K : PySem.W.Frag} {mg : Str → Option Value} {base : Heap} (T : Txt w K mg) : CanV P w K mg base CX0 [] 1 (He.ga K "_law_wrap") 1 [] ([.inl 0].map (toArg [] [])) (sp__law_wrap) :=
  canV_of (ps := ["_law_number"]) [.inl 0] T.f__law_wrap (b__law_wrap T) (fun _ _ _ _ _ _ us ws h1 h2 => match us, ws, h1, h2 with | [_], [], _, _ => rfl) (by decide)
def sp__law_signed : VSp := fun ds μ ev Φ => ∃ w a b, ds = [.str w, .int a, .int b] ∧ w ∈ SIGNW ∧ Sh a ∧ Sh b ∧ Φ (.int (actI w a b)) μ
theorem b__law_signed {P : Program} {w : World} {K : PySem.W.Frag} {mg : Str → Option Value} {base : Heap} (T : Txt w K mg) : ∀ fd, FunD K "_law_signed" "_law_signed" (defArgs s__law_signed) (defBody s__law_signed) (defScope s__law_signed) [] [] (He.ga K "_law_signed") fd → FnG P w K mg base CX0 2 (He.ga K "_law_signed") fd ["_law_sign", "_law_one", "_law_other"] (lift K [] (sp__law_signed)) := by
  intro fd F
  refine fun_okD (N := N__law_signed) F sc__law_signed (fun ds μ ev Φ h => ?size) (fun cdv A outer s H E hG hr => ⟨_, (vss_cons (vs_if (vt_cmp op_in_seq s_in (vv 0) (ve_tup (va_cons ve_str (va_cons ve_str va_nil))) (by rfl))
 (vss_cons (vs_if (vt_cmp (op_eqA hr.units) s_eq (vv 2) ve_int (nomark _))
 (vss_one (vs_ret ve_int))
 vss_nil)
 (vss_one (vs_ret (ve_if (vt_cmp (op_eqA hr.units) s_eq (vv 0) ve_str (nomark _)) (ve_call T.g__law_wrap (c__law_wrap_1 T) hG hr (by decide) pass0 sel_0 rfl (va_cons (ve_op op_fdivA s_fdiv (vv 1) (vv 2)) va_nil) vk_nil) (ve_op op_sub s_sub (vv 1) (ve_op op_mulA s_mulA (ve_op op_fdivA s_fdiv (vv 1) (vv 2)) (vv 2)))))))
 vss_nil)
 (vss_cons (vs_if (vt_cmp op_in_seq s_in (vv 0) (ve_tup (va_cons ve_str (va_cons ve_str (va_cons ve_str va_nil)))) (by rfl))
 (vss_one (vs_ret (ve_call T.g__law_wrap (c__law_wrap_1 T) hG hr (by decide) pass0 sel_0 rfl (va_cons (ve_if (vt_cmp (op_eqA hr.units) s_eq (vv 0) ve_str (nomark _)) (ve_op op_addA s_addA (vv 1) (vv 2)) (ve_if (vt_cmp (op_eqA hr.units) s_eq (vv 0) ve_str (nomark _)) (ve_op op_sub s_sub (vv 1) (vv 2)) (ve_op op_mulA s_mulA (vv 1) (vv 2)))) va_nil) vk_nil)))
 vss_nil)
 (vss_cons (vs_if (vt_cmp op_in_seq s_in (vv 0) (ve_tup (va_cons ve_str (va_cons ve_str va_nil))) (by rfl))
 (vss_one (vs_ret (ve_if (vt_cmp (op_eqA hr.units) s_eq (vv 0) ve_str (nomark _)) (ve_callTy call_intA s_int (by rfl) T.b_int (by decide +kernel) (va_cons (ve_cmp op_lt s_lt (vv 1) (vv 2) (nomark _)) va_nil)) (ve_callTy call_intA s_int (by rfl) T.b_int (by decide +kernel) (va_cons (ve_cmp (op_eqA hr.units) s_eq (vv 1) (vv 2) (nomark _)) va_nil)))))
 vss_nil)
 (vss_one (vs_ret (ve_if (vt_cmp (op_eqA hr.units) s_eq (vv 0) ve_str (nomark _)) (ve_callTy call_intA s_int (by rfl) T.b_int (by decide +kernel) (va_cons (ve_and (ve_cmp (op_neA hr.units) s_ne (vv 1) ve_int (nomark _)) (ve_one (ve_cmp (op_neA hr.units) s_ne (vv 2) ve_int (nomark _)))) va_nil)) (ve_callTy call_intA s_int (by rfl) T.b_int (by decide +kernel) (va_cons (ve_or (ve_cmp (op_neA hr.units) s_ne (vv 1) ve_int (nomark _)) (ve_one (ve_cmp (op_neA hr.units) s_ne (vv 2) ve_int (nomark _)))) va_nil)))))))), fun ds μ ev Φ h => ?_⟩)
  · obtain ⟨w, a, b, rfl, _⟩ := h; rfl
  · obtain ⟨w, a, b, rfl, hw, ha, hb, q⟩ := h
    rcases sign_cases hw with rfl | rfl | rfl | rfl | rfl | rfl | rfl | rfl | rfl <;> simp only [actI, ofStr_inj, String.reduceEq, if_true, if_false] at q
    · walk_at "wr"
      exact ⟨sizeOk (by decide), sizeOk (by decide), _, rfl, q⟩
    · walk_at "wr"
      exact ⟨sizeOk (by decide), sizeOk (by decide), _, rfl, q⟩
    · walk_at "wr"
      exact ⟨sizeOk (by decide), sizeOk (by decide), cmul_sh ha, _, rfl, q⟩
    · walk_at "wr"
      refine ⟨sizeOk (by decide), ?_⟩
      unfold divI at q
      by_cases hz : b = 0
      · simpa [hz] using q
      · simp only [hz, decide_false, if_false, Bool.false_eq_true] at q ⊢
        exact ⟨cdiv_sh hb hz, _, rfl, q⟩
    · walk_at "wr"
      refine ⟨sizeOk (by decide), ?_⟩
      unfold remI at q
      by_cases hz : b = 0
      · simpa [hz] using q
      · simp only [hz, decide_false, if_false, Bool.false_eq_true] at q ⊢
        rw [Int.fmod_def, Int.mul_comm] at q
        exact ⟨cdiv_sh hb hz, .inr ⟨by have := hb.1; omega, by have := hb.2; omega⟩, q⟩
    · walk_at "wr"
      refine ⟨sizeOk (by decide), sizeOk (by decide), sizeOk (by decide), ?_⟩
      unfold lessI at q
      simpa using q
    · walk_at "wr"
      refine ⟨sizeOk (by decide), sizeOk (by decide), sizeOk (by decide), ?_⟩
      unfold eqI at q
      simpa using q
    · walk_at "wr"
      refine ⟨sizeOk (by decide), sizeOk (by decide), sizeOk (by decide), ?_⟩
      unfold andI at q
      by_cases hz : a = 0 <;> by_cases hy : b = 0 <;> simpa [hz, hy] using q
    · walk_at "wr"
      refine ⟨sizeOk (by decide), sizeOk (by decide), sizeOk (by decide), ?_⟩
      unfold orI at q
      by_cases hz : a = 0 <;> by_cases hy : b = 0 <;> simpa [hz, hy] using q
theorem c__law_signed_3 {P : Program} {w : World} {K : PySem.W.Frag} {mg : Str → Option Value} {base : Heap} (T : Txt w K mg) : CanV P w K mg base CX0 [] 2 (He.ga K "_law_signed") 3 [] ([.inl 0, .inl 1, .inl 2].map (toArg [] [])) (sp__law_signed) :=
  canV_of (ps := ["_law_sign", "_law_one", "_law_other"]) [.inl 0, .inl 1, .inl 2] T.f__law_signed (b__law_signed T) (fun _ _ _ _ _ _ us ws h1 h2 => match us, ws, h1, h2 with | [_, _, _], [], _, _ => rfl) (by decide)
end K25

set_option maxRecDepth 100000
set_option maxHeartbeats 4000000
namespace K25
open PySem L2 FW VL
local macro_rules | `(tactic| walk_at "wr") => `(tactic| simp only [vInt_bl, iwR1, iwR2, iwM, List.set_cons_succ, wLenSet, wFor, wSetF, wAugF, wAug, wBM, wProp, wHeld, wVar, wC, wZ, wOp, wUn, wNil, wCons, wStar, wCB, wTup, wLst, wLstM, wTest, wAnd, wOr, VL.wNot, wAndV, wOrV, wNotV, wIf, wChain, wNoPart, wPart, wSl, wName, wGNil, wGCons, wGTup, wSub, wNext, VL.wSeq, wAsg, wDrop, wRet, wRetN, wIfS, wBreak, wCont, wPar, vI0, vI, vU, vAdd, vSub, vMul, vMod, vFdiv, vPow, vLt, vLe, vGt, vGe, vNeg, vIsN, vNotN, vAddA_ii, vMulA_ii, VL.wTru, iwL, iwT, wLc, vstart, List.map_cons, List.map_nil, List.cons_append, List.nil_append, List.set_cons_zero, List.set_cons_succ, List.getElem?_cons_zero, List.getElem?_cons_succ, Option.some.injEq, exists_eq_left, exists_eq_left', exists_eq', D.bl.injEq, D.int.injEq, D.str.injEq, D.tup.injEq, D.ref.injEq, List.cons.injEq, and_true, true_and, List.length_cons, List.length_nil, List.replicate, D.ty.injEq, exists_and_left, List.length, Nat.reduceAdd, wCall, wMake, wMeth, wFld, argsD, argD, toArg, List.getD_cons_zero, List.getD_cons_succ, List.map, iwS, vTupOf, Bool.false_eq_true, if_false, if_true, reduceIte, List.getElem?_nil, Nat.reduceSub, wipeR, vLen_lst, vLen_tup, vEq_ii, vEq_ss, vEq_bb, vIx_lst, vIx_tup, vIn_strs, vIn_s2, vIn_s3, vAll_map, vInK_s, vIxK_s, vInt_i, vAbs_i, atI_0, atI_1, atI_2, Bool.not_true, Bool.not_false, seqOf_lst, seqOf_tup, lstOf_lst, tupOf_tup, fzL_lst, N_is_list, N_is_integer, N_is_within, N_is_short, N_are_shorts, N_are_integers, N_is_lot, N_fixed, N_short_of, N_added, N_taken_from, N_multiplied, N_divided, N_left_over, N_is_less, N_is_equal, N_are_both, N_is_any, N_is_instruction, N_is_target_beyond, N_are_rows, N_Code___init__, N_Code___eq__, N_Code___iter__, N_push_short, N_popped, N_do_push, N_do_load, N_do_store, N_do_fetch, N_do_put, N_do_not, N_do_drop, N_do_copy, N_do_jump, N_do_unless, N_do_wait, N_do_sign, N_do_read, N_do_write, N_do_barrier, N_do_send, N_do_take, N_do_input, N_do_show, N_deed_of_row, N_is_disk_pair, N_are_disk_pairs, N_is_disk, N_Computer_power_on, N_Computer___init__, N_Computer_stack, N_Computer_disk, N_Computer_waiting, N_Computer_cards, N_Computer_memory, N_Computer_hand, N_Computer_cut, N_Computer_go, N_Computer_step, N__law_bench, N__law_turn, N__law_tool, N__law_wrap, N__law_signed, N__law_popped, N__law_written, N__law_settled, N__law_awake, N__law_outside, N__law_step, N__law_piece, N__law_is_so, N__law_moment_right, N_law, ofStr_inj, ofStr_beq, String.reduceEq, decide_true, decide_false, Bool.or_false, Bool.or_true, Bool.false_or, Bool.true_or, Bool.and_true, Bool.and_false, Bool.true_and, Bool.false_and, vModN, iwE, iwEM])

/-! ### the own state: a dict, five lists behind it; what it says is told by a computer's record -/
def stKs : List Key := (["at", "stack", "memory", "disk", "waits", "cards"] : List Str).map .inr
def stDs (n : Int) (p m k w c : Addr) : List D := [.int n, .ref p, .ref m, .ref k, .ref w, .ref c]
structure StB (μ : Mu) (s p m k w c : Addr) (st : CS) : Prop where
  nd : [s, p, m, k, w, c].Nodup
  hd : μ s = some (.dic stKs (stDs st.at_ p m k w c))
  hp : μ p = some (.lst (st.pile.map .int))
  hm : μ m = some (.lst (st.held.map .int))
  hk : μ k = some (.lst (st.settled.map .int))
  hw : μ w = some (.lst (st.queue.map pairD))
  hc : μ c = some (.lst (st.laid.map letD))
def StAt (μ : Mu) (s : Addr) (G : List Addr) (st : CS) : Prop := ∃ p m k w c, G = [s, p, m, k, w, c] ∧ StB μ s p m k w c st
section
variable {μ μ' : Mu} {s p m k w c : Addr} {st : CS} {Φ : WK} {n : Int}
theorem d_at (h : μ s = some (.dic stKs (stDs n p m k w c))) : vDIx (.ref s) (.str "at") μ Φ ↔ Φ (.int n) μ := ⟨fun ⟨ks, ds, kk, d, e1, e2, e3, q⟩ => by
  rw [dicOf_of h] at e1; cases e1; cases e2
  simp [lookKD, stKs, stDs, ofStr_inj] at e3; rw [e3]; exact q, fun q => ⟨_, _, _, _, dicOf_of h, rfl, by simp [lookKD, stKs, stDs, ofStr_inj], q⟩⟩
theorem d_stack (h : μ s = some (.dic stKs (stDs n p m k w c))) : vDIx (.ref s) (.str "stack") μ Φ ↔ Φ (.ref p) μ := ⟨fun ⟨ks, ds, kk, d, e1, e2, e3, q⟩ => by
  rw [dicOf_of h] at e1; cases e1; cases e2
  simp [lookKD, stKs, stDs, ofStr_inj] at e3; rw [e3]; exact q, fun q => ⟨_, _, _, _, dicOf_of h, rfl, by simp [lookKD, stKs, stDs, ofStr_inj], q⟩⟩
theorem d_memory (h : μ s = some (.dic stKs (stDs n p m k w c))) : vDIx (.ref s) (.str "memory") μ Φ ↔ Φ (.ref m) μ := ⟨fun ⟨ks, ds, kk, d, e1, e2, e3, q⟩ => by
  rw [dicOf_of h] at e1; cases e1; cases e2
  simp [lookKD, stKs, stDs, ofStr_inj] at e3; rw [e3]; exact q, fun q => ⟨_, _, _, _, dicOf_of h, rfl, by simp [lookKD, stKs, stDs, ofStr_inj], q⟩⟩
theorem d_disk (h : μ s = some (.dic stKs (stDs n p m k w c))) : vDIx (.ref s) (.str "disk") μ Φ ↔ Φ (.ref k) μ := ⟨fun ⟨ks, ds, kk, d, e1, e2, e3, q⟩ => by
  rw [dicOf_of h] at e1; cases e1; cases e2
  simp [lookKD, stKs, stDs, ofStr_inj] at e3; rw [e3]; exact q, fun q => ⟨_, _, _, _, dicOf_of h, rfl, by simp [lookKD, stKs, stDs, ofStr_inj], q⟩⟩
theorem d_waits (h : μ s = some (.dic stKs (stDs n p m k w c))) : vDIx (.ref s) (.str "waits") μ Φ ↔ Φ (.ref w) μ := ⟨fun ⟨ks, ds, kk, d, e1, e2, e3, q⟩ => by
  rw [dicOf_of h] at e1; cases e1; cases e2
  simp [lookKD, stKs, stDs, ofStr_inj] at e3; rw [e3]; exact q, fun q => ⟨_, _, _, _, dicOf_of h, rfl, by simp [lookKD, stKs, stDs, ofStr_inj], q⟩⟩
theorem d_cards (h : μ s = some (.dic stKs (stDs n p m k w c))) : vDIx (.ref s) (.str "cards") μ Φ ↔ Φ (.ref c) μ := ⟨fun ⟨ks, ds, kk, d, e1, e2, e3, q⟩ => by
  rw [dicOf_of h] at e1; cases e1; cases e2
  simp [lookKD, stKs, stDs, ofStr_inj] at e3; rw [e3]; exact q, fun q => ⟨_, _, _, _, dicOf_of h, rfl, by simp [lookKD, stKs, stDs, ofStr_inj], q⟩⟩
theorem set_any {Ψ : Mu → Prop} {z : Str} {d : D} {ds' : List D} (h : μ s = some (.dic stKs (stDs n p m k w c))) (hz : (.inr z : Key) ∈ stKs) (e : putX2 (.inr z) d stKs (stDs n p m k w c) = ds') (q : Ψ (μ.set s (.dic stKs ds'))) : vDSet (.ref s) (.str z) d μ Ψ :=
  ⟨s, _, _, _, rfl, rfl, h, hz, by rw [sizeLine_eq]; decide, by rw [e]; exact q⟩
theorem set_at {Ψ : Mu → Prop} {j : Int} (h : μ s = some (.dic stKs (stDs n p m k w c))) (q : Ψ (μ.set s (.dic stKs (stDs j p m k w c)))) : vDSet (.ref s) (.str "at") (.int j) μ Ψ := set_any h (by simp [stKs]) (by simp [putX2, stKs, stDs, ofStr_inj]) q
theorem set_stack {Ψ : Mu → Prop} {a : Addr} (h : μ s = some (.dic stKs (stDs n p m k w c))) (q : Ψ (μ.set s (.dic stKs (stDs n a m k w c)))) : vDSet (.ref s) (.str "stack") (.ref a) μ Ψ := set_any h (by simp [stKs]) (by simp [putX2, stKs, stDs, ofStr_inj]) q
theorem set_memory {Ψ : Mu → Prop} {a : Addr} (h : μ s = some (.dic stKs (stDs n p m k w c))) (q : Ψ (μ.set s (.dic stKs (stDs n p a k w c)))) : vDSet (.ref s) (.str "memory") (.ref a) μ Ψ := set_any h (by simp [stKs]) (by simp [putX2, stKs, stDs, ofStr_inj]) q
theorem set_waits {Ψ : Mu → Prop} {a : Addr} (h : μ s = some (.dic stKs (stDs n p m k w c))) (q : Ψ (μ.set s (.dic stKs (stDs n p m k a c)))) : vDSet (.ref s) (.str "waits") (.ref a) μ Ψ := set_any h (by simp [stKs]) (by simp [putX2, stKs, stDs, ofStr_inj]) q
theorem set_cards {Ψ : Mu → Prop} {a : Addr} (h : μ s = some (.dic stKs (stDs n p m k w c))) (q : Ψ (μ.set s (.dic stKs (stDs n p m k w a)))) : vDSet (.ref s) (.str "cards") (.ref a) μ Ψ := set_any h (by simp [stKs]) (by simp [putX2, stKs, stDs, ofStr_inj]) q
theorem StB.ne (b : StB μ s p m k w c st) : (s ≠ p ∧ s ≠ m ∧ s ≠ k ∧ s ≠ w ∧ s ≠ c) ∧ (p ≠ m ∧ p ≠ k ∧ p ≠ w ∧ p ≠ c) ∧ (m ≠ k ∧ m ≠ w ∧ m ≠ c) ∧ (k ≠ w ∧ k ≠ c) ∧ w ≠ c := by
  have nd := b.nd
  simp only [List.nodup_cons, List.mem_cons, List.not_mem_nil, or_false, not_or] at nd
  obtain ⟨h1, h2, h3, h4, h5, _⟩ := nd
  exact ⟨h1, h2, h3, h4, h5⟩
theorem StB.setD (b : StB μ s p m k w c st) (j : Int) : StB (μ.set s (.dic stKs (stDs j p m k w c))) s p m k w c { st with at_ := j } := by
  obtain ⟨⟨n1, n2, n3, n4, n5⟩, _⟩ := b.ne
  exact ⟨b.nd, Mu.same, by rw [Mu.ne (Ne.symm n1)]; exact b.hp, by rw [Mu.ne (Ne.symm n2)]; exact b.hm, by rw [Mu.ne (Ne.symm n3)]; exact b.hk, by rw [Mu.ne (Ne.symm n4)]; exact b.hw, by rw [Mu.ne (Ne.symm n5)]; exact b.hc⟩
theorem StB.setP (b : StB μ s p m k w c st) (xs : List Int) : StB (μ.set p (.lst (xs.map .int))) s p m k w c { st with pile := xs } := by
  obtain ⟨⟨n1, n2, n3, n4, n5⟩, ⟨n6, n7, n8, n9⟩, _⟩ := b.ne
  exact ⟨b.nd, by rw [Mu.ne n1]; exact b.hd, Mu.same, by rw [Mu.ne (Ne.symm n6)]; exact b.hm, by rw [Mu.ne (Ne.symm n7)]; exact b.hk, by rw [Mu.ne (Ne.symm n8)]; exact b.hw, by rw [Mu.ne (Ne.symm n9)]; exact b.hc⟩
theorem StB.setM (b : StB μ s p m k w c st) (xs : List Int) : StB (μ.set m (.lst (xs.map .int))) s p m k w c { st with held := xs } := by
  obtain ⟨⟨n1, n2, n3, n4, n5⟩, ⟨n6, n7, n8, n9⟩, ⟨n10, n11, n12⟩, _⟩ := b.ne
  exact ⟨b.nd, by rw [Mu.ne n2]; exact b.hd, by rw [Mu.ne n6]; exact b.hp, Mu.same, by rw [Mu.ne (Ne.symm n10)]; exact b.hk, by rw [Mu.ne (Ne.symm n11)]; exact b.hw, by rw [Mu.ne (Ne.symm n12)]; exact b.hc⟩
theorem StB.setK (b : StB μ s p m k w c st) (xs : List Int) : StB (μ.set k (.lst (xs.map .int))) s p m k w c { st with settled := xs } := by
  obtain ⟨⟨n1, n2, n3, n4, n5⟩, ⟨n6, n7, n8, n9⟩, ⟨n10, n11, n12⟩, ⟨n13, n14⟩, _⟩ := b.ne
  exact ⟨b.nd, by rw [Mu.ne n3]; exact b.hd, by rw [Mu.ne n7]; exact b.hp, by rw [Mu.ne n10]; exact b.hm, Mu.same, by rw [Mu.ne (Ne.symm n13)]; exact b.hw, by rw [Mu.ne (Ne.symm n14)]; exact b.hc⟩
theorem StB.setW (b : StB μ s p m k w c st) (xs : List (Int × Int)) : StB (μ.set w (.lst (xs.map pairD))) s p m k w c { st with queue := xs } := by
  obtain ⟨⟨n1, n2, n3, n4, n5⟩, ⟨n6, n7, n8, n9⟩, ⟨n10, n11, n12⟩, ⟨n13, n14⟩, n15⟩ := b.ne
  exact ⟨b.nd, by rw [Mu.ne n4]; exact b.hd, by rw [Mu.ne n8]; exact b.hp, by rw [Mu.ne n11]; exact b.hm, by rw [Mu.ne n13]; exact b.hk, Mu.same, by rw [Mu.ne (Ne.symm n15)]; exact b.hc⟩
theorem StB.setC (b : StB μ s p m k w c st) (xs : List (Option (Int × Int × Int))) : StB (μ.set c (.lst (xs.map letD))) s p m k w c { st with laid := xs } := by
  obtain ⟨⟨n1, n2, n3, n4, n5⟩, ⟨n6, n7, n8, n9⟩, ⟨n10, n11, n12⟩, ⟨n13, n14⟩, n15⟩ := b.ne
  exact ⟨b.nd, by rw [Mu.ne n5]; exact b.hd, by rw [Mu.ne n9]; exact b.hp, by rw [Mu.ne n12]; exact b.hm, by rw [Mu.ne n14]; exact b.hk, by rw [Mu.ne n15]; exact b.hw, Mu.same⟩
/-- another list of what waits -/
theorem StB.newW (b : StB μ s p m k w c st) {x : Addr} (hx : μ x = none) : StB ((μ.set x (.lst [])).set s (.dic stKs (stDs st.at_ p m k x c))) s p m k x c { st with queue := [] } := by
  obtain ⟨⟨n1, n2, n3, n4, n5⟩, ⟨n6, n7, n8, n9⟩, ⟨n10, n11, n12⟩, ⟨n13, n14⟩, n15⟩ := b.ne
  have ne : ∀ {y : Addr} {o : MO}, μ y = some o → y ≠ x := fun h e => by rw [e, hx] at h; cases h
  have sx := ne b.hd
  have px := ne b.hp
  have mx := ne b.hm
  have kx := ne b.hk
  have cx := ne b.hc
  refine ⟨?_, Mu.same, ?_, ?_, ?_, ?_, ?_⟩
  · simp only [List.nodup_cons, List.mem_cons, List.not_mem_nil, or_false, not_or, not_false_eq_true, List.nodup_nil, and_true]
    exact ⟨⟨n1, n2, n3, sx, n5⟩, ⟨n6, n7, px, n9⟩, ⟨n10, mx, n12⟩, ⟨kx, n14⟩, Ne.symm cx⟩
  · rw [Mu.ne (Ne.symm n1), Mu.ne px]; exact b.hp
  · rw [Mu.ne (Ne.symm n2), Mu.ne mx]; exact b.hm
  · rw [Mu.ne (Ne.symm n3), Mu.ne kx]; exact b.hk
  · rw [Mu.ne (Ne.symm sx), Mu.same]; rfl
  · rw [Mu.ne (Ne.symm n5), Mu.ne cx]; exact b.hc
theorem StB.keep {F : List Addr} (b : StB μ s p m k w c st) (h : Kp F μ μ') (n : ∀ x ∈ [s, p, m, k, w, c], x ∉ F) : StB μ' s p m k w c st :=
  ⟨b.nd, h.at_ b.hd (n _ (by simp)), h.at_ b.hp (n _ (by simp)), h.at_ b.hm (n _ (by simp)), h.at_ b.hk (n _ (by simp)), h.at_ b.hw (n _ (by simp)), h.at_ b.hc (n _ (by simp))⟩
theorem StB.has (b : StB μ s p m k w c st) : ∀ x ∈ [s, p, m, k, w, c], μ x ≠ none := fun x hx => by
  simp only [List.mem_cons, List.not_mem_nil, or_false] at hx
  rcases hx with rfl | rfl | rfl | rfl | rfl | rfl
  · exact some_ne b.hd
  · exact some_ne b.hp
  · exact some_ne b.hm
  · exact some_ne b.hk
  · exact some_ne b.hw
  · exact some_ne b.hc
end
theorem eq_nilI {μ : Mu} {Φ : WK} {s : Addr} {xs : List Int} {neg : Bool} (e : μ s = some (.lst (xs.map .int))) : vEq neg (.ref s) (.lst []) μ Φ ↔ Φ (.bl (if neg = true then !decide (xs = []) else decide (xs = []))) μ :=
  vEq_iff (eqD_nil (cs := xs) (by show (match μ s with | some (.lst ds) => (toPys μ ds).map PyData.list | _ => none) = _; rw [e]; simp only [toPys_ints]; rfl) (.inl ⟨_, rfl⟩))
/-- what does g to the state -/
def spO (cond : CS → Prop) (g : CS → D × CS) (ds0 : List D) : VSp := fun ds μ ev Φ => ∃ s G st, ds = .ref s :: ds0 ∧ StAt μ s G st ∧ cond st ∧ ∀ μ' G', Kp G μ μ' → Nw G G' μ → StAt μ' s G' (g st).2 → Φ (g st).1 μ'
def sp__law_popped : VSp := fun ds μ ev Φ => ∃ (s p m k w c : Addr) (st : CS), ds = [.ref s] ∧ StB μ s p m k w c st ∧ ∀ μ', Kp [s, p, m, k, w, c] μ μ' → StB μ' s p m k w c (popS st) → Φ (.int (popV st)) μ'
theorem b__law_popped {P : Program} {w : World} {K : PySem.W.Frag} {mg : Str → Option Value} {base : Heap} (T : Txt w K mg) : ∀ fd, FunD K "_law_popped" "_law_popped" (defArgs s__law_popped) (defBody s__law_popped) (defScope s__law_popped) [] [] (He.ga K "_law_popped") fd → FnG P w K mg base CX0 1 (He.ga K "_law_popped") fd ["_law_state"] (lift K [] (sp__law_popped)) := by
  intro fd F
  refine fun_okD (N := N__law_popped) F sc__law_popped (fun ds μ ev Φ h => ?size) (fun cdv A outer s H E hG hr => ⟨_, (vss_one (vs_ret (ve_if (vt_cmp (op_neA hr.units) s_ne (ve_dget (units1 hr) (vv 0) ve_str) (ve_lst va_nil) (nomark _)) (ve_bm0 mt_pop s_pop (fun _ h => pe_bm0 PySem.F.plainAttrs_list PySem.F.slot_list_pop PySem.F.type_list_pop mt_pop h) (ve_dget (units1 hr) (vv 0) ve_str)) ve_int))), fun ds μ ev Φ h => ?_⟩)
  · obtain ⟨s, p, m, k, w, c, st, rfl, _⟩ := h; rfl
  · obtain ⟨s, p, m, k, w, c, st, rfl, b, kk⟩ := h
    walk_at "wr"
    simp only [d_stack b.hd]
    refine ⟨sizeOk (by decide), ?_⟩
    rw [eq_nilI b.hp]
    walk_at "wr"
    have fin : ∀ μ', Kp [s, p, m, k, w, c] μ μ' → StB μ' s p m k w c (popS st) → Φ (.int (popV st)) μ' := kk
    by_cases he : st.pile = []
    · rw [if_neg (by simpa using he)]
      have e1 : popV st = 0 := by simp [popV, he]
      have e2 : popS st = st := by cases st; simp only [popS]; simp only at he; rw [he]; rfl
      rw [e1, e2] at fin
      exact fin μ Kp.refl b
    · rw [if_pos (by simpa using he)]
      try walk_at "wr"
      simp only [d_stack b.hd, okM_iff b.hp, vPop_iff b.hp, true_and]
      refine ⟨.int (popV st), ?_, fin _ (Kp.set (by simp)) ?_⟩
      · rw [List.length_map, List.getElem?_map, ← List.getLast?_eq_getElem?, List.getLast?_eq_getLast he]
        show some _ = some (D.int ((st.pile.getLast?).getD 0))
        rw [List.getLast?_eq_getLast he]; rfl
      · rw [← List.map_dropLast]
        exact b.setP _
theorem c__law_popped_1 {P : Program} {w : World} {K : PySem.W.Frag} {mg : Str → Option Value} {base : Heap} (T : Txt w K mg) : CanV P w K mg base CX0 [] 1 (He.ga K "_law_popped") 1 [] ([.inl 0].map (toArg [] [])) (sp__law_popped) :=
  canV_of (ps := ["_law_state"]) [.inl 0] T.f__law_popped (b__law_popped T) (fun _ _ _ _ _ _ us ws h1 h2 => match us, ws, h1, h2 with | [_], [], _, _ => rfl) (by decide)
end K25

set_option maxRecDepth 100000
set_option maxHeartbeats 4000000
namespace K25
open PySem L2 FW VL
local macro_rules | `(tactic| walk_at "wr") => `(tactic| simp only [vInt_bl, iwR1, iwR2, iwM, List.set_cons_succ, wLenSet, wFor, wSetF, wAugF, wAug, wBM, wProp, wHeld, wVar, wC, wZ, wOp, wUn, wNil, wCons, wStar, wCB, wTup, wLst, wLstM, wTest, wAnd, wOr, VL.wNot, wAndV, wOrV, wNotV, wIf, wChain, wNoPart, wPart, wSl, wName, wGNil, wGCons, wGTup, wSub, wNext, VL.wSeq, wAsg, wDrop, wRet, wRetN, wIfS, wBreak, wCont, wPar, vI0, vI, vU, vAdd, vSub, vMul, vMod, vFdiv, vPow, vLt, vLe, vGt, vGe, vNeg, vIsN, vNotN, vAddA_ii, vMulA_ii, VL.wTru, iwL, iwT, wLc, vstart, List.map_cons, List.map_nil, List.cons_append, List.nil_append, List.set_cons_zero, List.set_cons_succ, List.getElem?_cons_zero, List.getElem?_cons_succ, Option.some.injEq, exists_eq_left, exists_eq_left', exists_eq', D.bl.injEq, D.int.injEq, D.str.injEq, D.tup.injEq, D.ref.injEq, List.cons.injEq, and_true, true_and, List.length_cons, List.length_nil, List.replicate, D.ty.injEq, exists_and_left, List.length, Nat.reduceAdd, wCall, wMake, wMeth, wFld, argsD, argD, toArg, List.getD_cons_zero, List.getD_cons_succ, List.map, iwS, vTupOf, Bool.false_eq_true, if_false, if_true, reduceIte, List.getElem?_nil, Nat.reduceSub, wipeR, vLen_lst, vLen_tup, vEq_ii, vEq_ss, vEq_bb, vIx_lst, vIx_tup, vIn_strs, vIn_s2, vIn_s3, vAll_map, vInK_s, vIxK_s, vInt_i, vAbs_i, atI_0, atI_1, atI_2, Bool.not_true, Bool.not_false, seqOf_lst, seqOf_tup, lstOf_lst, tupOf_tup, fzL_lst, N_is_list, N_is_integer, N_is_within, N_is_short, N_are_shorts, N_are_integers, N_is_lot, N_fixed, N_short_of, N_added, N_taken_from, N_multiplied, N_divided, N_left_over, N_is_less, N_is_equal, N_are_both, N_is_any, N_is_instruction, N_is_target_beyond, N_are_rows, N_Code___init__, N_Code___eq__, N_Code___iter__, N_push_short, N_popped, N_do_push, N_do_load, N_do_store, N_do_fetch, N_do_put, N_do_not, N_do_drop, N_do_copy, N_do_jump, N_do_unless, N_do_wait, N_do_sign, N_do_read, N_do_write, N_do_barrier, N_do_send, N_do_take, N_do_input, N_do_show, N_deed_of_row, N_is_disk_pair, N_are_disk_pairs, N_is_disk, N_Computer_power_on, N_Computer___init__, N_Computer_stack, N_Computer_disk, N_Computer_waiting, N_Computer_cards, N_Computer_memory, N_Computer_hand, N_Computer_cut, N_Computer_go, N_Computer_step, N__law_bench, N__law_turn, N__law_tool, N__law_wrap, N__law_signed, N__law_popped, N__law_written, N__law_settled, N__law_awake, N__law_outside, N__law_step, N__law_piece, N__law_is_so, N__law_moment_right, N_law, ofStr_inj, ofStr_beq, String.reduceEq, decide_true, decide_false, Bool.or_false, Bool.or_true, Bool.false_or, Bool.true_or, Bool.and_true, Bool.and_false, Bool.true_and, Bool.false_and, vModN, iwE, iwEM])

def lastW (ad : Int) (f : Int) : List (Int × Int) → Int
  | [] => f
  | p :: ps => lastW ad (if p.1 = ad then p.2 else f) ps
theorem lastW_in : ∀ (ws : List (Int × Int)) (xs : List Int) (n : Nat), n < xs.length → (∀ p ∈ ws, 0 ≤ p.1) → lastW (n : Int) (xs.getD n 0) ws = (ws.foldl setP xs).getD n 0
  | [], _, _, _, _ => rfl
  | p :: ws, xs, n, hn, h => by
    have ih := lastW_in ws (setP xs p) n (by simp [setP]; exact hn) fun q hq => h q (List.mem_cons_of_mem _ hq)
    rw [List.foldl_cons, ← ih]
    have hp := h p (List.mem_cons_self ..)
    show lastW (n : Int) (if p.1 = (n : Int) then p.2 else xs.getD n 0) ws = _
    congr 1
    unfold setP
    rw [List.getD_eq_getElem?_getD, List.getD_eq_getElem?_getD]
    by_cases e : p.1 = (n : Int)
    · rw [if_pos e]
      have : p.1.toNat = n := by omega
      rw [this, List.getElem?_set_self hn]; rfl
    · rw [if_neg e, List.getElem?_set_ne (by omega)]
theorem lastW_out : ∀ (ws : List (Int × Int)) (ad f : Int), (∀ p ∈ ws, p.1 ≠ ad) → lastW ad f ws = f
  | [], _, _, _ => rfl
  | p :: ws, ad, f, h => by
    show lastW ad (if p.1 = ad then p.2 else f) ws = f
    rw [if_neg (h p (List.mem_cons_self ..)), lastW_out ws ad f fun q hq => h q (List.mem_cons_of_mem _ hq)]
/-- what was written last is told by what waits -/
def Wr (st : CS) : Prop := st.written = st.queue.foldl setP st.settled
def wAt (st : CS) (ad : Int) : Int := if 0 ≤ ad ∧ ad < 200 then st.written.getD ad.toNat 0 else 0
theorem last_wAt {st : CS} (ok : st.Ok) (h : Wr st) (ad : Int) : lastW ad (if 0 ≤ ad ∧ ad < 200 then st.settled.getD ad.toNat 0 else 0) st.queue = wAt st ad := by
  unfold wAt
  by_cases c : 0 ≤ ad ∧ ad < 200
  · rw [if_pos c, if_pos c, h]
    obtain ⟨n, rfl⟩ : ∃ n : Nat, ad = (n : Int) := ⟨ad.toNat, by omega⟩
    rw [Int.toNat_natCast]
    exact lastW_in _ _ n (by rw [ok.s]; omega) fun p hp => (ok.qs p hp).1
  · rw [if_neg c, if_neg c]
    exact lastW_out _ _ _ fun p hp e => c (by have := ok.qs p hp; omega)
def sp__law_written : VSp := fun ds μ ev Φ => ∃ (s : Addr) (G : List Addr) (st : CS) (ad : Int), ds = [.ref s, .int ad] ∧ StAt μ s G st ∧ st.Ok ∧ Wr st ∧ Φ (.int (wAt st ad)) μ
theorem b__law_written {P : Program} {w : World} {K : PySem.W.Frag} {mg : Str → Option Value} {base : Heap} (T : Txt w K mg) : ∀ fd, FunD K "_law_written" "_law_written" (defArgs s__law_written) (defBody s__law_written) (defScope s__law_written) [] [] (He.ga K "_law_written") fd → FnG P w K mg base CX0 1 (He.ga K "_law_written") fd ["_law_state", "_law_address"] (lift K [] (sp__law_written)) := by
  intro fd F
  refine fun_okD (N := N__law_written) F sc__law_written (fun ds μ ev Φ h => ?size) (fun cdv A outer s H E hG hr => ⟨_, (vss_cons (vs_set (i := 2) sc__law_written.nd rfl (Or.inl rfl) (ve_if (vt_chain op_le s_le op_lt s_lt ve_int (vv 1) ve_int) (ve_ix ix_seq s_ix (ve_dget (units1 hr) (vv 0) ve_str) (vv 1)) ve_int))
 (vss_cons (vs_for (passes_of rfl) rfl (vi_mut (ve_dget (units1 hr) (vv 0) ve_str)) (vg_tup (fun _ h => pg_tup (n := 2) rfl h) (vgs_cons (vg_name (i := 3) sc__law_written.nd rfl (Or.inl rfl)) (vgs_cons (vg_name (i := 4) sc__law_written.nd rfl (Or.inl rfl)) vgs_nil)))
 (vss_one (vs_set (i := 2) sc__law_written.nd rfl (Or.inl rfl) (ve_if (vt_cmp (op_eqA hr.units) s_eq (vv 3) (vv 1) (nomark _)) (vv 4) (vv 2)))))
 (vss_one (vs_ret (vv 2))))), fun ds μ ev Φ h => ?_⟩)
  · obtain ⟨s, G, st, ad, rfl, _⟩ := h; rfl
  · obtain ⟨s, G, st, ad, rfl, ⟨p, m, k, w, c, rfl, b⟩, ok, hw, q⟩ := h
    rw [← last_wAt ok hw] at q
    walk_at "wr"
    simp only [d_disk b.hd, d_waits b.hd]
    have loop : ∀ f0 : Int, f0 = (if 0 ≤ ad ∧ ad < 200 then st.settled.getD ad.toNat 0 else 0) → ∃ x, μ w = some (.lst x) ∧ forW (fun μ' => μ' w = some (.lst x)) (wGTup 2 (wGCons (wName 3) (wGCons (wName 4) wGNil))) (wAsg (wIf (wTest (wOp (vEq false) (wVar 3) (wVar 1))) (wVar 4) (wVar 2)) (wName 2)) { nx := fun ρ' μ' => ∃ d, ρ'[2]? = some (some d) ∧ Φ d μ', rt := Φ } ev x [some (.ref s), some (.int ad), some (.int f0), none, none] μ := fun f0 e0 => by
      rw [← e0] at q
      refine ⟨_, b.hw, ?_⟩
      refine forW_inv (fun i ρ μ' => ∃ (f : Int) (x4 x5 : Option D), ρ = [some (.ref s), some (.int ad), some (.int f), x4, x5] ∧ μ' = μ ∧ lastW ad f0 st.queue = lastW ad f (st.queue.drop i)) ?_ ?_ ⟨f0, _, _, rfl, rfl, rfl⟩
      · rintro i d hd N ρ μ' hN ⟨f, x4, x5, rfl, rfl, hL⟩
        refine ⟨b.hw, ?_⟩
        rw [List.getElem?_map] at hd
        obtain ⟨p, hp, rfl⟩ := Option.map_eq_some_iff.mp hd
        have hlt : i < st.queue.length := (List.getElem?_eq_some_iff.mp hp).1
        have ed : st.queue.drop i = p :: st.queue.drop (i + 1) := by rw [List.drop_eq_getElem_cons hlt, (List.getElem?_eq_some_iff.mp hp).2]
        rw [ed] at hL
        simp only [lastW] at hL
        simp only [pairD]
        walk_at "wr"
        refine ⟨_, _, ⟨rfl, rfl⟩, _, _, rfl, rfl, ?_⟩
        try walk_at "wr"
        by_cases c : p.1 = ad
        · rw [if_pos c] at hL
          simp only [c, decide_true, if_true]
          exact hN _ _ ⟨_, _, _, rfl, rfl, hL⟩
        · rw [if_neg c] at hL
          simp only [c, decide_false, Bool.false_eq_true, if_false]
          exact hN _ _ ⟨_, _, _, rfl, rfl, hL⟩
      · rintro ρ μ' ⟨f, x4, x5, rfl, rfl, hL⟩
        rw [List.length_map, List.drop_length] at hL
        refine ⟨b.hw, _, rfl, ?_⟩
        rw [hL] at q
        exact q
    refine ite_sp (fun c1 => ite_sp (fun c2 => ?_) fun c2 => ?_) fun c1 => ?_
    · have c1 : 0 ≤ ad := by simpa using c1
      have c2 : ad < 200 := by simpa using c2
      obtain ⟨n, rfl⟩ : ∃ n : Nat, ad = (n : Int) := ⟨ad.toNat, by omega⟩
      simp only [vIx_iff (seqOf_of b.hk)]
      have hn : n < st.settled.length := by rw [ok.s]; omega
      refine ⟨.int (st.settled.getD n 0), atI_nat (by rw [List.getElem?_map, List.getD_eq_getElem?_getD, List.getElem?_eq_getElem hn]; rfl), ?_⟩
      exact (d_waits b.hd).mpr ⟨w, rfl, loop _ (by rw [if_pos ⟨c1, c2⟩, Int.toNat_natCast])⟩
    · have c2 : ¬ ad < 200 := by simpa using c2
      exact ⟨w, rfl, loop _ (by rw [if_neg (by omega)])⟩
    · have c1 : ¬ 0 ≤ ad := by simpa using c1
      exact ⟨w, rfl, loop _ (by rw [if_neg (by omega)])⟩
theorem c__law_written_2 {P : Program} {w : World} {K : PySem.W.Frag} {mg : Str → Option Value} {base : Heap} (T : Txt w K mg) : CanV P w K mg base CX0 [] 1 (He.ga K "_law_written") 2 [] ([.inl 0, .inl 1].map (toArg [] [])) (sp__law_written) :=
  canV_of (ps := ["_law_state", "_law_address"]) [.inl 0, .inl 1] T.f__law_written (b__law_written T) (fun _ _ _ _ _ _ us ws h1 h2 => match us, ws, h1, h2 with | [_, _], [], _, _ => rfl) (by decide)
def sp__law_settled : VSp := fun ds μ ev Φ => ∃ (s p m k w c : Addr) (st : CS) (pd : D) (qs : List (Int × Int)), ds = [.ref s, pd] ∧ StB μ s p m k w c st ∧ ((pd = .ref w ∧ qs = st.queue) ∨ pd = .lst (qs.map pairD)) ∧ (∀ q ∈ qs, 0 ≤ q.1 ∧ q.1 < 200) ∧ st.settled.length = 200 ∧
  ∀ μ' x, Kp [s, k] μ μ' → μ x = none → StB μ' s p m k x c { st with settled := qs.foldl setP st.settled, queue := [] } → Φ (.tup (qs.map pairD)) μ'
theorem b__law_settled {P : Program} {w : World} {K : PySem.W.Frag} {mg : Str → Option Value} {base : Heap} (T : Txt w K mg) : ∀ fd, FunD K "_law_settled" "_law_settled" (defArgs s__law_settled) (defBody s__law_settled) (defScope s__law_settled) [] [] (He.ga K "_law_settled") fd → FnG P w K mg base CX0 1 (He.ga K "_law_settled") fd ["_law_state", "_law_pairs"] (lift K [] (sp__law_settled)) := by
  intro fd F
  refine fun_okD (N := N__law_settled) F sc__law_settled (fun ds μ ev Φ h => ?size) (fun cdv A outer s H E hG hr => ⟨_, (vss_cons (vs_for (passes_of rfl) rfl (vi_any (vv 1)) (vg_tup (fun _ h => pg_tup (n := 2) rfl h) (vgs_cons (vg_name (i := 2) sc__law_settled.nd rfl (Or.inl rfl)) (vgs_cons (vg_name (i := 3) sc__law_settled.nd rfl (Or.inl rfl)) vgs_nil)))
 (vss_one (vs_asg (vv 3) (vg_sub (fun _ _ h1 h2 => pg_sub h1 h2 set_list) s_setL (ve_dget (units1 hr) (vv 0) ve_str) (vv 2)))))
 (vss_cons (vs_asg (ve_lstM va_nil) (vg_sub (fun _ _ h1 h2 => pg_sub h1 h2 (set_dict (units1 hr))) s_setD (vv 0) ve_str))
 (vss_one (vs_ret (ve_callTy call_tuple_of s_tuple (by rfl) T.b_tuple (by decide +kernel) (va_cons (vv 1) va_nil)))))), fun ds μ ev Φ h => ?_⟩)
  · obtain ⟨s, p, m, k, w, c, st, pd, qs, rfl, _⟩ := h; rfl
  · obtain ⟨s, p, m, k, w, c, st, pd, qs, rfl, b, hpd, hqs, hl, kk⟩ := h
    obtain ⟨⟨n1, n2, n3, n4, n5⟩, ⟨n6, n7, n8, n9⟩, ⟨n10, n11, n12⟩, ⟨n13, n14⟩, n15⟩ := b.ne
    have sq : SeqA μ pd (qs.map pairD) := by
      rcases hpd with ⟨rfl, rfl⟩ | rfl
      · exact .inr ⟨w, rfl, b.hw⟩
      · exact .inl (.inl rfl)
    have same : ∀ {μ' : Mu}, Kp [s, k] μ μ' → ∀ a, pd = .ref a → μ' a = μ a := fun h a e => by
      rcases hpd with ⟨rfl, rfl⟩ | rfl
      · cases e
        exact h _ (by simp; exact ⟨Ne.symm n4, Ne.symm n13⟩) (some_ne b.hw)
      · cases e
    walk_at "wr"
    refine iwA_at (i := 1) rfl sq fun P hP => ?_
    refine forW_inv (fun i ρ μ' => (∃ x2 x3, ρ = [some (.ref s), some pd, x2, x3]) ∧ Kp [k] μ μ' ∧ StB μ' s p m k w c { st with settled := (qs.take i).foldl setP st.settled }) ?_ ?_ ⟨⟨_, _, rfl⟩, Kp.refl, b⟩
    · rintro i d hd N ρ μ' hN ⟨⟨x2, x3, rfl⟩, kp, S⟩
      rw [List.getElem?_map] at hd
      obtain ⟨x, hx, rfl⟩ := Option.map_eq_some_iff.mp hd
      have hw := hqs x (List.mem_of_getElem? hx)
      refine ⟨hP _ (same (kp.sub (by simp))), ?_⟩
      simp only [pairD]
      walk_at "wr"
      refine ⟨_, _, ⟨rfl, rfl⟩, _, _, rfl, rfl, ?_⟩
      try walk_at "wr"
      simp only [d_disk S.hd]
      refine (vSet_iff S.hk).mpr ⟨x.1.toNat, ?_, hN _ _ ⟨⟨_, _, rfl⟩, kp.trans Nw.refl (Kp.set (.head _)), ?_⟩⟩
      · have := ixN_nat (m := (((qs.take i).foldl setP st.settled).map D.int).length) (n := x.1.toNat) (by rw [List.length_map, setP_len, hl]; omega)
        rw [Int.toNat_of_nonneg hw.1] at this
        exact this
      · rw [List.take_add_one, hx]
        simp only [Option.toList_some, List.foldl_append, List.foldl_cons, List.foldl_nil]
        have := S.setK (setP ((qs.take i).foldl setP st.settled) x)
        unfold setP at this ⊢
        rw [List.map_set] at this
        exact this
    · rintro ρ μ' ⟨⟨x2, x3, rfl⟩, kp, S⟩
      rw [List.length_map, List.take_length] at S
      refine ⟨hP _ (same (kp.sub (by simp))), ?_⟩
      walk_at "wr"
      refine ⟨sizeOk (by decide), fun x hx => ?_⟩
      have kx : Kp [] μ' (μ'.set x (.lst [])) := Kp.new hx
      have hd2 := kx.at_ S.hd (by simp)
      refine set_waits hd2 ?_
      have k0 : μ x = none := kp.free hx (fun e => by rw [List.mem_singleton.mp e, S.hk] at hx; cases hx)
      have kf : Kp [s, k] μ ((μ'.set x (.lst [])).set s (.dic stKs (stDs st.at_ p m k x c))) := ((kp.sub (G := [s, k]) (by simp)).setN k0).trans Nw.refl (Kp.set (by simp))
      refine ⟨_, (by rw [seqOf_same (same kf)]; exact sq.seq), ?_⟩
      exact kk _ x kf k0 (S.newW hx)
theorem c__law_settled_2 {P : Program} {w : World} {K : PySem.W.Frag} {mg : Str → Option Value} {base : Heap} (T : Txt w K mg) : CanV P w K mg base CX0 [] 1 (He.ga K "_law_settled") 2 [] ([.inl 0, .inl 1].map (toArg [] [])) (sp__law_settled) :=
  canV_of (ps := ["_law_state", "_law_pairs"]) [.inl 0, .inl 1] T.f__law_settled (b__law_settled T) (fun _ _ _ _ _ _ us ws h1 h2 => match us, ws, h1, h2 with | [_, _], [], _, _ => rfl) (by decide)
def awS (xs : List Int) : CS := { code := [], given := 0, settled := xs, at_ := 0, held := zeros 1000, pile := [], written := xs, queue := [], laid := List.replicate 5 none }
def sp__law_awake : VSp := fun ds μ ev Φ => ∃ (k : Addr) (xs : List Int), ds = [.ref k] ∧ μ k = some (.lst (xs.map .int)) ∧ ∀ μ' s p m w c, Kp [] μ μ' → (∀ x ∈ [s, p, m, w, c], μ x = none) → StB μ' s p m k w c (awS xs) → Φ (.ref s) μ'
theorem b__law_awake {P : Program} {w : World} {K : PySem.W.Frag} {mg : Str → Option Value} {base : Heap} (T : Txt w K mg) : ∀ fd, FunD K "_law_awake" "_law_awake" (defArgs s__law_awake) (defBody s__law_awake) (defScope s__law_awake) [] [] (He.ga K "_law_awake") fd → FnG P w K mg base CX0 1 (He.ga K "_law_awake") fd ["_law_disk"] (lift K [] (sp__law_awake)) := by
  intro fd F
  refine fun_okD (N := N__law_awake) F sc__law_awake (fun ds μ ev Φ h => ?size) (fun cdv A outer s H E hG hr => ⟨_, (vss_one (vs_ret (ve_dispM (ks := ["at", "stack", "memory", "disk", "waits", "cards"]) (vpp_cons ve_str ve_int (vpp_cons ve_str (ve_lstM va_nil) (vpp_cons ve_str (ve_op op_rep s_repM (ve_lst (va_cons ve_int va_nil)) ve_int) (vpp_cons ve_str (vv 0) (vpp_cons ve_str (ve_lstM va_nil) (vpp_cons ve_str (ve_op op_rep s_repM (ve_lst (va_cons ve_non va_nil)) ve_int) vpp_nil)))))) rfl rfl nofun (by decide) (by decide) (by decide +kernel)))), fun ds μ ev Φ h => ?_⟩)
  · obtain ⟨k, xs, rfl, _⟩ := h; rfl
  · obtain ⟨k, xs, rfl, hk, kk⟩ := h
    walk_at "wr"
    simp only [wDispM]
    try walk_at "wr"
    intro s hs
    refine ⟨sizeOk (by decide), fun p hp => ⟨sizeOk (by decide), (vRepM_iff rfl (by decide) (by decide) (by rw [sizeLine_eq]; simp)).mpr fun m hm => ⟨sizeOk (by decide), fun w hw => ⟨sizeOk (by decide), (vRepM_iff rfl (by decide) (by decide) (by rw [sizeLine_eq]; simp)).mpr fun c hc => ?_⟩⟩⟩⟩
    have z1 : (List.replicate (Int.toNat 1000) [D.int 0]).flatten = (zeros 1000).map D.int := by rw [rep1]; unfold zeros; rw [List.map_replicate]; rfl
    have z2 : (List.replicate (Int.toNat 5) [D.non]).flatten = (List.replicate 5 none).map letD := by rw [rep1, List.map_replicate]; rfl
    rw [z1] at hw hc ⊢
    rw [z2]
    obtain ⟨ps, p0⟩ := set_none hp
    obtain ⟨mp, hm⟩ := set_none hm
    obtain ⟨ms, m0⟩ := set_none hm
    obtain ⟨wm, hw⟩ := set_none hw
    obtain ⟨wp, hw⟩ := set_none hw
    obtain ⟨ws, w0⟩ := set_none hw
    obtain ⟨cw, hc⟩ := set_none hc
    obtain ⟨cm, hc⟩ := set_none hc
    obtain ⟨cp, hc⟩ := set_none hc
    obtain ⟨cs, c0⟩ := set_none hc
    have kne : ∀ {x : Addr}, μ x = none → k ≠ x := fun h e => by rw [e, h] at hk; cases hk
    have ks := kne hs
    have kp := kne p0
    have km := kne m0
    have kw := kne w0
    have kc := kne c0
    refine ⟨by rw [Mu.ne (Ne.symm cs), Mu.ne (Ne.symm ws), Mu.ne (Ne.symm ms), Mu.ne (Ne.symm ps), Mu.same], ?_⟩
    refine kk _ s p m w c ?_ ?_ ⟨?_, Mu.same, ?_, ?_, ?_, ?_, ?_⟩
    · exact (((((Kp.new hs).setN p0).setN m0).setN w0).setN c0).setN hs
    · intro x hx
      simp only [List.mem_cons, List.not_mem_nil, or_false] at hx
      rcases hx with rfl | rfl | rfl | rfl | rfl <;> assumption
    · simp only [List.nodup_cons, List.mem_cons, List.not_mem_nil, or_false, not_or, not_false_eq_true, List.nodup_nil, and_true]
      exact ⟨⟨Ne.symm ps, Ne.symm ms, Ne.symm ks, Ne.symm ws, Ne.symm cs⟩, ⟨Ne.symm mp, Ne.symm kp, Ne.symm wp, Ne.symm cp⟩, ⟨Ne.symm km, Ne.symm wm, Ne.symm cm⟩, ⟨kw, kc⟩, Ne.symm cw⟩
    · rw [Mu.ne ps, Mu.ne (Ne.symm cp), Mu.ne (Ne.symm wp), Mu.ne (Ne.symm mp), Mu.same]; rfl
    · rw [Mu.ne ms, Mu.ne (Ne.symm cm), Mu.ne (Ne.symm wm), Mu.same]; rfl
    · rw [Mu.ne ks, Mu.ne kc, Mu.ne kw, Mu.ne km, Mu.ne kp, Mu.ne ks]; exact hk
    · rw [Mu.ne ws, Mu.ne (Ne.symm cw), Mu.same]; rfl
    · rw [Mu.ne cs, Mu.same]; rfl
theorem c__law_awake_1 {P : Program} {w : World} {K : PySem.W.Frag} {mg : Str → Option Value} {base : Heap} (T : Txt w K mg) : CanV P w K mg base CX0 [] 1 (He.ga K "_law_awake") 1 [] ([.inl 0].map (toArg [] [])) (sp__law_awake) :=
  canV_of (ps := ["_law_disk"]) [.inl 0] T.f__law_awake (b__law_awake T) (fun _ _ _ _ _ _ us ws h1 h2 => match us, ws, h1, h2 with | [_], [], _, _ => rfl) (by decide)
end K25

set_option maxRecDepth 100000
set_option maxHeartbeats 4000000
namespace K25
open PySem L2 FW VL

/-! ### what each instruction does -/
def effI (i : Ins) (st : CS) : D × CS :=
  if i.1 = "push" then (.non, push st (i.2.getD 0))
  else if i.1 = "load" then (.non, push st (st.held.getD (i.2.getD 0).toNat 0))
  else if i.1 = "store" then (.non, { popS st with held := st.held.set (i.2.getD 0).toNat (popV st) })
  else if i.1 = "jump" then (.non, { st with at_ := i.2.getD 0 })
  else if i.1 = "unless" then (.non, unlessS st (i.2.getD 0))
  else if i.1 = "send" then (.tup [.str "sent", .int (i.2.getD 0), .tup [.int (popV (popS (popS st))), .int (popV (popS st)), .int (popV st)]], popS (popS (popS st)))
  else if i.1 = "take" then (.non, takeS st (i.2.getD 0).toNat)
  else if i.1 = "fetch" then (.non, push (popS st) (fetchV st))
  else if i.1 = "put" then (.non, putS st)
  else if i.1 = "not" then (.non, push (popS st) (notI (popV st)))
  else if i.1 = "drop" then (.non, popS st)
  else if i.1 = "copy" then (.non, push (push (popS st) (popV st)) (popV st))
  else if i.1 = "read" then (.non, push (popS st) (readV st))
  else if i.1 = "write" then writeG st
  else if i.1 = "barrier" then barG st
  else if i.1 = "input" then (.tup [.str "typed", .int st.given], push st st.given)
  else if i.1 = "show" then (.tup [.str "shown", .int (popV st), .int (popV (popS st))], popS (popS st))
  else if i.1 = "wait" then (.tup [.str "waits"], st)
  else (.non, push (popS (popS st)) (actI i.1 (popV (popS st)) (popV st)))
/-- the kinds of instructions -/
inductive InsK : Ins → Prop
  | push (v : Int) (h : Sh v) : InsK ("push", some v)
  | load (n : Nat) (h : n < 1000) : InsK ("load", some (n : Int))
  | store (n : Nat) (h : n < 1000) : InsK ("store", some (n : Int))
  | jump (n : Nat) (h : n ≤ 10000) : InsK ("jump", some (n : Int))
  | unl (n : Nat) (h : n ≤ 10000) : InsK ("unless", some (n : Int))
  | send (n : Nat) (h : n < 5) : InsK ("send", some (n : Int))
  | take (n : Nat) (h : n < 5) : InsK ("take", some (n : Int))
  | plain (w : Str) (h : w ∈ PLAINW) : InsK (w, none)
  | sign (w : Str) (h : w ∈ SIGNW) : InsK (w, none)
theorem insK_ok {i : Ins} (h : InsK i) : okIns i = true := by
  cases h with
  | push v h =>
    have : NUMS.lookup ("push" : Str) = some (-2147483648, 2147483647) := by decide +kernel
    simp only [okIns, this, Bool.and_eq_true, decide_eq_true_eq]; exact h
  | load n h =>
    have : NUMS.lookup ("load" : Str) = some (0, 999) := by decide +kernel
    simp only [okIns, this, Bool.and_eq_true, decide_eq_true_eq]; omega
  | store n h =>
    have : NUMS.lookup ("store" : Str) = some (0, 999) := by decide +kernel
    simp only [okIns, this, Bool.and_eq_true, decide_eq_true_eq]; omega
  | jump n h =>
    have : NUMS.lookup ("jump" : Str) = some (0, 10000) := by decide +kernel
    simp only [okIns, this, Bool.and_eq_true, decide_eq_true_eq]; omega
  | unl n h =>
    have : NUMS.lookup ("unless" : Str) = some (0, 10000) := by decide +kernel
    simp only [okIns, this, Bool.and_eq_true, decide_eq_true_eq]; omega
  | send n h =>
    have : NUMS.lookup ("send" : Str) = some (0, 4) := by decide +kernel
    simp only [okIns, this, Bool.and_eq_true, decide_eq_true_eq]; omega
  | take n h =>
    have : NUMS.lookup ("take" : Str) = some (0, 4) := by decide +kernel
    simp only [okIns, this, Bool.and_eq_true, decide_eq_true_eq]; omega
  | plain w h =>
    simp only [PLAINW, List.mem_cons, List.not_mem_nil, or_false] at h
    rcases h with rfl | rfl | rfl | rfl | rfl | rfl | rfl | rfl | rfl | rfl | rfl <;> decide +kernel
  | sign w h =>
    rcases sign_cases h with rfl | rfl | rfl | rfl | rfl | rfl | rfl | rfl | rfl <;> decide +kernel
theorem deed_by {P : Program} {w : World} {K : PySem.W.Frag} {mg : Str → Option Value} {base : Heap} {i : Ins} {g : CS → D × CS} (h : ∀ st, effI i st = g st) (d : deedOk P w K mg base i g) : deedOk P w K mg base i (effI i) := by
  rw [show effI i = g from funext h]; exact d
theorem deed_eff {P : Program} {w : World} {K : PySem.W.Frag} {mg : Str → Option Value} {base : Heap} (T : Txt w K mg) {i : Ins} (h : InsK i) : deedOk P w K mg base i (effI i) := by
  cases h with
  | push v h => exact deed_by (fun st => by simp only [effI, ofStr_inj, String.reduceEq, if_true, if_false, Option.getD_some]) (deed_push T v)
  | load n h => exact deed_by (fun st => by simp only [effI, ofStr_inj, String.reduceEq, if_true, if_false, Option.getD_some, Int.toNat_natCast]) (deed_load T n h)
  | store n h => exact deed_by (fun st => by simp only [effI, ofStr_inj, String.reduceEq, if_true, if_false, Option.getD_some, Int.toNat_natCast]) (deed_store T n h)
  | jump n h => exact deed_by (fun st => by simp only [effI, ofStr_inj, String.reduceEq, if_true, if_false, Option.getD_some]) (deed_jump T n)
  | unl n h => exact deed_by (fun st => by simp only [effI, ofStr_inj, String.reduceEq, if_true, if_false, Option.getD_some]) (deed_unless T n)
  | send n h => exact deed_by (fun st => by simp only [effI, ofStr_inj, String.reduceEq, if_true, if_false, Option.getD_some]) (deed_send T n)
  | take n h => exact deed_by (fun st => by simp only [effI, ofStr_inj, String.reduceEq, if_true, if_false, Option.getD_some, Int.toNat_natCast]) (deed_take T n h)
  | plain w h =>
    simp only [PLAINW, List.mem_cons, List.not_mem_nil, or_false] at h
    rcases h with rfl | rfl | rfl | rfl | rfl | rfl | rfl | rfl | rfl | rfl | rfl
    · exact deed_by (fun st => by simp only [effI, ofStr_inj, String.reduceEq, if_true, if_false]) (deed_fetch T)
    · exact deed_by (fun st => by simp only [effI, ofStr_inj, String.reduceEq, if_true, if_false]) (deed_put T)
    · exact deed_by (fun st => by simp only [effI, ofStr_inj, String.reduceEq, if_true, if_false]) (deed_not T)
    · exact deed_by (fun st => by simp only [effI, ofStr_inj, String.reduceEq, if_true, if_false]) (deed_drop T)
    · exact deed_by (fun st => by simp only [effI, ofStr_inj, String.reduceEq, if_true, if_false]) (deed_copy T)
    · exact deed_by (fun st => by simp only [effI, ofStr_inj, String.reduceEq, if_true, if_false]) (deed_read T)
    · exact deed_by (fun st => by simp only [effI, ofStr_inj, String.reduceEq, if_true, if_false]) (deed_write T)
    · exact deed_by (fun st => by simp only [effI, ofStr_inj, String.reduceEq, if_true, if_false]) (deed_barrier T)
    · exact deed_by (fun st => by simp only [effI, ofStr_inj, String.reduceEq, if_true, if_false]) (deed_input T)
    · exact deed_by (fun st => by simp only [effI, ofStr_inj, String.reduceEq, if_true, if_false]) (deed_show T)
    · exact deed_by (fun st => by simp only [effI, ofStr_inj, String.reduceEq, if_true, if_false]) (deed_wait T)
  | sign w h =>
    have e : effI (w, none) = fun st => (.non, push (popS (popS st)) (actI w (popV (popS st)) (popV st))) := by
      funext st
      rcases sign_cases h with rfl | rfl | rfl | rfl | rfl | rfl | rfl | rfl | rfl <;> simp only [effI, ofStr_inj, String.reduceEq, if_false]
    rw [e]
    exact deed_sign T h
/-- so much room that no push and no writing is lost -/
structure Fit (gv : Int) (st : CS) : Prop where
  ok : st.Ok
  wrt : Wr st
  pl : st.pile.length ≤ 900
  ql : st.queue.length < 400
  gv : st.given = gv
theorem push_eq {st : CS} {n : Int} (h : st.pile.length < 1000) : push st n = { st with pile := st.pile ++ [n] } := by unfold push; rw [if_pos h]
theorem effI_ok {i : Ins} (h : InsK i) {st : CS} (ok : st.Ok) : (effI i st).2.Ok := by
  cases h with
  | push v h => simp only [effI, ofStr_inj, String.reduceEq, if_true, if_false, Option.getD_some]; exact push_ok ok h
  | load n h => simp only [effI, ofStr_inj, String.reduceEq, if_true, if_false, Option.getD_some, Int.toNat_natCast]; exact push_ok ok (getD_sh ok.hs n)
  | store n h => simp only [effI, ofStr_inj, String.reduceEq, if_true, if_false, Option.getD_some, Int.toNat_natCast]; exact (pop_ok ok).held_ (by rw [List.length_set]; exact ok.h) (set_sh ok.hs (popV_sh ok))
  | jump n h => simp only [effI, ofStr_inj, String.reduceEq, if_true, if_false, Option.getD_some]; exact ok.at_ _
  | unl n h =>
    simp only [effI, ofStr_inj, String.reduceEq, if_true, if_false, Option.getD_some]
    unfold unlessS
    split
    · exact (pop_ok ok).at_ _
    · exact pop_ok ok
  | send n h => simp only [effI, ofStr_inj, String.reduceEq, if_true, if_false, Option.getD_some]; exact pop_ok (pop_ok (pop_ok ok))
  | take n h => simp only [effI, ofStr_inj, String.reduceEq, if_true, if_false, Option.getD_some, Int.toNat_natCast]; exact take_ok ok n
  | plain w h =>
    simp only [PLAINW, List.mem_cons, List.not_mem_nil, or_false] at h
    rcases h with rfl | rfl | rfl | rfl | rfl | rfl | rfl | rfl | rfl | rfl | rfl
    all_goals simp only [effI, ofStr_inj, String.reduceEq, if_true, if_false]
    · refine push_ok (pop_ok ok) ?_
      unfold fetchV
      split
      · exact getD_sh ok.hs _
      · exact sh_zero
    · unfold putS
      split
      · exact (pop_ok (pop_ok ok)).held_ (by rw [List.length_set]; exact ok.h) (set_sh ok.hs (popV_sh (pop_ok ok)))
      · exact pop_ok (pop_ok ok)
    · refine push_ok (pop_ok ok) ?_
      unfold notI
      split <;> exact ⟨by decide, by decide⟩
    · exact pop_ok ok
    · exact push_ok (push_ok (pop_ok ok) (popV_sh ok)) (popV_sh ok)
    · exact push_ok (pop_ok ok) (readV_sh ok)
    · exact writeG_ok ok
    · exact barG_ok ok
    · exact push_ok ok ok.gs
    · exact pop_ok (pop_ok ok)
    · exact ok
  | sign w h =>
    have e : effI (w, none) st = (.non, push (popS (popS st)) (actI w (popV (popS st)) (popV st))) := by
      rcases sign_cases h with rfl | rfl | rfl | rfl | rfl | rfl | rfl | rfl | rfl <;> simp only [effI, ofStr_inj, String.reduceEq, if_false]
    rw [e]
    exact push_ok (pop_ok (pop_ok ok)) (actI_sh (popV_sh ok))
end K25

set_option maxRecDepth 100000
set_option maxHeartbeats 4000000
namespace K25
open PySem L2 FW VL
local macro_rules | `(tactic| walk_at "wr") => `(tactic| simp only [vInt_bl, iwR1, iwR2, iwM, List.set_cons_succ, wLenSet, wFor, wSetF, wAugF, wAug, wBM, wProp, wHeld, wVar, wC, wZ, wOp, wUn, wNil, wCons, wStar, wCB, wTup, wLst, wLstM, wTest, wAnd, wOr, VL.wNot, wAndV, wOrV, wNotV, wIf, wChain, wNoPart, wPart, wSl, wName, wGNil, wGCons, wGTup, wSub, wNext, VL.wSeq, wAsg, wDrop, wRet, wRetN, wIfS, wBreak, wCont, wPar, vI0, vI, vU, vAdd, vSub, vMul, vMod, vFdiv, vPow, vLt, vLe, vGt, vGe, vNeg, vIsN, vNotN, vAddA_ii, vMulA_ii, VL.wTru, iwL, iwT, wLc, vstart, List.map_cons, List.map_nil, List.cons_append, List.nil_append, List.set_cons_zero, List.set_cons_succ, List.getElem?_cons_zero, List.getElem?_cons_succ, Option.some.injEq, exists_eq_left, exists_eq_left', exists_eq', D.bl.injEq, D.int.injEq, D.str.injEq, D.tup.injEq, D.ref.injEq, List.cons.injEq, and_true, true_and, List.length_cons, List.length_nil, List.replicate, D.ty.injEq, exists_and_left, List.length, Nat.reduceAdd, wCall, wMake, wMeth, wFld, argsD, argD, toArg, List.getD_cons_zero, List.getD_cons_succ, List.map, iwS, vTupOf, Bool.false_eq_true, if_false, if_true, reduceIte, List.getElem?_nil, Nat.reduceSub, wipeR, vLen_lst, vLen_tup, vEq_ii, vEq_ss, vEq_bb, vIx_lst, vIx_tup, vIn_strs, vIn_s2, vIn_s3, vAll_map, vInK_s, vIxK_s, vInt_i, vAbs_i, atI_0, atI_1, atI_2, Bool.not_true, Bool.not_false, seqOf_lst, seqOf_tup, lstOf_lst, tupOf_tup, fzL_lst, N_is_list, N_is_integer, N_is_within, N_is_short, N_are_shorts, N_are_integers, N_is_lot, N_fixed, N_short_of, N_added, N_taken_from, N_multiplied, N_divided, N_left_over, N_is_less, N_is_equal, N_are_both, N_is_any, N_is_instruction, N_is_target_beyond, N_are_rows, N_Code___init__, N_Code___eq__, N_Code___iter__, N_push_short, N_popped, N_do_push, N_do_load, N_do_store, N_do_fetch, N_do_put, N_do_not, N_do_drop, N_do_copy, N_do_jump, N_do_unless, N_do_wait, N_do_sign, N_do_read, N_do_write, N_do_barrier, N_do_send, N_do_take, N_do_input, N_do_show, N_deed_of_row, N_is_disk_pair, N_are_disk_pairs, N_is_disk, N_Computer_power_on, N_Computer___init__, N_Computer_stack, N_Computer_disk, N_Computer_waiting, N_Computer_cards, N_Computer_memory, N_Computer_hand, N_Computer_cut, N_Computer_go, N_Computer_step, N__law_bench, N__law_turn, N__law_tool, N__law_wrap, N__law_signed, N__law_popped, N__law_written, N__law_settled, N__law_awake, N__law_outside, N__law_step, N__law_piece, N__law_is_so, N__law_moment_right, N_law, ofStr_inj, ofStr_beq, String.reduceEq, decide_true, decide_false, Bool.or_false, Bool.or_true, Bool.false_or, Bool.true_or, Bool.and_true, Bool.and_false, Bool.true_and, Bool.false_and, vModN, iwE, iwEM])

section
variable {μ μ1 μ' : Mu} {s : Addr} {G G1 G' : List Addr} {st : CS} {Φ : WK}
theorem StAt.same {st' : CS} (h : StAt μ s G st) (e : st'.at_ = st.at_ ∧ st'.pile = st.pile ∧ st'.held = st.held ∧ st'.settled = st.settled ∧ st'.queue = st.queue ∧ st'.laid = st.laid) : StAt μ s G st' := by
  obtain ⟨p, m, k, w, c, rfl, b⟩ := h
  obtain ⟨e1, e2, e3, e4, e5, e6⟩ := e
  exact ⟨p, m, k, w, c, rfl, b.nd, by rw [e1]; exact b.hd, by rw [e2]; exact b.hp, by rw [e3]; exact b.hm, by rw [e4]; exact b.hk, by rw [e5]; exact b.hw, by rw [e6]; exact b.hc⟩
end
section
variable {μ : Mu} {s p m k w c : Addr} {st : CS} {Φ : WK}
theorem ext_p (b : StB μ s p m k w c st) {xs : List Int} (hl : st.pile.length + xs.length ≤ 10000) (q : ∀ μ', Kp [s, p, m, k, w, c] μ μ' → StB μ' s p m k w c { st with pile := st.pile ++ xs } → Φ .non μ') : vExtend (.ref p) [.lst (xs.map .int)] μ Φ :=
  ⟨p, _, _, _, rfl, rfl, b.hp, rfl, by rw [List.length_map, List.length_map, sizeLine_eq]; omega, q _ (Kp.set (by simp)) (by rw [← List.map_append]; exact b.setP _)⟩
theorem app_p (b : StB μ s p m k w c st) {x : Int} (hl : st.pile.length ≤ 10000) (q : ∀ μ', Kp [s, p, m, k, w, c] μ μ' → StB μ' s p m k w c { st with pile := st.pile ++ [x] } → Φ .non μ') : vAppend (.ref p) [.int x] μ Φ :=
  (vApp_iff b.hp).mpr ⟨by rw [List.length_map, sizeLine_eq]; omega, q _ (Kp.set (by simp)) (by have := b.setP (st.pile ++ [x]); rw [List.map_append] at this; exact this)⟩
/-- popped off: the same lists -/
theorem pop_b (b : StB μ s p m k w c st) {ev : EV} (q : ∀ μ', Kp [s, p, m, k, w, c] μ μ' → StB μ' s p m k w c (popS st) → Φ (.int (popV st)) μ') : sp__law_popped [.ref s] μ ev Φ := ⟨s, p, m, k, w, c, st, rfl, b, q⟩
end
theorem getD_none {n : Nat} : ∀ {xs : List (Option (Int × Int × Int))}, xs.getD n none = none → xs.set n none = xs := fun {xs} h => by
  refine List.ext_getElem? fun i => ?_
  rw [List.getElem?_set]
  by_cases e : n = i
  · subst e
    rw [if_pos rfl]
    rw [List.getD_eq_getElem?_getD] at h
    by_cases l : n < xs.length
    · rw [List.getElem?_eq_getElem l] at h
      rw [if_pos l, List.getElem?_eq_getElem l]
      simp only [Option.getD_some] at h
      rw [h]
    · rw [if_neg l, List.getElem?_eq_none (by omega)]
  · rw [if_neg e]
def OutW : List Str := ["read", "write", "barrier", "send", "take", "input", "show", "wait"]
def sp__law_outside : VSp := fun ds μ ev Φ => ∃ (i : Ins) (gv : Int), InsK i ∧ i.1 ∈ OutW ∧ spO (Fit gv) (effI i) [.str i.1, .int (i.2.getD 0), .int gv] ds μ ev Φ
theorem b__law_outside {P : Program} {w : World} {K : PySem.W.Frag} {mg : Str → Option Value} {base : Heap} (T : Txt w K mg) : ∀ fd, FunD K "_law_outside" "_law_outside" (defArgs s__law_outside) (defBody s__law_outside) (defScope s__law_outside) [] [] (He.ga K "_law_outside") fd → FnG P w K mg base CX0 2 (He.ga K "_law_outside") fd ["_law_state", "_law_word", "_law_number", "_law_given"] (lift K [] (sp__law_outside)) := by
  intro fd F
  refine fun_okD (N := N__law_outside) F sc__law_outside (fun ds μ ev Φ h => ?size) (fun cdv A outer s H E hG hr => ⟨_, (vss_cons (vs_set (i := 4) sc__law_outside.nd rfl (Or.inl rfl) (ve_dget (units1 hr) (vv 0) ve_str))
 (vss_cons (vs_if (vt_cmp (op_eqA hr.units) s_eq (vv 1) ve_str (nomark _))
 (vss_one (vs_expr (ve_bm PySem.F.plainAttrs_list PySem.F.slot_list_append PySem.F.type_list_append mt_append s_append (vv 4) (va_cons (ve_call T.g__law_written (c__law_written_2 T) hG hr (by decide) pass0 sel_0 rfl (va_cons (vv 0) (va_cons (ve_call T.g__law_popped (c__law_popped_1 T) hG hr (by decide) pass0 sel_0 rfl (va_cons (vv 0) va_nil) vk_nil) va_nil)) vk_nil) va_nil) (fun _ _ h1 h2 => pe_bm PySem.F.plainAttrs_list PySem.F.slot_list_append PySem.F.type_list_append mt_append h1 h2))))
 (vss_one (vs_if (vt_cmp (op_eqA hr.units) s_eq (vv 1) ve_str (nomark _))
 (vss_cons (vs_set (i := 5) sc__law_outside.nd rfl (Or.inl rfl) (ve_call T.g__law_popped (c__law_popped_1 T) hG hr (by decide) pass0 sel_0 rfl (va_cons (vv 0) va_nil) vk_nil))
 (vss_cons (vs_set (i := 6) sc__law_outside.nd rfl (Or.inl rfl) (ve_call T.g__law_popped (c__law_popped_1 T) hG hr (by decide) pass0 sel_0 rfl (va_cons (vv 0) va_nil) vk_nil))
 (vss_one (vs_if (vt_chain op_le s_le op_lt s_lt ve_int (vv 5) ve_int)
 (vss_cons (vs_expr (ve_bm PySem.F.plainAttrs_list PySem.F.slot_list_append PySem.F.type_list_append mt_append s_append (ve_dget (units1 hr) (vv 0) ve_str) (va_cons (ve_tup (va_cons (vv 5) (va_cons (vv 6) va_nil))) va_nil) (fun _ _ h1 h2 => pe_bm PySem.F.plainAttrs_list PySem.F.slot_list_append PySem.F.type_list_append mt_append h1 h2)))
 (vss_one (vs_ret (ve_tup (va_cons ve_str (va_cons (vv 5) (va_cons (vv 6) va_nil)))))))
 vss_nil))))
 (vss_one (vs_if (vt_cmp (op_eqA hr.units) s_eq (vv 1) ve_str (nomark _))
 (vss_one (vs_ret (ve_tup (va_cons ve_str (va_cons (ve_call T.g__law_settled (c__law_settled_2 T) hG hr (by decide) pass0 sel_0 rfl (va_cons (vv 0) (va_cons (ve_dget (units1 hr) (vv 0) ve_str) va_nil)) vk_nil) va_nil)))))
 (vss_one (vs_if (vt_cmp (op_eqA hr.units) s_eq (vv 1) ve_str (nomark _))
 (vss_cons (vs_set (i := 7) sc__law_outside.nd rfl (Or.inl rfl) (ve_call T.g__law_popped (c__law_popped_1 T) hG hr (by decide) pass0 sel_0 rfl (va_cons (vv 0) va_nil) vk_nil))
 (vss_cons (vs_set (i := 8) sc__law_outside.nd rfl (Or.inl rfl) (ve_call T.g__law_popped (c__law_popped_1 T) hG hr (by decide) pass0 sel_0 rfl (va_cons (vv 0) va_nil) vk_nil))
 (vss_one (vs_ret (ve_tup (va_cons ve_str (va_cons (vv 2) (va_cons (ve_tup (va_cons (ve_call T.g__law_popped (c__law_popped_1 T) hG hr (by decide) pass0 sel_0 rfl (va_cons (vv 0) va_nil) vk_nil) (va_cons (vv 8) (va_cons (vv 7) va_nil)))) va_nil))))))))
 (vss_one (vs_if (vt_cmp (op_eqA hr.units) s_eq (vv 1) ve_str (nomark _))
 (vss_cons (vs_set (i := 9) sc__law_outside.nd rfl (Or.inl rfl) (ve_ix ix_seq s_ix (ve_dget (units1 hr) (vv 0) ve_str) (vv 2)))
 (vss_cons (vs_asg ve_non (vg_sub (fun _ _ h1 h2 => pg_sub h1 h2 set_list) s_setL (ve_dget (units1 hr) (vv 0) ve_str) (vv 2)))
 (vss_one (vs_expr (ve_bm PySem.F.plainAttrs_list PySem.F.slot_list_extend PySem.F.type_list_extend mt_extend s_extend (vv 4) (va_cons (ve_if (vt_isN (vv 9)) (ve_lst (va_cons ve_int va_nil)) (ve_lst (va_cons (ve_ix ix_seq s_ix (vv 9) ve_int) (va_cons (ve_ix ix_seq s_ix (vv 9) ve_int) (va_cons (ve_ix ix_seq s_ix (vv 9) ve_int) (va_cons ve_int va_nil)))))) va_nil) (fun _ _ h1 h2 => pe_bm PySem.F.plainAttrs_list PySem.F.slot_list_extend PySem.F.type_list_extend mt_extend h1 h2))))))
 (vss_one (vs_if (vt_cmp (op_eqA hr.units) s_eq (vv 1) ve_str (nomark _))
 (vss_cons (vs_expr (ve_bm PySem.F.plainAttrs_list PySem.F.slot_list_append PySem.F.type_list_append mt_append s_append (vv 4) (va_cons (vv 3) va_nil) (fun _ _ h1 h2 => pe_bm PySem.F.plainAttrs_list PySem.F.slot_list_append PySem.F.type_list_append mt_append h1 h2)))
 (vss_one (vs_ret (ve_tup (va_cons ve_str (va_cons (vv 3) va_nil))))))
 (vss_one (vs_if (vt_cmp (op_eqA hr.units) s_eq (vv 1) ve_str (nomark _))
 (vss_cons (vs_set (i := 10) sc__law_outside.nd rfl (Or.inl rfl) (ve_call T.g__law_popped (c__law_popped_1 T) hG hr (by decide) pass0 sel_0 rfl (va_cons (vv 0) va_nil) vk_nil))
 (vss_one (vs_ret (ve_tup (va_cons ve_str (va_cons (vv 10) (va_cons (ve_call T.g__law_popped (c__law_popped_1 T) hG hr (by decide) pass0 sel_0 rfl (va_cons (vv 0) va_nil) vk_nil) va_nil)))))))
 vss_nil)))))))))))))
 (vss_one (vs_ret (ve_if (vt_cmp (op_eqA hr.units) s_eq (vv 1) ve_str (nomark _)) (ve_tup (va_cons ve_str va_nil)) ve_non))))), fun ds μ ev Φ h => ?_⟩)
  · obtain ⟨i, gv, _, _, s, G, st, rfl, _⟩ := h; rfl
  · obtain ⟨i, gv, hi, hw, s, G, st, rfl, hS, ft, k⟩ := h
    obtain ⟨p, m, kk, w, c, rfl, b⟩ := hS
    have hS : StAt μ s [s, p, m, kk, w, c] st := ⟨p, m, kk, w, c, rfl, b⟩
    cases hi with
    | take n h =>
      simp only [effI, ofStr_inj, String.reduceEq, if_true, if_false, Option.getD_some, Int.toNat_natCast] at k
      simp only [Option.getD_some]
      walk_at "wr"
      simp only [d_stack b.hd, d_cards b.hd]
      try walk_at "wr"
      have hn : n < st.laid.length := by rw [ft.ok.l]; exact h
      have pl := ft.pl
      simp only [vIx_iff (seqOf_of b.hc)]
      refine ⟨letD (st.laid.getD n none), atI_nat (by rw [List.getElem?_map, List.getD_eq_getElem?_getD, List.getElem?_eq_getElem hn]; rfl), ?_⟩
      simp only [d_cards b.hd]
      refine (vSet_iff b.hc).mpr ⟨n, ixN_nat (by rw [List.length_map]; exact hn), ?_⟩
      have b2 := b.setC (st.laid.set n none)
      have k2 : Kp [s, p, m, kk, w, c] μ (μ.set c (.lst ((st.laid.set n none).map letD))) := Kp.set (by simp)
      rw [List.map_set] at b2 k2
      refine ⟨⟨p, _, rfl, b2.hp⟩, ?_⟩
      unfold takeS at k
      cases e : st.laid.getD n none with
      | none =>
        rw [e] at k
        simp only at k
        rw [push_eq (by omega)] at k
        rw [getD_none e] at b2
        refine ⟨sizeOk (by decide), ext_p (xs := [0]) b2 (by simp; omega) fun μ' k3 b3 => k μ' _ (k2.trans Nw.refl k3) Nw.refl ⟨p, m, kk, w, c, rfl, b3⟩⟩
      | some q =>
        obtain ⟨x, y, z⟩ := q
        rw [e] at k
        simp only at k
        rw [push_eq (n := z) (by show st.pile.length < 1000; omega), push_eq (n := y) (by simp; omega), push_eq (n := x) (by simp; omega), push_eq (n := 1) (by simp; omega)] at k
        simp only [letD, VL.isNon, Bool.false_eq_true, if_false, vIx_tup]
        refine ⟨_, atI_nat (j := 2) rfl, _, atI_nat (j := 1) rfl, _, atI_nat (j := 0) rfl, sizeOk (by simp), ext_p (xs := [z, y, x, 1]) b2 (by simp; omega) fun μ' k3 b3 => k μ' _ (k2.trans Nw.refl k3) Nw.refl ⟨p, m, kk, w, c, rfl, ?_⟩⟩
        simpa using b3
    | send n h =>
      simp only [effI, ofStr_inj, String.reduceEq, if_true, if_false, Option.getD_some, Int.toNat_natCast] at k
      simp only [Option.getD_some]
      walk_at "wr"
      simp only [d_stack b.hd, d_cards b.hd]
      try walk_at "wr"
      refine pop_b b fun μ1 k1 b1 => ?_
      refine pop_b b1 fun μ2 k2 b2 => ?_
      refine pop_b b2 fun μ3 k3 b3 => ?_
      exact ⟨sizeOk (by simp), sizeOk (by simp), k μ3 _ ((k1.trans Nw.refl k2).trans Nw.refl k3) Nw.refl ⟨p, m, kk, w, c, rfl, b3⟩⟩
    | plain wd h =>
      simp only [PLAINW, List.mem_cons, List.not_mem_nil, or_false] at h
      have pl := ft.pl
      rcases h with rfl | rfl | rfl | rfl | rfl | rfl | rfl | rfl | rfl | rfl | rfl
      all_goals first
        | (exfalso; simp only [OutW, List.mem_cons, ofStr_inj, String.reduceEq, List.not_mem_nil, or_self] at hw; done)
        | (simp only [effI, ofStr_inj, String.reduceEq, if_true, if_false] at k; walk_at "wr"; simp only [d_stack b.hd, d_cards b.hd]; try walk_at "wr")
      · refine ⟨⟨p, _, rfl, b.hp⟩, ?_⟩
        refine pop_b b fun μ1 k1 b1 => ?_
        refine ⟨s, _, _, _, rfl, ⟨p, m, kk, w, c, rfl, b1⟩, pop_ok ft.ok, ft.wrt, ?_⟩
        have e : wAt (popS st) (popV st) = readV st := rfl
        rw [e]
        have lp : (popS st).pile.length ≤ 900 := by simp [popS]; omega
        rw [push_eq (by omega)] at k
        exact app_p b1 (by omega) fun μ2 k2 b2 => k μ2 _ (k1.trans Nw.refl k2) Nw.refl ⟨p, m, kk, w, c, rfl, b2⟩
      · refine pop_b b fun μ1 k1 b1 => ?_
        refine pop_b b1 fun μ2 k2 b2 => ?_
        have k12 := k1.trans Nw.refl k2
        refine ⟨_, rfl, ite_sp (fun c1 => ⟨_, rfl, ite_sp (fun c2 => ?_) fun c2 => ?_⟩) fun c1 => ?_⟩
        · have c1 : 0 ≤ popV st := by simpa using c1
          have c2 : popV st < 200 := by simpa using c2
          simp only [d_waits b2.hd]
          refine ⟨⟨w, _, rfl, b2.hw⟩, sizeOk (by simp), (vApp_iff b2.hw).mpr ⟨by rw [List.length_map, sizeLine_eq]; have := ft.ql; show st.queue.length < _; omega, sizeOk (by simp), ?_⟩⟩
          unfold writeG at k
          rw [if_pos (show canW st from ⟨⟨c1, c2⟩, ft.ql⟩)] at k
          have b3 := b2.setW (st.queue ++ [(popV st, popV (popS st))])
          rw [List.map_append] at b3
          exact k _ _ (k12.trans Nw.refl (Kp.set (by simp))) Nw.refl ⟨p, m, kk, w, c, rfl, b3.nd, b3.hd, b3.hp, b3.hm, b3.hk, b3.hw, b3.hc⟩
        · have c2 : ¬ popV st < 200 := by simpa using c2
          unfold writeG at k
          rw [if_neg (show ¬ canW st from fun z => c2 z.1.2)] at k
          exact k _ _ k12 Nw.refl ⟨p, m, kk, w, c, rfl, b2⟩
        · have c1 : ¬ 0 ≤ popV st := by simpa using c1
          unfold writeG at k
          rw [if_neg (show ¬ canW st from fun z => c1 z.1.1)] at k
          exact k _ _ k12 Nw.refl ⟨p, m, kk, w, c, rfl, b2⟩
      · simp only [d_waits b.hd]
        refine ⟨s, p, m, kk, w, c, st, _, st.queue, rfl, b, .inl ⟨rfl, rfl⟩, fun q hq => ⟨(ft.ok.qs q hq).1, (ft.ok.qs q hq).2.1⟩, ft.ok.s, fun μ' x k1 x0 b1 => ?_⟩
        refine ⟨sizeOk (by simp), k μ' [s, p, m, kk, x, c] (k1.sub (by simp)) (fun y hy => ?_) ⟨p, m, kk, x, c, rfl, b1⟩⟩
        simp only [List.mem_cons, List.not_mem_nil, or_false] at hy
        rcases hy with rfl | rfl | rfl | rfl | rfl | rfl
        all_goals first | exact .inr x0 | exact .inl (by simp)
      · refine ⟨⟨p, _, rfl, b.hp⟩, ?_⟩
        rw [ft.gv, push_eq (by omega)] at k
        exact app_p b (by omega) fun μ1 k1 b1 => ⟨sizeOk (by simp), k μ1 _ k1 Nw.refl ⟨p, m, kk, w, c, rfl, b1⟩⟩
      · refine pop_b b fun μ1 k1 b1 => ?_
        refine pop_b b1 fun μ2 k2 b2 => ?_
        exact ⟨sizeOk (by simp), k μ2 _ (k1.trans Nw.refl k2) Nw.refl ⟨p, m, kk, w, c, rfl, b2⟩⟩
      · exact ⟨sizeOk (by simp), k μ _ Kp.refl Nw.refl ⟨p, m, kk, w, c, rfl, b⟩⟩
    | sign w h => exfalso; rcases sign_cases h with rfl | rfl | rfl | rfl | rfl | rfl | rfl | rfl | rfl <;> simp only [OutW, List.mem_cons, ofStr_inj, String.reduceEq, List.not_mem_nil, or_self] at hw
    | _ => exfalso; simp only [OutW, List.mem_cons, ofStr_inj, String.reduceEq, List.not_mem_nil, or_self] at hw
theorem c__law_outside_4 {P : Program} {w : World} {K : PySem.W.Frag} {mg : Str → Option Value} {base : Heap} (T : Txt w K mg) : CanV P w K mg base CX0 [] 2 (He.ga K "_law_outside") 4 [] ([.inl 0, .inl 1, .inl 2, .inl 3].map (toArg [] [])) (sp__law_outside) :=
  canV_of (ps := ["_law_state", "_law_word", "_law_number", "_law_given"]) [.inl 0, .inl 1, .inl 2, .inl 3] T.f__law_outside (b__law_outside T) (fun _ _ _ _ _ _ us ws h1 h2 => match us, ws, h1, h2 with | [_, _, _, _], [], _, _ => rfl) (by decide)
end K25

set_option maxRecDepth 100000
set_option maxHeartbeats 4000000
namespace K25
open PySem L2 FW VL
local macro_rules | `(tactic| walk_at "wr") => `(tactic| simp only [vInt_bl, iwR1, iwR2, iwM, List.set_cons_succ, wLenSet, wFor, wSetF, wAugF, wAug, wBM, wProp, wHeld, wVar, wC, wZ, wOp, wUn, wNil, wCons, wStar, wCB, wTup, wLst, wLstM, wTest, wAnd, wOr, VL.wNot, wAndV, wOrV, wNotV, wIf, wChain, wNoPart, wPart, wSl, wName, wGNil, wGCons, wGTup, wSub, wNext, VL.wSeq, wAsg, wDrop, wRet, wRetN, wIfS, wBreak, wCont, wPar, vI0, vI, vU, vAdd, vSub, vMul, vMod, vFdiv, vPow, vLt, vLe, vGt, vGe, vNeg, vIsN, vNotN, vAddA_ii, vMulA_ii, VL.wTru, iwL, iwT, wLc, vstart, List.map_cons, List.map_nil, List.cons_append, List.nil_append, List.set_cons_zero, List.set_cons_succ, List.getElem?_cons_zero, List.getElem?_cons_succ, Option.some.injEq, exists_eq_left, exists_eq_left', exists_eq', D.bl.injEq, D.int.injEq, D.str.injEq, D.tup.injEq, D.ref.injEq, List.cons.injEq, and_true, true_and, List.length_cons, List.length_nil, List.replicate, D.ty.injEq, exists_and_left, List.length, Nat.reduceAdd, wCall, wMake, wMeth, wFld, argsD, argD, toArg, List.getD_cons_zero, List.getD_cons_succ, List.map, iwS, vTupOf, Bool.false_eq_true, if_false, if_true, reduceIte, List.getElem?_nil, Nat.reduceSub, wipeR, vLen_lst, vLen_tup, vEq_ii, vEq_ss, vEq_bb, vIx_lst, vIx_tup, vIn_strs, vIn_s2, vIn_s3, vAll_map, vInK_s, vIxK_s, vInt_i, vAbs_i, atI_0, atI_1, atI_2, Bool.not_true, Bool.not_false, seqOf_lst, seqOf_tup, lstOf_lst, tupOf_tup, fzL_lst, N_is_list, N_is_integer, N_is_within, N_is_short, N_are_shorts, N_are_integers, N_is_lot, N_fixed, N_short_of, N_added, N_taken_from, N_multiplied, N_divided, N_left_over, N_is_less, N_is_equal, N_are_both, N_is_any, N_is_instruction, N_is_target_beyond, N_are_rows, N_Code___init__, N_Code___eq__, N_Code___iter__, N_push_short, N_popped, N_do_push, N_do_load, N_do_store, N_do_fetch, N_do_put, N_do_not, N_do_drop, N_do_copy, N_do_jump, N_do_unless, N_do_wait, N_do_sign, N_do_read, N_do_write, N_do_barrier, N_do_send, N_do_take, N_do_input, N_do_show, N_deed_of_row, N_is_disk_pair, N_are_disk_pairs, N_is_disk, N_Computer_power_on, N_Computer___init__, N_Computer_stack, N_Computer_disk, N_Computer_waiting, N_Computer_cards, N_Computer_memory, N_Computer_hand, N_Computer_cut, N_Computer_go, N_Computer_step, N__law_bench, N__law_turn, N__law_tool, N__law_wrap, N__law_signed, N__law_popped, N__law_written, N__law_settled, N__law_awake, N__law_outside, N__law_step, N__law_piece, N__law_is_so, N__law_moment_right, N_law, ofStr_inj, ofStr_beq, String.reduceEq, decide_true, decide_false, Bool.or_false, Bool.or_true, Bool.false_or, Bool.true_or, Bool.and_true, Bool.and_false, Bool.true_and, Bool.false_and, vModN, iwE, iwEM])

def sp__law_step : VSp := fun ds μ ev Φ => ∃ (is : List Ins) (s : Addr) (G : List Addr) (st : CS) (gv : Int) (n : Nat), ds = [.lst (is.map insD), .ref s, .int gv] ∧ StAt μ s G st ∧ st.at_ = (n : Int) ∧
  ((n = is.length ∧ Φ (.tup [.str "waits"]) μ) ∨ ∃ i, is[n]? = some i ∧ InsK i ∧ Fit gv (fetchS st gv n) ∧ ∀ μ' G', Kp G μ μ' → Nw G G' μ → StAt μ' s G' (effI i (fetchS st gv n)).2 → Φ (effI i (fetchS st gv n)).1 μ')
theorem b__law_step {P : Program} {w : World} {K : PySem.W.Frag} {mg : Str → Option Value} {base : Heap} (T : Txt w K mg) : ∀ fd, FunD K "_law_step" "_law_step" (defArgs s__law_step) (defBody s__law_step) (defScope s__law_step) [] [] (He.ga K "_law_step") fd → FnG P w K mg base CX0 3 (He.ga K "_law_step") fd ["_law_rows", "_law_state", "_law_given"] (lift K [] (sp__law_step)) := by
  intro fd F
  refine fun_okD (N := N__law_step) F sc__law_step (fun ds μ ev Φ h => ?size) (fun cdv A outer s H E hG hr => ⟨_, (vss_cons (vs_if (vt_cmp (op_eqA hr.units) s_eq (ve_dget (units1 hr) (vv 1) ve_str) (ve_callB call_lenA s_len (by rfl) T.b_len (by decide +kernel) (va_cons (vv 0) va_nil)) (nomark _))
 (vss_one (vs_ret (ve_tup (va_cons ve_str va_nil))))
 vss_nil)
 (vss_cons (vs_par3 (ps_par3 (i := 3) (j := 4) (l := 5) rfl sc__law_step.nd rfl rfl rfl (by decide) (by decide) (by decide) rfl rfl rfl (va_cons (ve_ix ix_seq s_ix (vv 0) (ve_dget (units1 hr) (vv 1) ve_str)) (va_cons (ve_dget (units1 hr) (vv 1) ve_str) (va_cons (ve_dget (units1 hr) (vv 1) ve_str) va_nil))) (by rfl)))
 (vss_cons (vs_set (i := 6) sc__law_step.nd rfl (Or.inl rfl) (ve_ix ix_seq s_ix (vv 3) ve_int))
 (vss_cons (vs_asg (ve_op op_addA s_addA (ve_dget (units1 hr) (vv 1) ve_str) ve_int) (vg_sub (fun _ _ h1 h2 => pg_sub h1 h2 (set_dict (units1 hr))) s_setD (vv 1) ve_str))
 (vss_cons (vs_if (vt_cmp op_in_seq s_in (vv 6) (ve_tup (va_cons ve_str (va_cons ve_str va_nil))) (by rfl))
 (vss_one (vs_expr (ve_bm PySem.F.plainAttrs_list PySem.F.slot_list_append PySem.F.type_list_append mt_append s_append (vv 4) (va_cons (ve_if (vt_cmp (op_eqA hr.units) s_eq (vv 6) ve_str (nomark _)) (ve_ix ix_seq s_ix (vv 3) ve_int) (ve_ix ix_seq s_ix (vv 5) (ve_ix ix_seq s_ix (vv 3) ve_int))) va_nil) (fun _ _ h1 h2 => pe_bm PySem.F.plainAttrs_list PySem.F.slot_list_append PySem.F.type_list_append mt_append h1 h2))))
 (vss_one (vs_if (vt_cmp op_in_seq s_in (vv 6) (ve_tup (va_cons ve_str (va_cons ve_str va_nil))) (by rfl))
 (vss_cons (vs_set (i := 7) sc__law_step.nd rfl (Or.inl rfl) (ve_if (vt_cmp (op_eqA hr.units) s_eq (vv 6) ve_str (nomark _)) (ve_ix ix_seq s_ix (vv 3) ve_int) (ve_call T.g__law_popped (c__law_popped_1 T) hG hr (by decide) pass0 sel_0 rfl (va_cons (vv 1) va_nil) vk_nil)))
 (vss_cons (vs_set (i := 8) sc__law_step.nd rfl (Or.inl rfl) (ve_call T.g__law_popped (c__law_popped_1 T) hG hr (by decide) pass0 sel_0 rfl (va_cons (vv 1) va_nil) vk_nil))
 (vss_one (vs_if (vt_chain op_le s_le op_lt s_lt ve_int (vv 7) ve_int)
 (vss_one (vs_asg (vv 8) (vg_sub (fun _ _ h1 h2 => pg_sub h1 h2 set_list) s_setL (vv 5) (vv 7))))
 vss_nil))))
 (vss_one (vs_if (vt_cmp (op_eqA hr.units) s_eq (vv 6) ve_str (nomark _))
 (vss_cons (vs_set (i := 7) sc__law_step.nd rfl (Or.inl rfl) (ve_call T.g__law_popped (c__law_popped_1 T) hG hr (by decide) pass0 sel_0 rfl (va_cons (vv 1) va_nil) vk_nil))
 (vss_one (vs_expr (ve_bm PySem.F.plainAttrs_list PySem.F.slot_list_append PySem.F.type_list_append mt_append s_append (vv 4) (va_cons (ve_if (vt_chain op_le s_le op_lt s_lt ve_int (vv 7) ve_int) (ve_ix ix_seq s_ix (vv 5) (vv 7)) ve_int) va_nil) (fun _ _ h1 h2 => pe_bm PySem.F.plainAttrs_list PySem.F.slot_list_append PySem.F.type_list_append mt_append h1 h2)))))
 (vss_one (vs_if (vt_cmp op_in_seq s_in (vv 6) (ve_tup (va_cons ve_str (va_cons ve_str va_nil))) (by rfl))
 (vss_one (vs_if (PW.pt (vw_or (vt_cmp (op_eqA hr.units) s_eq (vv 6) ve_str (nomark _)) (vw_or1 (vt_cmp (op_eqA hr.units) s_eq (ve_call T.g__law_popped (c__law_popped_1 T) hG hr (by decide) pass0 sel_0 rfl (va_cons (vv 1) va_nil) vk_nil) ve_int (nomark _)))))
 (vss_one (vs_asg (ve_ix ix_seq s_ix (vv 3) ve_int) (vg_sub (fun _ _ h1 h2 => pg_sub h1 h2 (set_dict (units1 hr))) s_setD (vv 1) ve_str)))
 vss_nil))
 (vss_one (vs_if (vt_cmp op_in_seq s_in (vv 6) (ve_tup (va_cons ve_str (va_cons ve_str (va_cons ve_str va_nil)))) (by rfl))
 (vss_cons (vs_set (i := 8) sc__law_step.nd rfl (Or.inl rfl) (ve_call T.g__law_popped (c__law_popped_1 T) hG hr (by decide) pass0 sel_0 rfl (va_cons (vv 1) va_nil) vk_nil))
 (vss_one (vs_expr (ve_bm PySem.F.plainAttrs_list PySem.F.slot_list_extend PySem.F.type_list_extend mt_extend s_extend (vv 4) (va_cons (ve_if (vt_cmp (op_eqA hr.units) s_eq (vv 6) ve_str (nomark _)) (ve_lst (va_cons (ve_callTy call_intA s_int (by rfl) T.b_int (by decide +kernel) (va_cons (ve_cmp (op_eqA hr.units) s_eq (vv 8) ve_int (nomark _)) va_nil)) va_nil)) (ve_if (vt_cmp (op_eqA hr.units) s_eq (vv 6) ve_str (nomark _)) (ve_lst (va_cons (vv 8) (va_cons (vv 8) va_nil))) (ve_lst va_nil))) va_nil) (fun _ _ h1 h2 => pe_bm PySem.F.plainAttrs_list PySem.F.slot_list_extend PySem.F.type_list_extend mt_extend h1 h2)))))
 (vss_one (vs_if (vt_cmp op_in_seq s_in (vv 6) (ve_tup (va_cons ve_str (va_cons ve_str (va_cons ve_str (va_cons ve_str (va_cons ve_str (va_cons ve_str (va_cons ve_str (va_cons ve_str (va_cons ve_str va_nil)))))))))) (by rfl))
 (vss_cons (vs_set (i := 9) sc__law_step.nd rfl (Or.inl rfl) (ve_call T.g__law_popped (c__law_popped_1 T) hG hr (by decide) pass0 sel_0 rfl (va_cons (vv 1) va_nil) vk_nil))
 (vss_one (vs_expr (ve_bm PySem.F.plainAttrs_list PySem.F.slot_list_append PySem.F.type_list_append mt_append s_append (vv 4) (va_cons (ve_call T.g__law_signed (c__law_signed_3 T) hG hr (by decide) pass0 sel_0 rfl (va_cons (vv 6) (va_cons (ve_call T.g__law_popped (c__law_popped_1 T) hG hr (by decide) pass0 sel_0 rfl (va_cons (vv 1) va_nil) vk_nil) (va_cons (vv 9) va_nil))) vk_nil) va_nil) (fun _ _ h1 h2 => pe_bm PySem.F.plainAttrs_list PySem.F.slot_list_append PySem.F.type_list_append mt_append h1 h2)))))
 (vss_one (vs_ret (ve_call T.g__law_outside (c__law_outside_4 T) hG hr (by decide) pass0 sel_0 rfl (va_cons (vv 1) (va_cons (vv 6) (va_cons (ve_if (vt_cmp op_gt s_gt (ve_callB call_lenA s_len (by rfl) T.b_len (by decide +kernel) (va_cons (vv 3) va_nil)) ve_int (nomark _)) (ve_ix ix_seq s_ix (vv 3) ve_int) ve_int) (va_cons (vv 2) va_nil)))) vk_nil))))))))))))))
 (vss_one (vs_ret ve_non))))))), fun ds μ ev Φ h => ?_⟩)
  · obtain ⟨is, s, G, st, gv, n, rfl, _⟩ := h; rfl
  · obtain ⟨is, s, G, st, gv, n, rfl, ⟨p, m, kk, w, c, rfl, b⟩, hat, k⟩ := h
    walk_at "wr"
    simp only [d_at b.hd, d_stack b.hd, d_memory b.hd]
    try walk_at "wr"
    rw [hat]
    try walk_at "wr"
    rcases k with ⟨rfl, q⟩ | ⟨i, hi, hk, ft, k⟩
    · rw [List.length_map]
      simp only [decide_true, if_true]
      exact ⟨sizeOk (by simp), q⟩
    have hn : n < is.length := (List.getElem?_eq_some_iff.mp hi).1
    rw [List.length_map]
    refine ite_sp (fun c1 => by have := of_decide_eq_true c1; omega) fun _ => ?_
    simp only [wPar3]
    walk_at "wr"
    simp only [d_at b.hd, d_stack b.hd, d_memory b.hd]
    rw [hat]
    refine (vIx_iff seqOf_lst).mpr ⟨insD i, atI_nat (by rw [List.getElem?_map, hi]; rfl), ?_⟩
    simp only [d_at b.hd, d_stack b.hd, d_memory b.hd]
    try walk_at "wr"
    refine ⟨_, _, _, ⟨rfl, rfl, rfl⟩, ?_⟩
    try walk_at "wr"
    have b0 := b.setD ((n : Int) + 1)
    have b1 : StB (μ.set s (.dic stKs (stDs ((n : Int) + 1) p m kk w c))) s p m kk w c (fetchS st gv n) := ⟨b0.nd, b0.hd, b0.hp, b0.hm, b0.hk, b0.hw, b0.hc⟩
    have k1 : Kp [s, p, m, kk, w, c] μ (μ.set s (.dic stKs (stDs ((n : Int) + 1) p m kk w c))) := Kp.set (by simp)
    have k0 := k
    have k := fun μ' b' kp => k μ' _ kp Nw.refl ⟨p, m, kk, w, c, rfl, b'⟩
    have pl : (fetchS st gv n).pile.length ≤ 900 := ft.pl
    clear b0
    have done : ∀ {μ2}, Kp [s, p, m, kk, w, c] (μ.set s (.dic stKs (stDs ((n : Int) + 1) p m kk w c))) μ2 → Kp [s, p, m, kk, w, c] μ μ2 := fun h => k1.trans Nw.refl h
    cases hk with
    | push v h =>
      simp only [insD]
      simp only [effI, ofStr_inj, String.reduceEq, if_true, if_false, Option.getD_some, Int.toNat_natCast] at k
      walk_at "wr"
      simp only [d_at b.hd]
      rw [hat]
      try walk_at "wr"
      refine set_at b.hd ?_
      generalize μ.set s (.dic stKs (stDs ((n : Int) + 1) p m kk w c)) = μ1 at b1 k1 ⊢
      repeat (refine ⟨sizeOk (by simp), ?_⟩)
      rw [push_eq (by omega)] at k
      exact ⟨⟨p, _, rfl, b1.hp⟩, app_p b1 (by omega) fun μ2 k2 b2 => k μ2 b2 (k1.trans Nw.refl k2)⟩
    | load q h =>
      simp only [insD]
      simp only [effI, ofStr_inj, String.reduceEq, if_true, if_false, Option.getD_some, Int.toNat_natCast] at k
      walk_at "wr"
      simp only [d_at b.hd]
      rw [hat]
      try walk_at "wr"
      refine set_at b.hd ?_
      generalize μ.set s (.dic stKs (stDs ((n : Int) + 1) p m kk w c)) = μ1 at b1 k1 ⊢
      repeat (refine ⟨sizeOk (by simp), ?_⟩)
      rw [push_eq (by omega)] at k
      have hq : q < (fetchS st gv n).held.length := by rw [ft.ok.h]; exact h
      refine ⟨⟨p, _, rfl, b1.hp⟩, ?_⟩
      simp only [vIx_iff (seqOf_of b1.hm)]
      refine ⟨.int ((fetchS st gv n).held.getD q 0), atI_nat (by rw [List.getElem?_map, List.getD_eq_getElem?_getD, List.getElem?_eq_getElem hq]; rfl), ?_⟩
      exact app_p b1 (by omega) fun μ2 k2 b2 => k μ2 b2 (k1.trans Nw.refl k2)
    | store q h =>
      simp only [insD]
      simp only [effI, ofStr_inj, String.reduceEq, if_true, if_false, Option.getD_some, Int.toNat_natCast] at k
      walk_at "wr"
      simp only [d_at b.hd]
      rw [hat]
      try walk_at "wr"
      refine set_at b.hd ?_
      generalize μ.set s (.dic stKs (stDs ((n : Int) + 1) p m kk w c)) = μ1 at b1 k1 ⊢
      repeat (refine ⟨sizeOk (by simp), ?_⟩)
      refine pop_b b1 fun μ2 k2 b2 => ?_
      rw [if_pos (by simp), if_pos (by simp; omega)]
      have b3 := b2.setM ((fetchS st gv n).held.set q (popV (fetchS st gv n)))
      rw [List.map_set] at b3
      exact (vSet_iff b2.hm).mpr ⟨q, ixN_nat (by rw [List.length_map]; show q < (fetchS st gv n).held.length; rw [ft.ok.h]; exact h), k _ b3 ((k1.trans Nw.refl k2).trans Nw.refl (Kp.set (by simp)))⟩
    | jump q h =>
      simp only [insD]
      simp only [effI, ofStr_inj, String.reduceEq, if_true, if_false, Option.getD_some, Int.toNat_natCast] at k
      walk_at "wr"
      simp only [d_at b.hd]
      rw [hat]
      try walk_at "wr"
      refine set_at b.hd ?_
      generalize μ.set s (.dic stKs (stDs ((n : Int) + 1) p m kk w c)) = μ1 at b1 k1 ⊢
      repeat (refine ⟨sizeOk (by simp), ?_⟩)
      exact set_at b1.hd (k _ (b1.setD q) (k1.trans Nw.refl (Kp.set (by simp))))
    | unl q h =>
      simp only [insD]
      simp only [effI, ofStr_inj, String.reduceEq, if_true, if_false, Option.getD_some, Int.toNat_natCast] at k
      walk_at "wr"
      simp only [d_at b.hd]
      rw [hat]
      try walk_at "wr"
      refine set_at b.hd ?_
      generalize μ.set s (.dic stKs (stDs ((n : Int) + 1) p m kk w c)) = μ1 at b1 k1 ⊢
      repeat (refine ⟨sizeOk (by simp), ?_⟩)
      refine pop_b b1 fun μ2 k2 b2 => ?_
      simp only [vEq_ii]
      unfold unlessS at k
      refine ⟨_, rfl, ite_sp (fun c1 => ?_) fun c1 => ?_⟩
      · have c1 : popV (fetchS st gv n) = 0 := by simpa using c1
        rw [if_pos c1] at k
        exact set_at b2.hd (k _ (b2.setD q) ((k1.trans Nw.refl k2).trans Nw.refl (Kp.set (by simp))))
      · have c1 : ¬ popV (fetchS st gv n) = 0 := by simpa using c1
        rw [if_neg c1] at k
        exact k _ b2 (k1.trans Nw.refl k2)
    | send q h =>
      simp only [insD]
      walk_at "wr"
      simp only [d_at b.hd]
      rw [hat]
      try walk_at "wr"
      refine set_at b.hd ?_
      generalize μ.set s (.dic stKs (stDs ((n : Int) + 1) p m kk w c)) = μ1 at b1 k1 ⊢
      repeat (refine ⟨sizeOk (by simp), ?_⟩)
      refine ⟨_, rfl, rfl, rfl, _, rfl, ?_⟩
      rw [if_neg (by decide +kernel)]
      rw [if_pos (by simp)]
      exact ⟨("send", some (q : Int)), gv, .send q h, by simp [OutW], s, _, fetchS st gv n, rfl, ⟨p, m, kk, w, c, rfl, b1⟩, ft, fun μ' G' kp nw h2 => k0 μ' G' (k1.trans Nw.refl kp) (Nw.refl.trans k1 nw) h2⟩
    | take q h =>
      simp only [insD]
      walk_at "wr"
      simp only [d_at b.hd]
      rw [hat]
      try walk_at "wr"
      refine set_at b.hd ?_
      generalize μ.set s (.dic stKs (stDs ((n : Int) + 1) p m kk w c)) = μ1 at b1 k1 ⊢
      repeat (refine ⟨sizeOk (by simp), ?_⟩)
      refine ⟨_, rfl, rfl, rfl, _, rfl, ?_⟩
      rw [if_neg (by decide +kernel)]
      rw [if_pos (by simp)]
      exact ⟨("take", some (q : Int)), gv, .take q h, by simp [OutW], s, _, fetchS st gv n, rfl, ⟨p, m, kk, w, c, rfl, b1⟩, ft, fun μ' G' kp nw h2 => k0 μ' G' (k1.trans Nw.refl kp) (Nw.refl.trans k1 nw) h2⟩
    | plain wd h =>
      simp only [PLAINW, List.mem_cons, List.not_mem_nil, or_false] at h
      rcases h with rfl | rfl | rfl | rfl | rfl | rfl | rfl | rfl | rfl | rfl | rfl
      all_goals
        simp only [insD]
        simp only [effI, ofStr_inj, String.reduceEq, if_true, if_false, Option.getD_some, Int.toNat_natCast] at k
        walk_at "wr"
        simp only [d_at b.hd]
        rw [hat]
        try walk_at "wr"
        refine set_at b.hd ?_
        generalize μ.set s (.dic stKs (stDs ((n : Int) + 1) p m kk w c)) = μ1 at b1 k1 ⊢
        repeat (refine ⟨sizeOk (by simp), ?_⟩)
      · refine pop_b b1 fun μ2 k2 b2 => ⟨⟨p, _, rfl, b2.hp⟩, ?_⟩
        have k12 := k1.trans Nw.refl k2
        rw [push_eq (by simp [popS]; omega)] at k
        unfold fetchV at k
        have lp : (popS (fetchS st gv n)).pile.length ≤ 10000 := by simp [popS]; omega
        refine ⟨_, rfl, ite_sp (fun c1 => ⟨_, rfl, ite_sp (fun c2 => ?_) fun c2 => ?_⟩) fun c1 => ?_⟩
        · have c1 : 0 ≤ popV (fetchS st gv n) := by simpa using c1
          have c2 : popV (fetchS st gv n) < 1000 := by simpa using c2
          rw [if_pos ⟨c1, c2⟩] at k
          obtain ⟨q, hq⟩ : ∃ q : Nat, popV (fetchS st gv n) = (q : Int) := ⟨(popV (fetchS st gv n)).toNat, by omega⟩
          rw [hq, Int.toNat_natCast] at k
          rw [hq]
          have hql : q < (popS (fetchS st gv n)).held.length := by show q < (fetchS st gv n).held.length; rw [ft.ok.h]; omega
          simp only [vIx_iff (seqOf_of b2.hm)]
          refine ⟨.int ((popS (fetchS st gv n)).held.getD q 0), atI_nat (by rw [List.getElem?_map, List.getD_eq_getElem?_getD, List.getElem?_eq_getElem hql]; rfl), ?_⟩
          exact app_p b2 lp fun μ3 k3 b3 => k μ3 b3 (k12.trans Nw.refl k3)
        · have c2 : ¬ popV (fetchS st gv n) < 1000 := by simpa using c2
          rw [if_neg (fun z => c2 z.2)] at k
          exact app_p b2 lp fun μ3 k3 b3 => k μ3 b3 (k12.trans Nw.refl k3)
        · have c1 : ¬ 0 ≤ popV (fetchS st gv n) := by simpa using c1
          rw [if_neg (fun z => c1 z.1)] at k
          exact app_p b2 lp fun μ3 k3 b3 => k μ3 b3 (k12.trans Nw.refl k3)
      · refine pop_b b1 fun μ2 k2 b2 => pop_b b2 fun μ3 k3 b3 => ?_
        have k13 := (k1.trans Nw.refl k2).trans Nw.refl k3
        unfold putS at k
        refine ⟨_, rfl, ite_sp (fun c1 => ⟨_, rfl, ite_sp (fun c2 => ?_) fun c2 => ?_⟩) fun c1 => ?_⟩
        · have c1 : 0 ≤ popV (fetchS st gv n) := by simpa using c1
          have c2 : popV (fetchS st gv n) < 1000 := by simpa using c2
          rw [if_pos ⟨c1, c2⟩] at k
          obtain ⟨q, hq⟩ : ∃ q : Nat, popV (fetchS st gv n) = (q : Int) := ⟨(popV (fetchS st gv n)).toNat, by omega⟩
          rw [hq, Int.toNat_natCast] at k
          rw [hq]
          have b4 := b3.setM ((fetchS st gv n).held.set q (popV (popS (fetchS st gv n))))
          rw [List.map_set] at b4
          exact (vSet_iff b3.hm).mpr ⟨q, ixN_nat (by rw [List.length_map]; show q < (fetchS st gv n).held.length; rw [ft.ok.h]; omega), k _ b4 (k13.trans Nw.refl (Kp.set (by simp)))⟩
        · have c2 : ¬ popV (fetchS st gv n) < 1000 := by simpa using c2
          rw [if_neg (fun z => c2 z.2)] at k
          exact k _ b3 k13
        · have c1 : ¬ 0 ≤ popV (fetchS st gv n) := by simpa using c1
          rw [if_neg (fun z => c1 z.1)] at k
          exact k _ b3 k13
      · refine pop_b b1 fun μ2 k2 b2 => ⟨⟨p, _, rfl, b2.hp⟩, ?_⟩
        rw [push_eq (by simp [popS]; omega)] at k
        unfold notI at k
        simp only [vEq_ii, vInt_bl, Bool.false_eq_true, if_false, decide_eq_true_eq]
        exact ⟨sizeOk (by simp), ext_p (xs := [if popV (fetchS st gv n) = 0 then 1 else 0]) b2 (by simp [popS]; omega) fun μ3 k3 b3 => k μ3 b3 ((k1.trans Nw.refl k2).trans Nw.refl k3)⟩
      · refine pop_b b1 fun μ2 k2 b2 => ⟨⟨p, _, rfl, b2.hp⟩, sizeOk (by simp), ext_p (xs := []) b2 (by simp [popS]; omega) fun μ3 k3 b3 => k μ3 ?_ ((k1.trans Nw.refl k2).trans Nw.refl k3)⟩
        rw [List.append_nil] at b3
        exact b3
      · refine pop_b b1 fun μ2 k2 b2 => ⟨⟨p, _, rfl, b2.hp⟩, sizeOk (by simp), ext_p (xs := [popV (fetchS st gv n), popV (fetchS st gv n)]) b2 (by simp [popS]; omega) fun μ3 k3 b3 => k μ3 ?_ ((k1.trans Nw.refl k2).trans Nw.refl k3)⟩
        have e1 : push (popS (fetchS st gv n)) (popV (fetchS st gv n)) = { popS (fetchS st gv n) with pile := (popS (fetchS st gv n)).pile ++ [popV (fetchS st gv n)] } := push_eq (by simp [popS]; omega)
        rw [e1, push_eq (by simp [popS]; omega)]
        simpa using b3
      all_goals
        refine ⟨_, rfl, rfl, rfl, _, rfl, ?_⟩
        rw [if_neg (by decide +kernel)]
        rw [if_neg (by simp)]
        exact ⟨(_, none), gv, .plain _ (by decide +kernel), by decide +kernel, s, _, fetchS st gv n, rfl, ⟨p, m, kk, w, c, rfl, b1⟩, ft, fun μ' G' kp nw h2 => k0 μ' G' (k1.trans Nw.refl kp) (Nw.refl.trans k1 nw) h2⟩
    | sign wd h =>
      have ee : effI (wd, none) (fetchS st gv n) = (.non, push (popS (popS (fetchS st gv n))) (actI wd (popV (popS (fetchS st gv n))) (popV (fetchS st gv n)))) := by
        rcases sign_cases h with rfl | rfl | rfl | rfl | rfl | rfl | rfl | rfl | rfl <;> simp only [effI, ofStr_inj, String.reduceEq, if_false]
      rw [ee] at k
      simp only at k
      rw [push_eq (by simp [popS]; omega)] at k
      simp only [insD]
      walk_at "wr"
      simp only [d_at b.hd]
      rw [hat]
      try walk_at "wr"
      refine set_at b.hd ?_
      generalize μ.set s (.dic stKs (stDs ((n : Int) + 1) p m kk w c)) = μ1 at b1 k1 ⊢
      rcases sign_cases h with rfl | rfl | rfl | rfl | rfl | rfl | rfl | rfl | rfl
      all_goals
        try walk_at "wr"
        repeat (refine ⟨sizeOk (by simp), ?_⟩)
        refine ⟨_, rfl, rfl, rfl, _, rfl, ?_⟩
        rw [if_pos (by decide +kernel)]
        refine pop_b b1 fun μ2 k2 b2 => ⟨⟨p, _, rfl, b2.hp⟩, pop_b b2 fun μ3 k3 b3 => ?_⟩
        refine ⟨_, _, _, rfl, h, popV_sh (pop_ok ft.ok), popV_sh ft.ok, ?_⟩
        exact app_p b3 (by simp [popS]; omega) fun μ4 k4 b4 => k μ4 b4 (((k1.trans Nw.refl k2).trans Nw.refl k3).trans Nw.refl k4)
theorem c__law_step_3 {P : Program} {w : World} {K : PySem.W.Frag} {mg : Str → Option Value} {base : Heap} (T : Txt w K mg) : CanV P w K mg base CX0 [] 3 (He.ga K "_law_step") 3 [] ([.inl 0, .inl 1, .inl 2].map (toArg [] [])) (sp__law_step) :=
  canV_of (ps := ["_law_rows", "_law_state", "_law_given"]) [.inl 0, .inl 1, .inl 2] T.f__law_step (b__law_step T) (fun _ _ _ _ _ _ us ws h1 h2 => match us, ws, h1, h2 with | [_, _, _], [], _, _ => rfl) (by decide)
end K25

set_option maxRecDepth 100000
set_option maxHeartbeats 4000000
namespace K25
open PySem L2 FW VL
local macro_rules | `(tactic| walk_at "wr") => `(tactic| simp only [vInt_bl, iwR1, iwR2, iwM, List.set_cons_succ, wLenSet, wFor, wSetF, wAugF, wAug, wBM, wProp, wHeld, wVar, wC, wZ, wOp, wUn, wNil, wCons, wStar, wCB, wTup, wLst, wLstM, wTest, wAnd, wOr, VL.wNot, wAndV, wOrV, wNotV, wIf, wChain, wNoPart, wPart, wSl, wName, wGNil, wGCons, wGTup, wSub, wNext, VL.wSeq, wAsg, wDrop, wRet, wRetN, wIfS, wBreak, wCont, wPar, vI0, vI, vU, vAdd, vSub, vMul, vMod, vFdiv, vPow, vLt, vLe, vGt, vGe, vNeg, vIsN, vNotN, vAddA_ii, vMulA_ii, VL.wTru, iwL, iwT, wLc, vstart, List.map_cons, List.map_nil, List.cons_append, List.nil_append, List.set_cons_zero, List.set_cons_succ, List.getElem?_cons_zero, List.getElem?_cons_succ, Option.some.injEq, exists_eq_left, exists_eq_left', exists_eq', D.bl.injEq, D.int.injEq, D.str.injEq, D.tup.injEq, D.ref.injEq, List.cons.injEq, and_true, true_and, List.length_cons, List.length_nil, List.replicate, D.ty.injEq, exists_and_left, List.length, Nat.reduceAdd, wCall, wMake, wMeth, wFld, argsD, argD, toArg, List.getD_cons_zero, List.getD_cons_succ, List.map, iwS, vTupOf, Bool.false_eq_true, if_false, if_true, reduceIte, List.getElem?_nil, Nat.reduceSub, wipeR, vLen_lst, vLen_tup, vEq_ii, vEq_ss, vEq_bb, vIx_lst, vIx_tup, vIn_strs, vIn_s2, vIn_s3, vAll_map, vInK_s, vIxK_s, vInt_i, vAbs_i, atI_0, atI_1, atI_2, Bool.not_true, Bool.not_false, seqOf_lst, seqOf_tup, lstOf_lst, tupOf_tup, fzL_lst, N_is_list, N_is_integer, N_is_within, N_is_short, N_are_shorts, N_are_integers, N_is_lot, N_fixed, N_short_of, N_added, N_taken_from, N_multiplied, N_divided, N_left_over, N_is_less, N_is_equal, N_are_both, N_is_any, N_is_instruction, N_is_target_beyond, N_are_rows, N_Code___init__, N_Code___eq__, N_Code___iter__, N_push_short, N_popped, N_do_push, N_do_load, N_do_store, N_do_fetch, N_do_put, N_do_not, N_do_drop, N_do_copy, N_do_jump, N_do_unless, N_do_wait, N_do_sign, N_do_read, N_do_write, N_do_barrier, N_do_send, N_do_take, N_do_input, N_do_show, N_deed_of_row, N_is_disk_pair, N_are_disk_pairs, N_is_disk, N_Computer_power_on, N_Computer___init__, N_Computer_stack, N_Computer_disk, N_Computer_waiting, N_Computer_cards, N_Computer_memory, N_Computer_hand, N_Computer_cut, N_Computer_go, N_Computer_step, N__law_bench, N__law_turn, N__law_tool, N__law_wrap, N__law_signed, N__law_popped, N__law_written, N__law_settled, N__law_awake, N__law_outside, N__law_step, N__law_piece, N__law_is_so, N__law_moment_right, N_law, ofStr_inj, ofStr_beq, String.reduceEq, decide_true, decide_false, Bool.or_false, Bool.or_true, Bool.false_or, Bool.true_or, Bool.and_true, Bool.and_false, Bool.true_and, Bool.false_and, vModN, iwE, iwEM])

def Okp (m : Nat) (i : Ins) : Prop := InsK i ∧ TgtOk m i
section
variable {m : Nat}
theorem okp_plain {w : Str} (h : w ∈ PLAINW) : Okp m (w, none) := ⟨.plain w h, fun n e => by cases e⟩
theorem okp_sign {w : Str} (h : w ∈ SIGNW) : Okp m (w, none) := ⟨.sign w h, fun n e => by cases e⟩
theorem okp_push {v : Int} (h : Sh v) : Okp m ("push", some v) := ⟨.push v h, fun n e hw => by simp only [ofStr_inj, String.reduceEq, or_self] at hw⟩
theorem okp_load {v : Int} (h : 0 ≤ v ∧ v < 1000) : Okp m ("load", some v) := by
  obtain ⟨n, rfl⟩ : ∃ n : Nat, v = (n : Int) := ⟨v.toNat, by omega⟩
  exact ⟨.load n (by omega), fun n e hw => by simp only [ofStr_inj, String.reduceEq, or_self] at hw⟩
theorem okp_store {v : Int} (h : 0 ≤ v ∧ v < 1000) : Okp m ("store", some v) := by
  obtain ⟨n, rfl⟩ : ∃ n : Nat, v = (n : Int) := ⟨v.toNat, by omega⟩
  exact ⟨.store n (by omega), fun n e hw => by simp only [ofStr_inj, String.reduceEq, or_self] at hw⟩
theorem okp_send {v : Int} (h : 0 ≤ v ∧ v < 5) : Okp m ("send", some v) := by
  obtain ⟨n, rfl⟩ : ∃ n : Nat, v = (n : Int) := ⟨v.toNat, by omega⟩
  exact ⟨.send n (by omega), fun n e hw => by simp only [ofStr_inj, String.reduceEq, or_self] at hw⟩
theorem okp_take {v : Int} (h : 0 ≤ v ∧ v < 5) : Okp m ("take", some v) := by
  obtain ⟨n, rfl⟩ : ∃ n : Nat, v = (n : Int) := ⟨v.toNat, by omega⟩
  exact ⟨.take n (by omega), fun n e hw => by simp only [ofStr_inj, String.reduceEq, or_self] at hw⟩
theorem okp_jump {v : Int} (h : 0 ≤ v ∧ v ≤ m) (hm : m ≤ 10000) : Okp m ("jump", some v) := by
  obtain ⟨n, rfl⟩ : ∃ n : Nat, v = (n : Int) := ⟨v.toNat, by omega⟩
  exact ⟨.jump n (by omega), fun k e hw => by cases e; omega⟩
theorem okp_unl {v : Int} (h : 0 ≤ v ∧ v ≤ m) (hm : m ≤ 10000) : Okp m ("unless", some v) := by
  obtain ⟨n, rfl⟩ : ∃ n : Nat, v = (n : Int) := ⟨v.toNat, by omega⟩
  exact ⟨.unl n (by omega), fun k e hw => by cases e; omega⟩
end
theorem all_nil {P : Ins → Prop} : ∀ j ∈ ([] : List Ins), P j := fun _ h => (nomatch h)
theorem all_cons {P : Ins → Prop} {i : Ins} {is : List Ins} (h : P i) (t : ∀ j ∈ is, P j) : ∀ j ∈ i :: is, P j := fun j hj => by
  rcases List.mem_cons.mp hj with rfl | hj
  · exact h
  · exact t j hj
def pieces (x : Int) (y q g : Nat) (z : Str) : List (List Ins) := [
  [("push", some x), ("push", some (y : Int)), ("write", none)],
  [("push", some (y : Int)), ("read", none), ("store", some (y : Int))],
  [("barrier", none)],
  [("take", some (q : Int)), ("unless", some (g : Int)), ("store", some 3), ("store", some 4), ("store", some 5)],
  [("load", some 3), ("load", some 4), ("load", some 5), ("send", some (q : Int))],
  [("input", none), ("store", some 6), ("load", some 6), ("push", some (y : Int)), ("show", none)],
  [("load", some (y : Int)), ("push", some 1), ("+", none), ("store", some (y : Int))],
  [("push", some x), ("push", some (y : Int)), ("put", none), ("push", some (y : Int)), ("fetch", none)],
  [("load", some 6), ("not", none), ("unless", some (g : Int))],
  [("push", some x), ("copy", none), (z, none), ("load", some 5), (z, none)]]
def alone (q g : Nat) : List Ins := [("jump", some (g : Int)), ("wait", none), ("drop", none), ("copy", none), ("write", none), ("read", none), ("show", none), ("put", none), ("fetch", none), ("send", some (q : Int)), ("take", some (q : Int)), ("unless", some (g : Int))]
theorem alone_ok {m q g : Nat} (hq : q < 5) (hg : g ≤ m) (hm : m ≤ 100) : ∀ i ∈ alone q g, Okp m i := fun i hi => by
  simp only [alone, List.mem_cons, List.not_mem_nil, or_false] at hi
  rcases hi with rfl | rfl | rfl | rfl | rfl | rfl | rfl | rfl | rfl | rfl | rfl | rfl
  all_goals first
    | exact okp_jump ⟨by omega, by omega⟩ (by omega)
    | exact okp_unl ⟨by omega, by omega⟩ (by omega)
    | exact okp_send ⟨by omega, by omega⟩
    | exact okp_take ⟨by omega, by omega⟩
    | exact okp_plain (by decide +kernel)
theorem pieces_ok {m : Nat} {x : Int} {y q g : Nat} {z : Str} (hx : Sh x) (hy : y < 200) (hq : q < 5) (hg : g ≤ m) (hm : m ≤ 100) (hz : z ∈ SIGNW) : ∀ is ∈ pieces x y q g z, 1 ≤ is.length ∧ is.length ≤ 5 ∧ ∀ i ∈ is, Okp m i := fun is his => by
  simp only [pieces, List.mem_cons, List.not_mem_nil, or_false] at his
  rcases his with rfl | rfl | rfl | rfl | rfl | rfl | rfl | rfl | rfl | rfl
  all_goals
    refine ⟨by simp, by simp, ?_⟩
    repeat' (first
      | exact all_nil
      | refine all_cons ?_ ?_
      | exact okp_push hx
      | exact okp_push ⟨by omega, by omega⟩
      | exact okp_load ⟨by omega, by omega⟩
      | exact okp_store ⟨by omega, by omega⟩
      | exact okp_unl ⟨by omega, by omega⟩ (by omega)
      | exact okp_send ⟨by omega, by omega⟩
      | exact okp_take ⟨by omega, by omega⟩
      | exact okp_sign hz
      | exact okp_plain (by decide +kernel)
      | exact okp_sign (by decide +kernel))
def sp__law_piece : VSp := fun ds μ ev Φ => ∃ (a : Addr) (m b : Nat), ds = [.ref a, .int (m : Int)] ∧ m ≤ 100 ∧ Mist μ a (b + 20) ∧ ∀ (is : List Ins) μ', 1 ≤ is.length → is.length ≤ 5 → (∀ i ∈ is, Okp m i) → Kp [a] μ μ' → Mist μ' a b → Φ (.lst (is.map insD)) μ'
theorem b__law_piece {P : Program} {w : World} {K : PySem.W.Frag} {mg : Str → Option Value} {base : Heap} (T : Txt w K mg) : ∀ fd, FunD K "_law_piece" "_law_piece" (defArgs s__law_piece) (defBody s__law_piece) (defScope s__law_piece) [] [] (He.ga K "_law_piece") fd → FnG P w K mg base CX0 3 (He.ga K "_law_piece") fd ["_law_bench_here", "_law_many"] (lift K [] (sp__law_piece)) := by
  intro fd F
  refine fun_okD (N := N__law_piece) F sc__law_piece (fun ds μ ev Φ h => ?size) (fun cdv A outer s H E hG hr => ⟨_, (vss_cons (vs_par3 (ps_par3 (i := 2) (j := 3) (l := 4) rfl sc__law_piece.nd rfl rfl rfl (by decide) (by decide) (by decide) rfl rfl rfl (va_cons (ve_call T.g__law_tool (c__law_tool_2 T) hG hr (by decide) pass0 sel_0 rfl (va_cons (vv 0) (va_cons (ve_lst (va_cons ve_int (va_cons ve_int (va_cons (ve_un un_neg s_neg ve_int) (va_cons ve_int (va_cons ve_int (va_cons (ve_call T.g__law_turn (c__law_turn_2 T) hG hr (by decide) pass0 sel_0 rfl (va_cons (vv 0) (va_cons ve_int va_nil)) vk_nil) va_nil))))))) va_nil)) vk_nil) (va_cons (ve_call T.g__law_tool (c__law_tool_2 T) hG hr (by decide) pass0 sel_0 rfl (va_cons (vv 0) (va_cons (ve_lst (va_cons ve_int (va_cons ve_int (va_cons ve_int (va_cons ve_int va_nil))))) va_nil)) vk_nil) (va_cons (ve_call T.g__law_turn (c__law_turn_2 T) hG hr (by decide) pass0 sel_0 rfl (va_cons (vv 0) (va_cons ve_int va_nil)) vk_nil) va_nil))) (by rfl)))
 (vss_cons (vs_par (ps_par (i := 5) (j := 6) rfl sc__law_piece.nd rfl rfl (by decide) rfl rfl (va_cons (ve_call T.g__law_turn (c__law_turn_2 T) hG hr (by decide) pass0 sel_0 rfl (va_cons (vv 0) (va_cons ve_int va_nil)) vk_nil) (va_cons (ve_call T.g__law_turn (c__law_turn_2 T) hG hr (by decide) pass0 sel_0 rfl (va_cons (vv 0) (va_cons (ve_op op_addA s_addA (vv 1) ve_int) va_nil)) vk_nil) va_nil)) (by rfl)))
 (vss_cons (vs_set (i := 7) sc__law_piece.nd rfl (Or.inl rfl) (ve_lst (va_cons (ve_lst (va_cons (ve_tup (va_cons ve_str (va_cons (vv 2) va_nil))) (va_cons (ve_tup (va_cons ve_str (va_cons (vv 3) va_nil))) (va_cons (ve_tup (va_cons ve_str va_nil)) va_nil)))) (va_cons (ve_lst (va_cons (ve_tup (va_cons ve_str (va_cons (vv 3) va_nil))) (va_cons (ve_tup (va_cons ve_str va_nil)) (va_cons (ve_tup (va_cons ve_str (va_cons (vv 3) va_nil))) va_nil)))) (va_cons (ve_lst (va_cons (ve_tup (va_cons ve_str va_nil)) va_nil)) va_nil)))))
 (vss_cons (vs_set (i := 7) sc__law_piece.nd rfl (Or.inl rfl) (ve_op op_addA s_addA (vv 7) (ve_lst (va_cons (ve_lst (va_cons (ve_tup (va_cons ve_str (va_cons (vv 4) va_nil))) (va_cons (ve_tup (va_cons ve_str (va_cons (vv 6) va_nil))) (va_cons (ve_tup (va_cons ve_str (va_cons ve_int va_nil))) (va_cons (ve_tup (va_cons ve_str (va_cons ve_int va_nil))) (va_cons (ve_tup (va_cons ve_str (va_cons ve_int va_nil))) va_nil)))))) (va_cons (ve_lst (va_cons (ve_tup (va_cons ve_str (va_cons ve_int va_nil))) (va_cons (ve_tup (va_cons ve_str (va_cons ve_int va_nil))) (va_cons (ve_tup (va_cons ve_str (va_cons ve_int va_nil))) (va_cons (ve_tup (va_cons ve_str (va_cons (vv 4) va_nil))) va_nil))))) va_nil)))))
 (vss_cons (vs_set (i := 7) sc__law_piece.nd rfl (Or.inl rfl) (ve_op op_addA s_addA (vv 7) (ve_lst (va_cons (ve_lst (va_cons (ve_tup (va_cons ve_str va_nil)) (va_cons (ve_tup (va_cons ve_str (va_cons ve_int va_nil))) (va_cons (ve_tup (va_cons ve_str (va_cons ve_int va_nil))) (va_cons (ve_tup (va_cons ve_str (va_cons (vv 3) va_nil))) (va_cons (ve_tup (va_cons ve_str va_nil)) va_nil)))))) (va_cons (ve_lst (va_cons (ve_tup (va_cons ve_str (va_cons (vv 3) va_nil))) (va_cons (ve_tup (va_cons ve_str (va_cons ve_int va_nil))) (va_cons (ve_tup (va_cons ve_str va_nil)) (va_cons (ve_tup (va_cons ve_str (va_cons (vv 3) va_nil))) va_nil))))) va_nil)))))
 (vss_cons (vs_set (i := 7) sc__law_piece.nd rfl (Or.inl rfl) (ve_op op_addA s_addA (vv 7) (ve_lst (va_cons (ve_lst (va_cons (ve_tup (va_cons ve_str (va_cons (vv 2) va_nil))) (va_cons (ve_tup (va_cons ve_str (va_cons (vv 3) va_nil))) (va_cons (ve_tup (va_cons ve_str va_nil)) (va_cons (ve_tup (va_cons ve_str (va_cons (vv 3) va_nil))) (va_cons (ve_tup (va_cons ve_str va_nil)) va_nil)))))) (va_cons (ve_lst (va_cons (ve_tup (va_cons ve_str (va_cons ve_int va_nil))) (va_cons (ve_tup (va_cons ve_str va_nil)) (va_cons (ve_tup (va_cons ve_str (va_cons (vv 6) va_nil))) va_nil)))) va_nil)))))
 (vss_cons (vs_set (i := 8) sc__law_piece.nd rfl (Or.inl rfl) (ve_call T.g__law_tool (c__law_tool_2 T) hG hr (by decide) pass0 sel_0 rfl (va_cons (vv 0) (va_cons (ve_lst (va_cons ve_str (va_cons ve_str (va_cons ve_str (va_cons ve_str (va_cons ve_str (va_cons ve_str (va_cons ve_str (va_cons ve_str (va_cons ve_str va_nil)))))))))) va_nil)) vk_nil))
 (vss_cons (vs_set (i := 7) sc__law_piece.nd rfl (Or.inl rfl) (ve_op op_addA s_addA (vv 7) (ve_lst (va_cons (ve_lst (va_cons (ve_tup (va_cons ve_str (va_cons (vv 2) va_nil))) (va_cons (ve_tup (va_cons ve_str va_nil)) (va_cons (ve_tup (va_cons (vv 8) va_nil)) (va_cons (ve_tup (va_cons ve_str (va_cons ve_int va_nil))) (va_cons (ve_tup (va_cons (vv 8) va_nil)) va_nil)))))) va_nil))))
 (vss_cons (vs_set (i := 9) sc__law_piece.nd rfl (Or.inl rfl) (ve_lst (va_cons (ve_tup (va_cons ve_str (va_cons (vv 6) va_nil))) (va_cons (ve_tup (va_cons ve_str va_nil)) (va_cons (ve_tup (va_cons ve_str va_nil)) (va_cons (ve_tup (va_cons ve_str va_nil)) (va_cons (ve_tup (va_cons ve_str va_nil)) (va_cons (ve_tup (va_cons ve_str va_nil)) (va_cons (ve_tup (va_cons ve_str va_nil)) (va_cons (ve_tup (va_cons ve_str va_nil)) (va_cons (ve_tup (va_cons ve_str va_nil)) (va_cons (ve_tup (va_cons ve_str (va_cons (vv 4) va_nil))) (va_cons (ve_tup (va_cons ve_str (va_cons (vv 4) va_nil))) (va_cons (ve_tup (va_cons ve_str (va_cons (vv 6) va_nil))) va_nil))))))))))))))
 (vss_one (vs_ret (ve_if (vt_cmp op_lt s_lt (vv 5) ve_int (nomark _)) (ve_ix ix_seq s_ix (vv 7) (vv 5)) (ve_lst (va_cons (ve_call T.g__law_tool (c__law_tool_2 T) hG hr (by decide) pass0 sel_0 rfl (va_cons (vv 0) (va_cons (vv 9) va_nil)) vk_nil) va_nil)))))))))))))), fun ds μ ev Φ h => ?_⟩)
  · obtain ⟨a, m, b, rfl, _⟩ := h; rfl
  · obtain ⟨a, m, b, rfl, hm, mi, k⟩ := h
    walk_at "wr"
    simp only [wPar3]
    walk_at "wr"
    refine ⟨a, 500, b + 19, rfl, by decide, by decide, mi, fun v5 μ1 v50 v51 k1 m1 => ?_⟩
    refine ⟨sizeOk (by simp), a, _, b + 18, rfl, by simp, by simp, m1, fun sh μ2 hsh k2 m2 => ?_⟩
    refine ⟨sizeOk (by simp), a, _, b + 17, rfl, by simp, by simp, m2, fun sp μ3 hsp k3 m3 => ?_⟩
    refine ⟨a, 5, b + 16, rfl, by decide, by decide, m3, fun pl μ4 pl0 pl1 k4 m4 => ?_⟩
    try walk_at "wr"
    refine ⟨_, _, _, ⟨rfl, rfl, rfl⟩, ?_⟩
    try walk_at "wr"
    refine ⟨a, 11, b + 15, rfl, by decide, by decide, m4, fun way μ5 w0 w1 k5 m5 => ?_⟩
    try walk_at "wr"
    refine ⟨a, (m : Int) + 1, b + 14, rfl, by omega, by omega, m5, fun goal μ6 g0 g1 k6 m6 => ?_⟩
    have k06 := ((((k1.trans Nw.refl k2).trans Nw.refl k3).trans Nw.refl k4).trans Nw.refl k5).trans Nw.refl k6
    clear k1 k2 k3 k4 k5 k6 m1 m2 m3 m4 m5
    refine ⟨_, _, ⟨rfl, rfl⟩, ?_⟩
    repeat (refine ⟨sizeOk (by simp), ?_⟩)
    refine vAddA_ll.mpr ⟨sizeOk (by simp), ?_⟩
    try walk_at "wr"
    obtain ⟨x, rfl, hx⟩ : ∃ x, sh = .int x ∧ Sh x := by
      simp only [List.mem_cons, List.not_mem_nil, or_false] at hsh
      rcases hsh with rfl | rfl | rfl | rfl | rfl | rfl
      all_goals exact ⟨_, rfl, by constructor <;> omega⟩
    obtain ⟨y, rfl, hy⟩ : ∃ y : Nat, sp = .int (y : Int) ∧ y < 200 := by
      simp only [List.mem_cons, List.not_mem_nil, or_false] at hsp
      rcases hsp with rfl | rfl | rfl | rfl
      · exact ⟨0, rfl, by decide⟩
      · exact ⟨5, rfl, by decide⟩
      · exact ⟨100, rfl, by decide⟩
      · exact ⟨199, rfl, by decide⟩
    obtain ⟨q, rfl⟩ : ∃ q : Nat, pl = (q : Int) := ⟨pl.toNat, by omega⟩
    obtain ⟨g, rfl⟩ : ∃ g : Nat, goal = (g : Int) := ⟨goal.toNat, by omega⟩
    have hq : q < 5 := by omega
    have hg : g ≤ m := by omega
    repeat (refine ⟨sizeOk (by simp), ?_⟩)
    refine vAddA_ll.mpr ⟨sizeOk (by simp), ?_⟩
    try walk_at "wr"
    repeat (refine ⟨sizeOk (by simp), ?_⟩)
    refine vAddA_ll.mpr ⟨sizeOk (by simp), ?_⟩
    try walk_at "wr"
    refine ⟨sizeOk (by simp), a, _, b + 13, rfl, by simp, by simp, m6, fun sg μ7 hsg k7 m7 => ?_⟩
    obtain ⟨z, rfl, hz⟩ : ∃ z, sg = .str z ∧ z ∈ SIGNW := by
      simp only [List.mem_cons, List.not_mem_nil, or_false] at hsg
      rcases hsg with rfl | rfl | rfl | rfl | rfl | rfl | rfl | rfl | rfl
      all_goals exact ⟨_, rfl, by decide +kernel⟩
    repeat (refine ⟨sizeOk (by simp), ?_⟩)
    refine vAddA_ll.mpr ⟨sizeOk (by simp), ?_⟩
    try walk_at "wr"
    repeat (refine ⟨sizeOk (by simp), ?_⟩)
    have k07 := k06.trans Nw.refl k7
    refine ite_sp (fun c1 => ?_) fun c1 => ?_
    · have c1 : way < 10 := by simpa using c1
      obtain ⟨j, rfl⟩ : ∃ j : Nat, way = (j : Int) := ⟨way.toNat, by omega⟩
      have hj : j < (pieces x y q g z).length := by show j < 10; omega
      have hmem := List.getElem_mem hj
      obtain ⟨l1, l2, l3⟩ := pieces_ok hx hy hq hg hm hz _ hmem
      refine ⟨.lst (((pieces x y q g z)[j]).map insD), ?_, k _ μ7 l1 l2 l3 k07 (m7.mono (by omega))⟩
      refine atI_nat ?_
      show ((pieces x y q g z).map fun is => D.lst (is.map insD))[j]? = _
      rw [List.getElem?_map, List.getElem?_eq_getElem hj]; rfl
    · refine ⟨a, (alone q g).map insD, b + 12, rfl, by simp [alone], by simp [alone], m7, fun e μ8 he k8 m8 => ⟨sizeOk (by simp), ?_⟩⟩
      obtain ⟨i, hi, rfl⟩ := List.mem_map.mp he
      exact k [i] μ8 (by simp) (by simp) (fun j hj => by rw [List.mem_singleton.mp hj]; exact alone_ok hq hg hm i hi) (k07.trans Nw.refl k8) (m8.mono (by omega))
theorem c__law_piece_2 {P : Program} {w : World} {K : PySem.W.Frag} {mg : Str → Option Value} {base : Heap} (T : Txt w K mg) : CanV P w K mg base CX0 [] 3 (He.ga K "_law_piece") 2 [] ([.inl 0, .inl 1].map (toArg [] [])) (sp__law_piece) :=
  canV_of (ps := ["_law_bench_here", "_law_many"]) [.inl 0, .inl 1] T.f__law_piece (b__law_piece T) (fun _ _ _ _ _ _ us ws h1 h2 => match us, ws, h1, h2 with | [_, _], [], _, _ => rfl) (by decide)
end K25

set_option maxRecDepth 100000
set_option maxHeartbeats 4000000
namespace K25
open PySem L2 FW VL
local macro_rules | `(tactic| walk_at "wr") => `(tactic| simp only [vInt_bl, iwR1, iwR2, iwM, List.set_cons_succ, wLenSet, wFor, wSetF, wAugF, wAug, wBM, wProp, wHeld, wVar, wC, wZ, wOp, wUn, wNil, wCons, wStar, wCB, wTup, wLst, wLstM, wTest, wAnd, wOr, VL.wNot, wAndV, wOrV, wNotV, wIf, wChain, wNoPart, wPart, wSl, wName, wGNil, wGCons, wGTup, wSub, wNext, VL.wSeq, wAsg, wDrop, wRet, wRetN, wIfS, wBreak, wCont, wPar, vI0, vI, vU, vAdd, vSub, vMul, vMod, vFdiv, vPow, vLt, vLe, vGt, vGe, vNeg, vIsN, vNotN, vAddA_ii, vMulA_ii, VL.wTru, iwL, iwT, wLc, vstart, List.map_cons, List.map_nil, List.cons_append, List.nil_append, List.set_cons_zero, List.set_cons_succ, List.getElem?_cons_zero, List.getElem?_cons_succ, Option.some.injEq, exists_eq_left, exists_eq_left', exists_eq', D.bl.injEq, D.int.injEq, D.str.injEq, D.tup.injEq, D.ref.injEq, List.cons.injEq, and_true, true_and, List.length_cons, List.length_nil, List.replicate, D.ty.injEq, exists_and_left, List.length, Nat.reduceAdd, wCall, wMake, wMeth, wFld, argsD, argD, toArg, List.getD_cons_zero, List.getD_cons_succ, List.map, iwS, vTupOf, Bool.false_eq_true, if_false, if_true, reduceIte, List.getElem?_nil, Nat.reduceSub, wipeR, vLen_lst, vLen_tup, vEq_ii, vEq_ss, vEq_bb, vIx_lst, vIx_tup, vIn_strs, vIn_s2, vIn_s3, vAll_map, vInK_s, vIxK_s, vInt_i, vAbs_i, atI_0, atI_1, atI_2, Bool.not_true, Bool.not_false, seqOf_lst, seqOf_tup, lstOf_lst, tupOf_tup, fzL_lst, N_is_list, N_is_integer, N_is_within, N_is_short, N_are_shorts, N_are_integers, N_is_lot, N_fixed, N_short_of, N_added, N_taken_from, N_multiplied, N_divided, N_left_over, N_is_less, N_is_equal, N_are_both, N_is_any, N_is_instruction, N_is_target_beyond, N_are_rows, N_Code___init__, N_Code___eq__, N_Code___iter__, N_push_short, N_popped, N_do_push, N_do_load, N_do_store, N_do_fetch, N_do_put, N_do_not, N_do_drop, N_do_copy, N_do_jump, N_do_unless, N_do_wait, N_do_sign, N_do_read, N_do_write, N_do_barrier, N_do_send, N_do_take, N_do_input, N_do_show, N_deed_of_row, N_is_disk_pair, N_are_disk_pairs, N_is_disk, N_Computer_power_on, N_Computer___init__, N_Computer_stack, N_Computer_disk, N_Computer_waiting, N_Computer_cards, N_Computer_memory, N_Computer_hand, N_Computer_cut, N_Computer_go, N_Computer_step, N__law_bench, N__law_turn, N__law_tool, N__law_wrap, N__law_signed, N__law_popped, N__law_written, N__law_settled, N__law_awake, N__law_outside, N__law_step, N__law_piece, N__law_is_so, N__law_moment_right, N_law, ofStr_inj, ofStr_beq, String.reduceEq, decide_true, decide_false, Bool.or_false, Bool.or_true, Bool.false_or, Bool.true_or, Bool.and_true, Bool.and_false, Bool.true_and, Bool.false_and, vModN, iwE, iwEM])

section
variable {CX : CXT} {P : Program} {w : World} {K : PySem.W.Frag} {mg : Str → Option Value} {base : Heap} {N : List Str} {x : Str} {sc : Scope} {f : Addr} {cdv : Value} {A : Around} {outer : List Env} {s : Shared} {H : Hp} {E : XK}
theorem cx_K : (cxOf CX P w K mg base N x sc f cdv A outer s H E).K = K := rfl
theorem cx_P : (cxOf CX P w K mg base N x sc f cdv A outer s H E).prog = P := rfl
theorem cx_w : (cxOf CX P w K mg base N x sc f cdv A outer s H E).w = w := rfl
theorem cx_m : (cxOf CX P w K mg base N x sc f cdv A outer s H E).mg = mg := rfl
theorem cx_b : (cxOf CX P w K mg base N x sc f cdv A outer s H E).base = base := rfl
end
theorem sh_log {v : Int} (h : Sh v) : v.natAbs.log2 < 1920 := log_small (by unfold Sh at h; omega)
/-! what is shown of pairs -/
def pairP (p : Int × Int) : PyData := .tuple [.int p.1, .int p.2]
theorem toPys_pairs (μ : Mu) : ∀ cs : List (Int × Int), toPys μ (cs.map pairD) = some (cs.map pairP)
  | [] => rfl
  | c :: cs => by
    rw [List.map_cons, List.map_cons]
    have h : toPy μ (pairD c) = some (pairP c) := by simp only [pairD, pairP, toPy, toPys, Option.map_some]
    unfold toPys
    rw [h, toPys_pairs μ cs]
theorem pairs_ok : ∀ cs : List (Int × Int), (∀ p ∈ cs, Sh p.1 ∧ Sh p.2) → PyData.showable (.tuple (cs.map pairP)) = true ∧ PyData.depthAll (cs.map pairP) ≤ 1 ∧ wts (cs.map pairP) ≤ 4000 * cs.length
  | [], _ => ⟨rfl, by decide, by decide⟩
  | c :: cs, h => by
    obtain ⟨h1, h2, h3⟩ := pairs_ok cs fun p hp => h p (List.mem_cons_of_mem _ hp)
    obtain ⟨a1, a2⟩ := h c (List.mem_cons_self ..)
    refine ⟨?_, ?_, ?_⟩
    · show (PyData.showable (pairP c) && PyData.showable (.tuple (cs.map pairP))) = true
      rw [h1, Bool.and_true]
      show (PyData.showable (.int c.1) && (PyData.showable (.int c.2) && true)) = true
      simp only [PyData.showable, sh_log a1, sh_log a2, decide_true, Bool.and_self]
    · rw [List.map_cons]
      simp only [PyData.depthAll, pairP, PyData.depth]
      omega
    · rw [List.map_cons, List.length_cons]
      show (1921 + 2 + (1921 + 2 + 0)) + 4 + 2 + wts (cs.map pairP) ≤ _
      omega
theorem pairs_py {μ : Mu} {cs : List (Int × Int)} : toPyT μ (.tup (cs.map pairD)) = some (.tuple (cs.map pairP)) := by
  show toPy μ (.tup (cs.map pairD)) = _
  simp only [toPy, toPys_pairs, Option.map_some]

theorem disk_mem {xs : List Int} (hl : xs.length = 200) (hs : ∀ v ∈ xs, Sh v) : (∀ p ∈ diskOf xs, Sh p.1 ∧ Sh p.2) ∧ (diskOf xs).length ≤ 200 := by
  unfold diskOf
  refine ⟨fun p hp => ?_, Nat.le_trans (List.length_filter_le _ _) (by rw [List.length_map, List.length_zipIdx, hl]; exact Nat.le_refl _)⟩
  obtain ⟨q, hq, rfl⟩ := List.mem_map.mp (List.mem_filter.mp hp).1
  have h := List.mem_zipIdx hq
  refine ⟨by constructor <;> (show _ ≤ _) <;> omega, hs _ ?_⟩
  rw [h.2.2]
  exact List.getElem_mem _
def letP : Option (Int × Int × Int) → PyData
  | none => .none
  | some p => .tuple [.int p.1, .int p.2.1, .int p.2.2]
theorem toPys_lets (μ : Mu) : ∀ cs : List (Option (Int × Int × Int)), toPys μ (cs.map letD) = some (cs.map letP)
  | [] => rfl
  | c :: cs => by
    rw [List.map_cons, List.map_cons]
    have h : toPy μ (letD c) = some (letP c) := by
      cases c with
      | none => rfl
      | some p => simp only [letD, letP, toPy, toPys, Option.map_some]
    unfold toPys
    rw [h, toPys_lets μ cs]
def LetsOk (cs : List (Option (Int × Int × Int))) : Prop := ∀ p, some p ∈ cs → Sh p.1 ∧ Sh p.2.1 ∧ Sh p.2.2
theorem lets_ok : ∀ cs : List (Option (Int × Int × Int)), LetsOk cs → PyData.showable (.tuple (cs.map letP)) = true ∧ PyData.depthAll (cs.map letP) ≤ 1 ∧ wts (cs.map letP) ≤ 6000 * cs.length
  | [], _ => ⟨rfl, by decide, by decide⟩
  | c :: cs, h => by
    obtain ⟨h1, h2, h3⟩ := lets_ok cs fun p hp => h p (List.mem_cons_of_mem _ hp)
    have hc : PyData.showable (letP c) = true ∧ PyData.depth (letP c) ≤ 1 ∧ wt (letP c) ≤ 5900 := by
      cases c with
      | none => exact ⟨rfl, by decide, by decide⟩
      | some p =>
        obtain ⟨a1, a2, a3⟩ := h p (List.mem_cons_self ..)
        refine ⟨?_, by simp only [letP, PyData.depth, PyData.depthAll]; decide, ?_⟩
        · show (PyData.showable (.int p.1) && (PyData.showable (.int p.2.1) && (PyData.showable (.int p.2.2) && true))) = true
          simp only [PyData.showable, sh_log a1, sh_log a2, sh_log a3, decide_true, Bool.and_self]
        · show (1921 + 2 + (1921 + 2 + (1921 + 2 + 0))) + 4 ≤ 5900
          decide
    refine ⟨?_, ?_, ?_⟩
    · show (PyData.showable (letP c) && PyData.showable (.tuple (cs.map letP))) = true
      rw [hc.1, h1]; rfl
    · rw [List.map_cons]
      simp only [PyData.depthAll]
      omega
    · rw [List.map_cons, List.length_cons]
      show wt (letP c) + 2 + wts (cs.map letP) ≤ _
      omega
def isoP (st : CS) : PyData := .list [.int st.at_, .tuple (st.pile.map .int), .tuple (st.laid.map letP), .tuple (st.queue.map pairP), .tuple ((diskOf st.settled).map pairP)]
def isoD (st : CS) : D := .lst [.int st.at_, .tup (st.pile.map .int), .tup (st.laid.map letD), .tup (st.queue.map pairD), .tup ((diskOf st.settled).map pairD)]
theorem iso_py {μ : Mu} {st : CS} : toPyT μ (isoD st) = some (isoP st) := by
  show toPy μ (isoD st) = _
  unfold isoD isoP
  simp only [toPy, toPys, toPys_pairs, toPys_ints, toPys_lets, Option.map_some]
theorem iso_ok {st : CS} (hj : 0 ≤ st.at_ ∧ st.at_ ≤ 20000) (ok : st.Ok) : ShowOk (isoP st) := by
  obtain ⟨d1, d2⟩ := disk_mem ok.s ok.ss
  obtain ⟨p1, p2, p3⟩ := pairs_ok st.queue fun p hp => ⟨⟨by have := ok.qs p hp; omega, by have := ok.qs p hp; omega⟩, (ok.qs p hp).2.2⟩
  obtain ⟨q1, q2, q3⟩ := pairs_ok (diskOf st.settled) d1
  obtain ⟨l1, l2, l3⟩ := lets_ok st.laid ok.ls
  have wl := ok.q
  have pl := ok.p
  have ll := ok.l
  refine showOk_of ?_ ?_ ?_
  · show (PyData.showable (.int st.at_) && (PyData.showable (.tuple (st.pile.map .int)) && (PyData.showable (.tuple (st.laid.map letP)) && (PyData.showable (.tuple (st.queue.map pairP)) && (PyData.showable (.tuple ((diskOf st.settled).map pairP)) && true))))) = true
    rw [p1, q1, l1, show PyData.showable (.tuple (st.pile.map .int)) = true from showable_ints st.pile fun v hv => sh_log (ok.ps v hv)]
    simp only [PyData.showable, log_small (show st.at_.natAbs < 2 ^ 64 by omega), decide_true, Bool.and_self]
  · have := depth_ints st.pile
    unfold isoP
    simp only [PyData.depth, PyData.depthAll, this]
    omega
  · show (1921 + 2 + ((wts (st.pile.map PyData.int) + 4) + 2 + ((wts (st.laid.map letP) + 4) + 2 + ((wts (st.queue.map pairP) + 4) + 2 + ((wts ((diskOf st.settled).map pairP) + 4) + 2 + 0))))) + 4 ≤ 16777216
    rw [wts_ints]; omega
def sp__law_is_so (K : PySem.W.Frag) : VSp := fun ds μ ev Φ => ∃ (c s : Addr) (F G : List Addr) (st : CS), ds = [.ref c, .ref s] ∧ CompAt K μ c F st ∧ StAt μ s G st ∧ st.Ok ∧ 0 ≤ st.at_ ∧ st.at_ ≤ 20000 ∧ Φ (.bl true) μ
theorem b__law_is_so {P : Program} {w : World} {K : PySem.W.Frag} {mg : Str → Option Value} {base : Heap} (T : Txt w K mg) : ∀ fd, FunD K "_law_is_so" "_law_is_so" (defArgs s__law_is_so) (defBody s__law_is_so) (defScope s__law_is_so) [] [] (He.ga K "_law_is_so") fd → FnG P w K mg base CX0 3 (He.ga K "_law_is_so") fd ["_law_computer", "_law_state"] (lift K [] (sp__law_is_so K)) := by
  intro fd F
  refine fun_okD (N := N__law_is_so) F sc__law_is_so (fun ds μ ev Φ h => ?size) (fun cdv A outer s H E hG hr => ⟨_, (vss_cons (vs_set (i := 2) sc__law_is_so.nd rfl (Or.inl rfl) (ve_lst (va_cons (ve_fld T.cl_Computer T.n_Computer_at (vv 0)) (va_cons (ve_prop T.cl_Computer T.p_Computer_stack (get_Computer_stack T) hG hr (by decide) pass0 sel_0 (vv 0)) (va_cons (ve_prop T.cl_Computer T.p_Computer_cards (get_Computer_cards T) hG hr (by decide) pass0 sel_0 (vv 0)) (va_cons (ve_prop T.cl_Computer T.p_Computer_waiting (get_Computer_waiting T) hG hr (by decide) pass0 sel_0 (vv 0)) (va_cons (ve_prop T.cl_Computer T.p_Computer_disk (get_Computer_disk T) hG hr (by decide) pass0 sel_0 (vv 0)) va_nil)))))))
 (vss_cons (vs_set (i := 3) sc__law_is_so.nd rfl (Or.inl rfl) (ve_callTy call_tuple_of s_tuple (by rfl) T.b_tuple (by decide +kernel) (va_cons (ve_z (ve_lc (own := [("_law_address", 4), ("_law_short", 5)]) (p := (.tup [(.name 4), (.name 5)])) rfl sc__law_is_so.nd (vi_enumM (by rfl) T.b_enumerate (va_cons (ve_dget (units1 hr) (vv 1) ve_str) va_nil)) (blkOk_by (N := N__law_is_so) (sc := defScope s__law_is_so) (by decide +kernel)) (fun _ _ _ _ _ => pg_tup (n := 2) rfl (pgs_cons (pg_name (i := 4) sc__law_is_so.nd rfl (Or.inl rfl)) (pgs_cons (pg_name (i := 5) sc__law_is_so.nd rfl (Or.inl rfl)) pgs_nil))) (fun _ _ _ _ _ => (vts_one (vt_cmp (op_neA hr.units) s_ne (vv 5) ve_int (nomark _)))) (fun _ _ _ _ _ => (ve_tup (va_cons (vv 4) (va_cons (vv 5) va_nil)))) (by decide))) va_nil)))
 (vss_one (vs_ret (ve_cmp (op_eqA hr.units) s_eq (ve_callB (call_showA hG hr.units) s_repr (by rfl) T.b_repr (by decide +kernel) (va_cons (vv 2) va_nil)) (ve_callB (call_showA hG hr.units) s_repr (by rfl) T.b_repr (by decide +kernel) (va_cons (ve_lst (va_cons (ve_dget (units1 hr) (vv 1) ve_str) (va_cons (ve_callTy call_tuple_of s_tuple (by rfl) T.b_tuple (by decide +kernel) (va_cons (ve_dget (units1 hr) (vv 1) ve_str) va_nil)) (va_cons (ve_callTy call_tuple_of s_tuple (by rfl) T.b_tuple (by decide +kernel) (va_cons (ve_dget (units1 hr) (vv 1) ve_str) va_nil)) (va_cons (ve_callTy call_tuple_of s_tuple (by rfl) T.b_tuple (by decide +kernel) (va_cons (ve_dget (units1 hr) (vv 1) ve_str) va_nil)) (va_cons (vv 3) va_nil)))))) va_nil)) (nomark _)))))), fun ds μ ev Φ h => ?_⟩)
  · obtain ⟨c, s, F, G, st, rfl, _⟩ := h; rfl
  · obtain ⟨c, s, F, G, st, rfl, hC, ⟨p, m, kk, w, cc, rfl, b⟩, ok, h0, h1, q⟩ := h
    have hC' := hC
    obtain ⟨cs, ch, cp, cw, cq, cl, rfl, cb⟩ := hC'
    have sh := iso_ok ⟨h0, h1⟩ ok
    simp only [cx_K]
    walk_at "wr"
    refine ⟨_, _, cb.ins, _, rfl, _, _, cb.ins, c, _, _, rfl, hC, _, _, cb.ins, c, _, _, rfl, hC, _, _, cb.ins, c, _, _, rfl, hC, _, _, cb.ins, c, _, _, rfl, hC, ok, sizeOk (by simp), ?_⟩
    refine (d_disk b.hd).mpr ⟨kk, rfl, _, b.hk, ?_⟩
    refine lcf diskOk id (by unfold enumD; rw [List.length_map, List.length_zipIdx, List.length_map, ok.s]; exact sizeOk (by decide)) (fun Ds l nD => ?_) (fun d hd => ?_) fun Ds nD => ?_
    · rw [Mu.ne (Mu.new_ne nD b.hk)]; exact b.hk
    · obtain ⟨i, hi⟩ := List.mem_iff_getElem?.mp hd
      obtain ⟨x, hx, rfl⟩ := enumD_get hi
      rw [List.getElem?_map] at hx
      obtain ⟨v, hv, rfl⟩ := Option.map_eq_some_iff.mp hx
      refine ⟨_, rfl, fun Ds l nD => ⟨fun Ψ q => ?_, fun _ Ψ q => ?_⟩⟩
      · walk_at "wr"
        have e : diskOk (.tup [.int (i : Nat), .int v]) = !decide (v = 0) := by simp [diskOk]
        rw [e] at q
        exact q
      · walk_at "wr"
        exact ⟨sizeOk (by simp), q⟩
    · refine ⟨Ds, rfl, _, frzOf_lst Mu.same, _, rfl, ?_⟩
      rw [Mu.del_set nD, List.map_id, disk_filt]
      refine ⟨isoD st, isoP st, rfl, nofun, iso_py, sh, ?_⟩
      try walk_at "wr"
      simp only [d_at b.hd, d_stack b.hd, d_cards b.hd, d_waits b.hd]
      try walk_at "wr"
      refine ⟨_, seqOf_of b.hp, _, seqOf_of b.hc, _, seqOf_of b.hw, sizeOk (by simp), isoD st, isoP st, rfl, nofun, iso_py, sh, ?_⟩
      refine vEq_ss.mpr ?_
      simp only [decide_true, Bool.false_eq_true, if_false]
      exact q
theorem c__law_is_so_2 {P : Program} {w : World} {K : PySem.W.Frag} {mg : Str → Option Value} {base : Heap} (T : Txt w K mg) : CanV P w K mg base CX0 [] 3 (He.ga K "_law_is_so") 2 [] ([.inl 0, .inl 1].map (toArg [] [])) (sp__law_is_so K) :=
  canV_of (ps := ["_law_computer", "_law_state"]) [.inl 0, .inl 1] T.f__law_is_so (b__law_is_so T) (fun _ _ _ _ _ _ us ws h1 h2 => match us, ws, h1, h2 with | [_, _], [], _, _ => rfl) (by decide)
end K25

set_option maxRecDepth 100000
set_option maxHeartbeats 4000000
namespace K25
open PySem L2 FW VL

theorem cut2 {s1 s2 : WS} {DD : VEnds} {ρ : Ro} {μ : Mu} {ev : EV} (h : ∀ N : Ro → Mu → Prop, (∀ ρ' μ', s2 DD ρ' μ' ev → N ρ' μ') → s1 { DD with nx := N } ρ μ ev) : VL.wSeq s1 s2 DD ρ μ ev := h _ fun _ _ q => q
/-- k steps from the start at most -/
structure Fits (k : Nat) (is : List Ins) (st : CS) : Prop where
  ok : st.Ok
  wrt : Wr st
  pl : st.pile.length ≤ 4 * k
  ql : st.queue.length ≤ k
  code : st.code = is
  at_ : ∃ n : Nat, st.at_ = (n : Int) ∧ n ≤ is.length
/-- what an instruction leaves as it was, how far it goes -/
structure Near (len : Nat) (st st' : CS) : Prop where
  code : st'.code = st.code
  wrt : Wr st'
  pl : st'.pile.length ≤ st.pile.length + 4
  ql : st'.queue.length ≤ st.queue.length + 1
  at_ : st'.at_ = st.at_ ∨ ∃ n : Nat, st'.at_ = (n : Int) ∧ n ≤ len
theorem push_near {len : Nat} {st st' : CS} (h : Near len st st') (v : Int) (hp : st'.pile.length ≤ st.pile.length + 3) : Near len st (push st' v) := by
  unfold push
  split
  · exact ⟨h.code, h.wrt, by simp; omega, h.ql, h.at_⟩
  · exact ⟨h.code, h.wrt, h.pl, h.ql, h.at_⟩
theorem push_len (st : CS) (v : Int) : (push st v).pile.length ≤ st.pile.length + 1 := by
  unfold push
  split
  · simp
  · omega
theorem near_self {len : Nat} {st : CS} (h : Wr st) : Near len st st := ⟨rfl, h, by omega, by omega, .inl rfl⟩
theorem near_pop {len : Nat} {st st' : CS} (h : Near len st st') : Near len st (popS st') := ⟨h.code, h.wrt, by have := h.pl; simp [popS]; omega, h.ql, h.at_⟩
theorem pop_len (st : CS) : (popS st).pile.length ≤ st.pile.length := by simp [popS]
theorem effI_near {len : Nat} {i : Ins} (h : Okp len i) {st : CS} (ok : st.Ok) (hw : Wr st) : Near len st (effI i st).2 := by
  have s0 := near_self (len := len) hw
  have p1 := near_pop s0
  have p2 := near_pop p1
  have l1 := pop_len st
  have l2 := pop_len (popS st)
  obtain ⟨h, tg⟩ := h
  cases h with
  | push v h => simp only [effI, ofStr_inj, String.reduceEq, if_true, if_false, Option.getD_some]; exact push_near s0 _ (by omega)
  | load n h => simp only [effI, ofStr_inj, String.reduceEq, if_true, if_false, Option.getD_some]; exact push_near s0 _ (by omega)
  | store n h => simp only [effI, ofStr_inj, String.reduceEq, if_true, if_false, Option.getD_some]; exact ⟨p1.code, p1.wrt, p1.pl, p1.ql, p1.at_⟩
  | jump n h => simp only [effI, ofStr_inj, String.reduceEq, if_true, if_false, Option.getD_some]; exact ⟨rfl, hw, by simp, by simp, .inr ⟨n, rfl, by have := tg n rfl (.inl rfl); omega⟩⟩
  | unl n h =>
    simp only [effI, ofStr_inj, String.reduceEq, if_true, if_false, Option.getD_some]
    unfold unlessS
    split
    · exact ⟨p1.code, p1.wrt, p1.pl, p1.ql, .inr ⟨n, rfl, by have := tg n rfl (.inr rfl); omega⟩⟩
    · exact p1
  | send n h => simp only [effI, ofStr_inj, String.reduceEq, if_true, if_false, Option.getD_some]; exact near_pop p2
  | take n h =>
    simp only [effI, ofStr_inj, String.reduceEq, if_true, if_false, Option.getD_some]
    unfold takeS
    split
    · exact push_near s0 _ (by omega)
    · rename_i a b c e
      have q0 : Near len st { st with laid := st.laid.set (n : Int).toNat none } := ⟨rfl, hw, by simp, by simp, .inl rfl⟩
      have m0 : ({ st with laid := st.laid.set (n : Int).toNat none } : CS).pile.length = st.pile.length := rfl
      have m1 := push_len { st with laid := st.laid.set (n : Int).toNat none } c
      have m2 := push_len (push { st with laid := st.laid.set (n : Int).toNat none } c) b
      have m3 := push_len (push (push { st with laid := st.laid.set (n : Int).toNat none } c) b) a
      exact push_near (push_near (push_near (push_near q0 _ (by omega)) _ (by omega)) _ (by omega)) _ (by omega)
  | plain w h =>
    simp only [PLAINW, List.mem_cons, List.not_mem_nil, or_false] at h
    rcases h with rfl | rfl | rfl | rfl | rfl | rfl | rfl | rfl | rfl | rfl | rfl
    all_goals simp only [effI, ofStr_inj, String.reduceEq, if_true, if_false]
    · exact push_near p1 _ (by omega)
    · unfold putS
      split
      · exact ⟨p2.code, p2.wrt, p2.pl, p2.ql, p2.at_⟩
      · exact p2
    · exact push_near p1 _ (by omega)
    · exact p1
    · have := push_len (popS st) (popV st)
      exact push_near (push_near p1 _ (by omega)) _ (by omega)
    · exact push_near p1 _ (by omega)
    · unfold writeG
      split
      · refine ⟨rfl, ?_, p2.pl, by simp, .inl rfl⟩
        show st.written.set _ _ = List.foldl setP st.settled (st.queue ++ _)
        rw [List.foldl_append, ← hw]; rfl
      · exact p2
    · exact ⟨rfl, by show st.written = List.foldl setP (List.foldl setP st.settled st.queue) []; exact hw, by show st.pile.length ≤ _; omega, by simp [barG], .inl rfl⟩
    · exact push_near s0 _ (by omega)
    · exact p2
    · exact s0
  | sign w h =>
    have e : effI (w, none) st = (.non, push (popS (popS st)) (actI w (popV (popS st)) (popV st))) := by
      rcases sign_cases h with rfl | rfl | rfl | rfl | rfl | rfl | rfl | rfl | rfl <;> simp only [effI, ofStr_inj, String.reduceEq, if_false]
    rw [e]
    exact push_near p2 _ (by omega)
theorem effI_fits {k : Nat} {is : List Ins} {st : CS} {gv : Int} {n : Nat} {i : Ins} (ft : Fits k is st) (hg : Sh gv) (hi : is[n]? = some i) (ho : Okp is.length i) : Fits (k + 1) is (effI i (fetchS st gv n)).2 := by
  have okf : (fetchS st gv n).Ok := (ft.ok.given_ hg).at_ _
  have nr := effI_near ho okf ft.wrt
  have hn : n < is.length := (List.getElem?_eq_some_iff.mp hi).1
  have h1 : (fetchS st gv n).pile.length = st.pile.length := rfl
  have h2 : (fetchS st gv n).queue.length = st.queue.length := rfl
  have hp := ft.pl
  have hq := ft.ql
  refine ⟨effI_ok ho.1 okf, nr.wrt, by have := nr.pl; omega, by have := nr.ql; omega, by rw [nr.code]; exact ft.code, ?_⟩
  rcases nr.at_ with e | ⟨m, e, hm⟩
  · exact ⟨n + 1, by rw [e]; rfl, hn⟩
  · exact ⟨m, e, hm⟩
theorem effI_out {i : Ins} (h : InsK i) {st : CS} : (effI i st).1 = .non ∨ ∃ es, (effI i st).1 = .tup es := by
  cases h with
  | plain w h =>
    simp only [PLAINW, List.mem_cons, List.not_mem_nil, or_false] at h
    rcases h with rfl | rfl | rfl | rfl | rfl | rfl | rfl | rfl | rfl | rfl | rfl
    all_goals simp only [effI, ofStr_inj, String.reduceEq, if_true, if_false]
    all_goals first
      | exact .inl trivial
      | exact .inl rfl
      | exact .inr ⟨_, rfl⟩
      | (unfold writeG; split; exact .inr ⟨_, rfl⟩; exact .inl rfl)
  | sign w h => rcases sign_cases h with rfl | rfl | rfl | rfl | rfl | rfl | rfl | rfl | rfl <;> simp only [effI, ofStr_inj, String.reduceEq, if_false] <;> exact .inl trivial
  | _ => simp only [effI, ofStr_inj, String.reduceEq, if_true, if_false] <;> first | exact .inl trivial | exact .inl rfl | exact .inr ⟨_, rfl⟩
theorem effI_told {i : Ins} (h : InsK i) {st : CS} (ok : st.Ok) : ∃ p, (∀ μ, toPyT μ (effI i st).1 = some p) ∧ ShowOk p ∧ ∀ s, (effI i st).1 ≠ .str s := by
  have non : ∃ p, (∀ μ : Mu, toPyT μ D.non = some p) ∧ ShowOk p ∧ ∀ s, D.non ≠ .str s := ⟨.none, fun _ => rfl, showOk_of (by decide +kernel) (by decide +kernel) (by decide +kernel), nofun⟩
  have v0 := popV_sh ok
  have v1 := popV_sh (pop_ok ok)
  have v2 := popV_sh (pop_ok (pop_ok ok))
  have two : ∀ (z : Str) (x y : Int), PyData.showable (.str z) = true → wt (.str z) ≤ 100 → Sh x → Sh y → ∃ p, (∀ μ : Mu, toPyT μ (D.tup [.str z, .int x, .int y]) = some p) ∧ ShowOk p ∧ ∀ s, D.tup [.str z, .int x, .int y] ≠ .str s := fun z x y hz hw hx hy =>
    ⟨.tuple [.str z, .int x, .int y], fun _ => rfl, showOk_of (by
      show (PyData.showable (.str z) && (PyData.showable (.int x) && (PyData.showable (.int y) && true))) = true
      rw [hz]; simp only [PyData.showable, sh_log hx, sh_log hy, decide_true, Bool.and_self]) (by simp only [PyData.depth, PyData.depthAll]; decide) (by
      show (wt (.str z) + 2 + (1921 + 2 + (1921 + 2 + 0))) + 4 ≤ 16777216
      omega), nofun⟩
  cases h with
  | send n h =>
    simp only [effI, ofStr_inj, String.reduceEq, if_true, if_false, Option.getD_some]
    have hn : Sh (n : Int) := ⟨by omega, by omega⟩
    refine ⟨.tuple [.str "sent", .int n, .tuple [.int (popV (popS (popS st))), .int (popV (popS st)), .int (popV st)]], fun _ => rfl, showOk_of ?_ (by simp only [PyData.depth, PyData.depthAll]; decide) ?_, nofun⟩
    · show (PyData.showable (.str "sent") && (PyData.showable (.int n) && ((PyData.showable (.int (popV (popS (popS st)))) && (PyData.showable (.int (popV (popS st))) && (PyData.showable (.int (popV st)) && true))) && true))) = true
      rw [show PyData.showable (.str "sent") = true by decide +kernel]
      simp only [PyData.showable, sh_log hn, sh_log v0, sh_log v1, sh_log v2, decide_true, Bool.and_self]
    · show (wt (.str "sent") + 2 + (1921 + 2 + (((1921 + 2 + (1921 + 2 + (1921 + 2 + 0))) + 4) + 2 + 0))) + 4 ≤ 16777216
      have : wt (.str "sent") ≤ 100 := by decide +kernel
      omega
  | plain w h =>
    simp only [PLAINW, List.mem_cons, List.not_mem_nil, or_false] at h
    rcases h with rfl | rfl | rfl | rfl | rfl | rfl | rfl | rfl | rfl | rfl | rfl
    all_goals simp only [effI, ofStr_inj, String.reduceEq, if_true, if_false]
    · exact non
    · exact non
    · exact non
    · exact non
    · exact non
    · exact non
    · unfold writeG
      split
      · exact two _ _ _ (by decide +kernel) (by decide +kernel) v0 v1
      · exact non
    · obtain ⟨p1, p2, p3⟩ := pairs_ok st.queue fun p hp => ⟨⟨by have := ok.qs p hp; omega, by have := ok.qs p hp; omega⟩, (ok.qs p hp).2.2⟩
      have ql := ok.q
      refine ⟨.tuple [.str "settled", .tuple (st.queue.map pairP)], fun μ => ?_, showOk_of ?_ ?_ ?_, nofun⟩
      · show toPy μ (.tup [.str "settled", .tup (st.queue.map pairD)]) = _
        simp only [toPy, toPys, toPys_pairs, Option.map_some]
      · show (PyData.showable (.str "settled") && (PyData.showable (.tuple (st.queue.map pairP)) && true)) = true
        rw [show PyData.showable (.str "settled") = true by decide +kernel, p1]; rfl
      · simp only [PyData.depth, PyData.depthAll]
        omega
      · show (wt (.str "settled") + 2 + ((wts (st.queue.map pairP) + 4) + 2 + 0)) + 4 ≤ 16777216
        have : wt (.str "settled") ≤ 100 := by decide +kernel
        omega
    · refine ⟨.tuple [.str "typed", .int st.given], fun _ => rfl, showOk_of ?_ (by simp only [PyData.depth, PyData.depthAll]; decide) ?_, nofun⟩
      · show (PyData.showable (.str "typed") && (PyData.showable (.int st.given) && true)) = true
        rw [show PyData.showable (.str "typed") = true by decide +kernel]
        simp only [PyData.showable, sh_log ok.gs, decide_true, Bool.and_self]
      · show (wt (.str "typed") + 2 + (1921 + 2 + 0)) + 4 ≤ 16777216
        have : wt (.str "typed") ≤ 100 := by decide +kernel
        omega
    · exact two _ _ _ (by decide +kernel) (by decide +kernel) v0 v1
    · exact ⟨.tuple [.str "waits"], fun _ => rfl, showOk_of (by decide +kernel) (by decide +kernel) (by decide +kernel), nofun⟩
  | sign w h => rcases sign_cases h with rfl | rfl | rfl | rfl | rfl | rfl | rfl | rfl | rfl <;> simp only [effI, ofStr_inj, String.reduceEq, if_false] <;> exact non
  | _ => simp only [effI, ofStr_inj, String.reduceEq, if_true, if_false] <;> exact non
end K25

set_option maxRecDepth 100000
set_option maxHeartbeats 4000000
namespace K25
open PySem L2 FW VL
local macro_rules | `(tactic| walk_at "wr") => `(tactic| simp only [vInt_bl, iwR1, iwR2, iwM, List.set_cons_succ, wLenSet, wFor, wSetF, wAugF, wAug, wBM, wProp, wHeld, wVar, wC, wZ, wOp, wUn, wNil, wCons, wStar, wCB, wTup, wLst, wLstM, wTest, wAnd, wOr, VL.wNot, wAndV, wOrV, wNotV, wIf, wChain, wNoPart, wPart, wSl, wName, wGNil, wGCons, wGTup, wSub, wNext, VL.wSeq, wAsg, wDrop, wRet, wRetN, wIfS, wBreak, wCont, wPar, vI0, vI, vU, vAdd, vSub, vMul, vMod, vFdiv, vPow, vLt, vLe, vGt, vGe, vNeg, vIsN, vNotN, vAddA_ii, vMulA_ii, VL.wTru, iwL, iwT, wLc, vstart, List.map_cons, List.map_nil, List.cons_append, List.nil_append, List.set_cons_zero, List.set_cons_succ, List.getElem?_cons_zero, List.getElem?_cons_succ, Option.some.injEq, exists_eq_left, exists_eq_left', exists_eq', D.bl.injEq, D.int.injEq, D.str.injEq, D.tup.injEq, D.ref.injEq, List.cons.injEq, and_true, true_and, List.length_cons, List.length_nil, List.replicate, D.ty.injEq, exists_and_left, List.length, Nat.reduceAdd, wCall, wMake, wMeth, wFld, argsD, argD, toArg, List.getD_cons_zero, List.getD_cons_succ, List.map, iwS, vTupOf, Bool.false_eq_true, if_false, if_true, reduceIte, List.getElem?_nil, Nat.reduceSub, wipeR, vLen_lst, vLen_tup, vEq_ii, vEq_ss, vEq_bb, vIx_lst, vIx_tup, vIn_strs, vIn_s2, vIn_s3, vAll_map, vInK_s, vIxK_s, vInt_i, vAbs_i, atI_0, atI_1, atI_2, Bool.not_true, Bool.not_false, seqOf_lst, seqOf_tup, lstOf_lst, tupOf_tup, fzL_lst, N_is_list, N_is_integer, N_is_within, N_is_short, N_are_shorts, N_are_integers, N_is_lot, N_fixed, N_short_of, N_added, N_taken_from, N_multiplied, N_divided, N_left_over, N_is_less, N_is_equal, N_are_both, N_is_any, N_is_instruction, N_is_target_beyond, N_are_rows, N_Code___init__, N_Code___eq__, N_Code___iter__, N_push_short, N_popped, N_do_push, N_do_load, N_do_store, N_do_fetch, N_do_put, N_do_not, N_do_drop, N_do_copy, N_do_jump, N_do_unless, N_do_wait, N_do_sign, N_do_read, N_do_write, N_do_barrier, N_do_send, N_do_take, N_do_input, N_do_show, N_deed_of_row, N_is_disk_pair, N_are_disk_pairs, N_is_disk, N_Computer_power_on, N_Computer___init__, N_Computer_stack, N_Computer_disk, N_Computer_waiting, N_Computer_cards, N_Computer_memory, N_Computer_hand, N_Computer_cut, N_Computer_go, N_Computer_step, N__law_bench, N__law_turn, N__law_tool, N__law_wrap, N__law_signed, N__law_popped, N__law_written, N__law_settled, N__law_awake, N__law_outside, N__law_step, N__law_piece, N__law_is_so, N__law_moment_right, N_law, ofStr_inj, ofStr_beq, String.reduceEq, decide_true, decide_false, Bool.or_false, Bool.or_true, Bool.false_or, Bool.true_or, Bool.and_true, Bool.and_false, Bool.true_and, Bool.false_and, vModN, iwE, iwEM])

def rowsOk (is : List Ins) : Prop := is.length ≤ 200 ∧ ∀ i ∈ is, Okp is.length i
theorem StAt.keep {μ μ' : Mu} {s : Addr} {G F : List Addr} {st : CS} (h : StAt μ s G st) (k : Kp F μ μ') (n : ∀ x ∈ G, x ∉ F) : StAt μ' s G st := by
  obtain ⟨p, m, kk, w, c, rfl, b⟩ := h
  exact ⟨p, m, kk, w, c, rfl, b.keep k n⟩
theorem StAt.has {μ : Mu} {s : Addr} {G : List Addr} {st : CS} (h : StAt μ s G st) : ∀ x ∈ G, μ x ≠ none := by
  obtain ⟨p, m, kk, w, c, rfl, b⟩ := h
  exact b.has
/-- the two computers side by side -/
structure Duo (K : PySem.W.Frag) (μ0 μ : Mu) (F0 G0 : List Addr) (a c s : Addr) (F G : List Addr) (sc so : CS) (b : Nat) : Prop where
  C : CompAt K μ c F sc
  S : StAt μ s G so
  aF : a ∉ F
  aG : a ∉ G
  FG : ∀ x ∈ F, x ∉ G
  mi : Mist μ a b
  kp : Kp (a :: (F0 ++ G0)) μ0 μ
  nF : ∀ x ∈ F, x ∈ F0 ++ G0 ∨ μ0 x = none
  nG : ∀ x ∈ G, x ∈ F0 ++ G0 ∨ μ0 x = none
section
variable {K : PySem.W.Frag} {μ0 μ μ' : Mu} {F0 G0 F G F' G' : List Addr} {a c s : Addr} {sc so sc' so' : CS} {b b' : Nat}
theorem Duo.mono (D : Duo K μ0 μ F0 G0 a c s F G sc so b) (h : b' ≤ b) : Duo K μ0 μ F0 G0 a c s F G sc so b' := ⟨D.C, D.S, D.aF, D.aG, D.FG, D.mi.mono h, D.kp, D.nF, D.nG⟩
theorem Duo.nea (D : Duo K μ0 μ F0 G0 a c s F G sc so b) : μ a ≠ none := by obtain ⟨_, _, _, e, _⟩ := D.mi; exact some_ne e
theorem Duo.draw (D : Duo K μ0 μ F0 G0 a c s F G sc so b) (k1 : Kp [a] μ μ') (m1 : Mist μ' a b') : Duo K μ0 μ' F0 G0 a c s F G sc so b' :=
  ⟨comp_keep D.C k1 (fun x hx h => D.aF (by rw [← List.mem_singleton.mp h]; exact hx)), D.S.keep k1 (fun x hx h => D.aG (by rw [← List.mem_singleton.mp h]; exact hx)), D.aF, D.aG, D.FG, m1, D.kp.trans Nw.refl (k1.sub fun x hx => by rw [List.mem_singleton.mp hx]; exact .head _), D.nF, D.nG⟩
theorem Duo.new (D : Duo K μ0 μ F0 G0 a c s F G sc so b) (k1 : Kp [] μ μ') : Duo K μ0 μ' F0 G0 a c s F G sc so b := D.draw (k1.sub fun _ h => (nomatch h)) (D.mi.keep k1 (by simp))
theorem Duo.old (D : Duo K μ0 μ F0 G0 a c s F G sc so b) {x : Addr} (h : μ x = none) : x ∈ F0 ++ G0 ∨ μ0 x = none := by
  by_cases h1 : x ∈ a :: (F0 ++ G0)
  · rcases List.mem_cons.mp h1 with e | h1
    · exact (D.nea (by rw [← e]; exact h)).elim
    · exact .inl h1
  · exact .inr (D.kp.free h h1)
theorem Duo.comp (D : Duo K μ0 μ F0 G0 a c s F G sc so b) (k1 : Kp F μ μ') (w1 : Nw F F' μ) (hC : CompAt K μ' c F' sc') : Duo K μ0 μ' F0 G0 a c s F' G sc' so b :=
  ⟨hC, D.S.keep k1 (fun x hx h => D.FG x h hx), nw_off w1 D.aF D.nea, D.aG, fun x hx hg => by
    rcases w1 x hx with z | z
    · exact D.FG x z hg
    · exact D.S.has x hg z, D.mi.keep k1 D.aF, D.kp.up k1 (fun x hx => by
      rcases D.nF x hx with z | z
      · exact .inl (.tail _ z)
      · exact .inr z), fun x hx => by
    rcases w1 x hx with z | z
    · exact D.nF x z
    · exact D.old z, D.nG⟩
theorem Duo.own (D : Duo K μ0 μ F0 G0 a c s F G sc so b) (k1 : Kp G μ μ') (w1 : Nw G G' μ) (hS : StAt μ' s G' so') : Duo K μ0 μ' F0 G0 a c s F G' sc so' b :=
  ⟨comp_keep D.C k1 D.FG, hS, D.aF, nw_off w1 D.aG D.nea, fun x hx hg => by
    rcases w1 x hg with z | z
    · exact D.FG x hx z
    · exact comp_has D.C x hx z, D.mi.keep k1 D.aG, D.kp.up k1 (fun x hx => by
      rcases D.nG x hx with z | z
      · exact .inl (.tail _ z)
      · exact .inr z), D.nF, fun x hx => by
    rcases w1 x hx with z | z
    · exact D.nG x z
    · exact D.old z⟩
end
theorem shorts3 {μ : Mu} {lv : D} {x y z : Int} (sq : SeqA μ lv [.int x, .int y, .int z]) (h1 : isLst μ lv = true) (h2 : Kd μ lv) (hx : Sh x) (hy : Sh y) (hz : Sh z) : ShV μ lv ∧ shortsB μ lv 3 = true := by
  refine ⟨⟨h2, fun _ => ⟨_, sq, by simp, fun d hd => ?_⟩⟩, ?_⟩
  · simp only [List.mem_cons, List.not_mem_nil, or_false] at hd
    rcases hd with rfl | rfl | rfl <;> exact ⟨_, rfl⟩
  · unfold shortsB itemsOf
    rw [h1, sq.seq]
    unfold Sh at hx hy hz
    simp [isSh, within, hx, hy, hz]
theorem lot_of {n : Int} : ∀ (ks : List Nat) (least : Int), (∀ k ∈ ks, least ≤ (k : Int) ∧ (k : Int) < n) → ks.Pairwise (· < ·) → lotL n least (ks.map fun k : Nat => .int (k : Int)) = true
  | [], _, _, _ => rfl
  | k :: ks, least, h, hp => by
    obtain ⟨h1, h2⟩ := h k (List.mem_cons_self ..)
    rw [List.pairwise_cons] at hp
    have ih := lot_of (n := n) ks ((k : Int) + 1) (fun j hj => ⟨by have := hp.1 j hj; omega, (h j (List.mem_cons_of_mem _ hj)).2⟩) hp.2
    rw [List.map_cons]
    simp only [lotL, ih, h1, h2, decide_true, Bool.and_self]
theorem pw_len0 : ∀ (ks : List Nat) (lo n : Nat), ks.Pairwise (· < ·) → (∀ j ∈ ks, lo ≤ j ∧ j < n) → ks.length ≤ n - lo
  | [], _, _, _, _ => Nat.zero_le _
  | k :: ks, lo, n, pw, h => by
    rw [List.pairwise_cons] at pw
    have h0 := h k (List.mem_cons_self ..)
    have ih := pw_len0 ks (k + 1) n pw.2 fun j hj => ⟨pw.1 j hj, (h j (List.mem_cons_of_mem _ hj)).2⟩
    rw [List.length_cons]
    omega
theorem pw_len {ks : List Nat} {n : Nat} (pw : ks.Pairwise (· < ·)) (lt : ∀ j ∈ ks, j < n) : ks.length ≤ n := pw_len0 ks 0 n pw fun j hj => ⟨Nat.zero_le _, lt j hj⟩
theorem onS_okG {st : CS} (h : st.Ok) : (onS st).Ok := ⟨by simp [onS], by simp [onS, zeros], h.s, h.s, by simp [onS], by simp [onS], fun v hv => (nomatch hv), zeros_sh, h.ss, h.ss, fun p hp => (nomatch hp), fun p hp => (nomatch (List.mem_replicate.mp hp).2), h.gs⟩
theorem lc_kept {Φ : WK} {μ5 : Mu} {a Ds : Addr} {n B : Nat} {x1 x2 x3 x4 x5 x6 x7 x8 x9 x10 x11 x12 : Option D} (hm : Mist μ5 a (B + n)) (hl : n ≤ 1000) (nD : μ5 Ds = none)
    (k : ∀ (ks : List Nat) μ6, ks.Pairwise (· < ·) → (∀ j ∈ ks, j < n) → Kp [a] μ5 μ6 → Mist μ6 a B → μ6 Ds = some (.lst (ks.map fun j : Nat => .int (j : Int))) → Φ (.ref Ds) μ6) :
    lcW noP (Pat.name 12) (wTest (wOp (vEq false) (wCall (fun x => ev0) [VL.Arg.pos 0, VL.Arg.pos 1] sp__law_turn 2 0 (wCons (wVar 0) (wCons (wC (D.int 2)) wNil)) wNil) (wC (D.int 0)))) (wVar 12) [12]
      [some (.ref a), x1, x2, x3, x4, x5, x6, x7, x8, x9, x10, x11, x12] ev0 Ds Φ ((List.range n).map fun k : Nat => .int (k : Int)) (μ5.set Ds (.lst [])) := by
  have aD := hm.ne nD
  refine lcW_invT (fun i acc μ' => ∃ ks : List Nat, acc = ks.map (fun j : Nat => .int (j : Int)) ∧ ks.Pairwise (· < ·) ∧ (∀ j ∈ ks, j < i) ∧ Kp [a] μ5 μ' ∧ Mist μ' a (B + (n - i))) (sizeOk (by simp; omega)) ?_ ?_ Mu.same ⟨[], rfl, .nil, fun _ z => (nomatch z), Kp.refl.setN nD, hm.setN aD⟩
  · rintro i d acc μ' Ψ Ψ0 hd hal hD ⟨ks, rfl, pw, lt, kp, mi⟩ hk h0
    obtain ⟨hin, rfl⟩ := range_get hd
    refine ⟨trivial, _, rfl, ?_⟩
    have mi := mi.mono (b' := B + (n - (i + 1)) + 1) (by omega)
    have take : ∀ μ7, Kp [a] μ' μ7 → Mist μ7 a (B + (n - (i + 1))) → Ψ (.int (i : Int)) μ7 := fun μ7 k7 m7 => hk _ μ7 (k7.at_ hD (by simpa using Ne.symm aD)) ⟨ks ++ [i], by rw [List.map_append]; rfl, by
      rw [List.pairwise_append]
      exact ⟨pw, List.pairwise_singleton _ _, fun x hx y hy => by rw [List.mem_singleton.mp hy]; exact lt x hx⟩, fun j hj => by
      rcases List.mem_append.mp hj with z | z
      · have := lt j z; omega
      · rw [List.mem_singleton.mp z]; omega, (kp.trans Nw.refl k7).setN nD, m7.setN aD⟩
    have skip : ∀ μ7, Kp [a] μ' μ7 → Mist μ7 a (B + (n - (i + 1))) → Ψ0 μ7 := fun μ7 k7 m7 => h0 μ7 (k7.at_ hD (by simpa using Ne.symm aD)) ⟨ks, rfl, pw, fun j hj => by have := lt j hj; omega, kp.trans Nw.refl k7, m7⟩
    walk_at "wr"
    refine ⟨a, 2, B + (n - (i + 1)), rfl, by decide, by decide, mi, fun v μ7 v0 v1 k7 m7 => ?_⟩
    simp only [vEq_ii]
    refine ⟨_, rfl, ?_⟩
    simp only [Bool.false_eq_true, if_false]
    exact ite_sp (fun _ => take μ7 k7 m7) fun _ => skip μ7 k7 m7
  · rintro acc μ' hal hD ⟨ks, rfl, pw, lt, kp, mi⟩
    simp only [List.length_map, List.length_range] at lt mi
    exact ⟨trivial, k ks μ' pw lt kp (mi.mono (by omega)) hD⟩
def intD1 (d : D) : Int := match d with
  | .int n => n
  | _ => 0
theorem pairs_show {cs : List (Int × Int)} (h : ∀ p ∈ cs, Sh p.1 ∧ Sh p.2) (hl : cs.length ≤ 400) : ShowOk (.tuple (cs.map pairP)) := by
  obtain ⟨h1, h2, h3⟩ := pairs_ok cs h
  refine showOk_of h1 (by simp only [PyData.depth]; omega) ?_
  show wts (cs.map pairP) + 4 ≤ _
  omega
def duePs (st : CS) (ks : List Nat) : List (Int × Int) := ks.map fun k => st.queue.getD k (0, 0)
def sp__law_moment_right (P : Program) (w : World) (K : PySem.W.Frag) (mg : Str → Option Value) (base : Heap) : VSp := fun ds μ ev Φ => ∃ (a c s : Addr) (F G : List Addr) (st : CS) (is : List Ins) (k b : Nat), ds = [.ref a, .ref c, .lst (is.map insD), .ref s] ∧ Duo K μ μ F G a c s F G st st (b + 200) ∧ Fits k is st ∧ k ≤ 70 ∧ rowsOk is ∧
  ∀ μ' F' G' st', Duo K μ μ' F G a c s F' G' st' st' b → Fits (k + 1) is st' → Φ (.bl true) μ'
theorem b__law_moment_right {P : Program} {w : World} {K : PySem.W.Frag} {mg : Str → Option Value} {base : Heap} (T : Txt w K mg) : ∀ fd, FunD K "_law_moment_right" "_law_moment_right" (defArgs s__law_moment_right) (defBody s__law_moment_right) (defScope s__law_moment_right) [] [] (He.ga K "_law_moment_right") fd → FnG P w K mg base CX0 6 (He.ga K "_law_moment_right") fd ["_law_bench_here", "_law_computer", "_law_rows", "_law_state"] (lift K [] (sp__law_moment_right P w K mg base)) := by
  intro fd F
  refine fun_okD (N := N__law_moment_right) F sc__law_moment_right (fun ds μ ev Φ h => ?size) (fun cdv A outer s H E hG hr => ⟨_, (vss_cons (vs_set (i := 4) sc__law_moment_right.nd rfl (Or.inl rfl) (ve_call T.g__law_turn (c__law_turn_2 T) hG hr (by decide) pass0 sel_0 rfl (va_cons (vv 0) (va_cons ve_int va_nil)) vk_nil))
 (vss_cons (vs_if (vt_cmp op_lt s_lt (vv 4) ve_int (nomark _))
 (vss_cons (vs_par (ps_par (i := 5) (j := 6) rfl sc__law_moment_right.nd rfl rfl (by decide) rfl rfl (va_cons (ve_call T.g__law_turn (c__law_turn_2 T) hG hr (by decide) pass0 sel_0 rfl (va_cons (vv 0) (va_cons ve_int va_nil)) vk_nil) (va_cons (ve_lst (va_cons (ve_call T.g__law_turn (c__law_turn_2 T) hG hr (by decide) pass0 sel_0 rfl (va_cons (vv 0) (va_cons ve_int va_nil)) vk_nil) (va_cons (ve_op op_sub s_sub (ve_call T.g__law_turn (c__law_turn_2 T) hG hr (by decide) pass0 sel_0 rfl (va_cons (vv 0) (va_cons ve_int va_nil)) vk_nil) ve_int) (va_cons (ve_op op_sub s_sub ve_int (vv 4)) va_nil)))) va_nil)) (by rfl)))
 (vss_cons (vs_expr (ve_meth T.cl_Computer T.m_Computer_hand (c_Computer_hand_3 T) hG hr (by decide) passL sel_0 (vv 1) (va_cons (vv 5) (va_cons (vv 6) va_nil)) vk_nil))
 (vss_one (vs_asg (ve_callTy call_tuple_of s_tuple (by rfl) T.b_tuple (by decide +kernel) (va_cons (vv 6) va_nil)) (vg_sub (fun _ _ h1 h2 => pg_sub h1 h2 set_list) s_setL (ve_dget (units1 hr) (vv 3) ve_str) (vv 5))))))
 vss_nil)
 (vss_cons (vs_if (vt_cmp (op_eqA hr.units) s_eq (vv 4) ve_int (nomark _))
 (vss_cons (vs_setLcZ (i := 7) (own := [("_law_at", 12)]) (p := (.name 12)) rfl sc__law_moment_right.nd rfl rfl (sw_true rfl rfl rfl (by decide +kernel)) (vi_range1 (by rfl) T.b_range (va_cons (ve_callB call_lenA s_len (by rfl) T.b_len (by decide +kernel) (va_cons (ve_dget (units1 hr) (vv 3) ve_str) va_nil)) va_nil)) (blkOk_by (N := N__law_moment_right) (sc := defScope s__law_moment_right) (by decide +kernel)) (fun _ _ _ _ _ => pg_name (i := 12) sc__law_moment_right.nd rfl (Or.inl rfl)) (fun _ _ _ _ _ => (vts_one (vt_cmp (op_eqA hr.units) s_eq (ve_call T.g__law_turn (c__law_turn_2 T) hG hr (by decide) pass0 sel_0 rfl (va_cons (vv 0) (va_cons ve_int va_nil)) vk_nil) ve_int (nomark _)))) (fun _ _ _ _ _ => (vv 12)) (by decide))
 (vss_cons (vs_setLcZ (i := 8) (own := [("_law_at", 12)]) (p := (.name 12)) rfl sc__law_moment_right.nd rfl rfl (sw_true rfl rfl rfl (by decide +kernel)) (vi_list (vv 7)) (blkOk_by (N := N__law_moment_right) (sc := defScope s__law_moment_right) (by decide +kernel)) (fun _ _ _ _ _ => pg_name (i := 12) sc__law_moment_right.nd rfl (Or.inl rfl)) (fun _ _ _ _ _ => vts_nil) (fun _ _ _ _ _ => (ve_ix ix_seq s_ix (ve_dget (units1 hr) (vv 3) ve_str) (vv 12))) (by decide))
 (vss_cons (vs_if (vt_cmp (op_neA hr.units) s_ne (ve_callB (call_showA hG hr.units) s_repr (by rfl) T.b_repr (by decide +kernel) (va_cons (ve_meth T.cl_Computer T.m_Computer_cut (c_Computer_cut_2 T) hG hr (by decide) passL sel_0 (vv 1) (va_cons (vv 7) va_nil) vk_nil) va_nil)) (ve_callB (call_showA hG hr.units) s_repr (by rfl) T.b_repr (by decide +kernel) (va_cons (ve_call T.g__law_settled (c__law_settled_2 T) hG hr (by decide) pass0 sel_0 rfl (va_cons (vv 3) (va_cons (vv 8) va_nil)) vk_nil) va_nil)) (nomark _))
 (vss_one (vs_ret ve_bl))
 vss_nil)
 (vss_cons (vs_set (i := 9) sc__law_moment_right.nd rfl (Or.inl rfl) (ve_call T.g__law_awake (c__law_awake_1 T) hG hr (by decide) pass0 sel_0 rfl (va_cons (ve_dget (units1 hr) (vv 3) ve_str) va_nil) vk_nil))
 (vss_one (vs_for (passes_of rfl) rfl (vi_tup (ve_tup (va_cons ve_str (va_cons ve_str (va_cons ve_str (va_cons ve_str (va_cons ve_str va_nil))))))) (vg_name (i := 10) sc__law_moment_right.nd rfl (Or.inl rfl))
 (vss_one (vs_asg (ve_dget (units1 hr) (vv 9) (vv 10)) (vg_sub (fun _ _ h1 h2 => pg_sub h1 h2 (set_dict (units1 hr))) s_setD (vv 3) (vv 10))))))))))
 vss_nil)
 (vss_cons (vs_set (i := 11) sc__law_moment_right.nd rfl (Or.inl rfl) (ve_op op_sub s_sub (ve_call T.g__law_turn (c__law_turn_2 T) hG hr (by decide) pass0 sel_0 rfl (va_cons (vv 0) (va_cons ve_int va_nil)) vk_nil) ve_int))
 (vss_cons (vs_set (i := 8) sc__law_moment_right.nd rfl (Or.inl rfl) (ve_call T.g__law_step (c__law_step_3 T) hG hr (by decide) pass0 sel_0 rfl (va_cons (vv 2) (va_cons (vv 3) (va_cons (vv 11) va_nil))) vk_nil))
 (vss_one (vs_ret (ve_and (ve_cmp (op_eqA hr.units) s_eq (ve_callB (call_showA hG hr.units) s_repr (by rfl) T.b_repr (by decide +kernel) (va_cons (ve_meth T.cl_Computer T.m_Computer_step (c_Computer_step_2 T) hG hr (by decide) passL sel_0 (vv 1) (va_cons (vv 11) va_nil) vk_nil) va_nil)) (ve_callB (call_showA hG hr.units) s_repr (by rfl) T.b_repr (by decide +kernel) (va_cons (vv 8) va_nil)) (nomark _)) (ve_one (ve_call T.g__law_is_so (c__law_is_so_2 T) hG hr (by decide) pass0 sel_0 rfl (va_cons (vv 1) (va_cons (vv 3) va_nil)) vk_nil)))))))))), fun ds μ ev Φ h => ?_⟩)
  · obtain ⟨a, c, s, F, G, st, is, k, b, rfl, _⟩ := h; rfl
  · obtain ⟨a, c, s, F, G, st, is, kn, b, rfl, D0, ft, hkn, hrow, k⟩ := h
    simp only [cx_K, cx_P, cx_w, cx_m, cx_b]
    refine cut2 fun N1 hN1 => ?_
    walk_at "wr"
    refine ⟨a, 24, b + 199, rfl, by decide, by decide, D0.mi, fun way μ1 w0 w1 k1 m1 => ?_⟩
    have D1 := D0.draw k1 m1
    refine hN1 _ _ ?_
    clear hN1 N1 k1 m1
    refine cut2 fun N2 hN2 => ?_
    have rest2 : ∀ (F' G' : List Addr) (st : CS) (μ' : Mu) (x5 x6 : Option D), Duo K μ μ' F G a c s F' G' st st (b + 150) → Fits kn is st → N2 [some (.ref a), some (.ref c), some (.lst (is.map insD)), some (.ref s), some (.int way), x5, x6, none, none, none, none, none, none] μ' := fun F' G' st μ' x5 x6 Du ft => hN2 _ _ (by
      refine cut2 fun N3 hN3 => ?_
      have rest3 : ∀ (F' G' : List Addr) (st : CS) (μ' : Mu) (x5 x6 x7 x8 x9 x10 : Option D), Duo K μ μ' F G a c s F' G' st st (b + 1) → Fits kn is st → N3 [some (.ref a), some (.ref c), some (.lst (is.map insD)), some (.ref s), some (.int way), x5, x6, x7, x8, x9, x10, none, none] μ' := fun F' G' st μ' x5 x6 x7 x8 x9 x10 Du ft => hN3 _ _ (by
        walk_at "wr"
        refine ⟨a, 200, b, rfl, by decide, by decide, Du.mi, fun v μ1 v0 v1 k1 m1 => ⟨v, rfl, ?_⟩⟩
        have D1 := Du.draw k1 m1
        have hg : Sh (v - 100) := ⟨by omega, by omega⟩
        generalize v - 100 = gv at hg
        obtain ⟨n, hat, hnl⟩ := ft.at_
        have hpl := ft.pl
        have hql := ft.ql
        have fin : ∀ μ2 F2 G2 st2, Duo K μ μ2 F G a c s F2 G2 st2 st2 b → Fits (kn + 1) is st2 → sp__law_is_so K [.ref c, .ref s] μ2 ev0 Φ := fun μ2 F2 G2 st2 D2 ft2 => by
          obtain ⟨n2, hat2, hnl2⟩ := ft2.at_
          have := hrow.1
          exact ⟨c, s, F2, G2, st2, rfl, D2.C, D2.S, ft2.ok, by omega, by omega, k μ2 F2 G2 st2 D2 ft2⟩
        have C1 := D1.C
        obtain ⟨cs, ch, cp, cw, cq, cl, eF, cb⟩ := C1
        refine ⟨is, s, G', st, gv, n, rfl, D1.S, hat, ?_⟩
        by_cases hn : n = is.length
        · refine .inl ⟨hn, ⟨_, _, cb.ins, by decide, ?_⟩⟩
          refine .inr ⟨gv, c, F', st, n, rfl, hg, D1.C, ft.ok, hat, .inl ⟨by rw [ft.code]; exact hn, fun μ2 F2 k2 w2 hC2 => ?_⟩⟩
          have D2 := D1.comp k2 w2 hC2
          have D3 : Duo K μ μ2 F G a c s F2 G' { st with given := gv } { st with given := gv } b := ⟨D2.C, D2.S.same ⟨rfl, rfl, rfl, rfl, rfl, rfl⟩, D2.aF, D2.aG, D2.FG, D2.mi, D2.kp, D2.nF, D2.nG⟩
          have wok : ShowOk (.tuple [.str "waits"]) := showOk_of (by decide +kernel) (by decide +kernel) (by decide +kernel)
          refine ⟨_, .tuple [.str "waits"], rfl, nofun, rfl, wok, _, .tuple [.str "waits"], rfl, nofun, rfl, wok, ?_⟩
          refine vEq_ss.mpr ⟨_, rfl, ?_⟩
          simp only [decide_true, Bool.not_true, if_true, Bool.false_eq_true, if_false]
          exact fin _ _ _ _ D3 ⟨ft.ok.given_ hg, ft.wrt, by show st.pile.length ≤ _; omega, by show st.queue.length ≤ _; omega, ft.code, ⟨n, hat, hnl⟩⟩
        · have hlt : n < is.length := by omega
          have hi : is[n]? = some is[n] := List.getElem?_eq_getElem hlt
          have ho := hrow.2 _ (List.mem_of_getElem? hi)
          generalize is[n] = i at hi ho
          have okf : (fetchS st gv n).Ok := (ft.ok.given_ hg).at_ _
          refine .inr ⟨i, hi, ho.1, ⟨okf, ft.wrt, by show st.pile.length ≤ _; omega, by show st.queue.length < _; omega, rfl⟩, fun μ2 G2 k2 w2 hS2 => ?_⟩
          have D2 := D1.own k2 w2 hS2
          have C2 := D2.C
          obtain ⟨ds, dh, dp, dw, dq, dl, _, db⟩ := C2
          refine ⟨_, _, db.ins, by decide, ?_⟩
          refine .inr ⟨gv, c, F', st, n, rfl, hg, D2.C, ft.ok, hat, .inr ⟨i, effI i, by rw [ft.code]; exact hi, deed_eff T ho.1, effI_out ho.1, fun μ3 F3 k3 w3 hC3 => ?_⟩⟩
          have D3 := D2.comp k3 w3 hC3
          obtain ⟨tp, t1, t2, t3⟩ := effI_told ho.1 okf
          refine ⟨_, tp, rfl, t3, t1 μ3, t2, _, tp, rfl, t3, t1 μ3, t2, ?_⟩
          refine vEq_ss.mpr ⟨_, rfl, ?_⟩
          simp only [decide_true, Bool.not_true, if_true, Bool.false_eq_true, if_false]
          exact fin _ _ _ _ D3 (effI_fits ft hg hi ho))
      walk_at "wr"
      refine ite_sp (fun _ => ?_) fun _ => rest3 F' G' st μ' x5 x6 _ _ _ _ (Du.mono (by omega)) ft
      have hql := ft.ql
      have S0 := Du.S
      obtain ⟨p, m, kk, w, cc, eG, sb⟩ := S0
      refine (d_waits sb.hd).mpr ?_
      have hlw : lenOf μ' (.ref w) = some st.queue.length := by rw [lenOf_of sb.hw, List.length_map]
      simp only [vLen_iff hlw]
      refine ⟨_, rfl, by omega, by omega, fun Ds nD => ?_⟩
      rw [Int.toNat_natCast]
      refine lc_kept (B := b + 60) (Du.mi.mono (by omega)) (by omega) nD fun ks μ2 pw lt k2 m2 e2 => ?_
      have aD := Du.mi.ne nD
      have k02 : Kp [a] μ' (μ2.del Ds) := k2.delN nD
      have m2' : Mist (μ2.del Ds) a (b + 60) := m2.keep (F := [Ds]) (Kp.del (.head _)) (by simpa using aD)
      refine ⟨Ds, rfl, _, frzOf_lst e2, _, rfl, ?_⟩
      have D3 := Du.draw k02 m2'
      generalize μ2.del Ds = μ3 at D3 ⊢
      clear k02 m2' e2 k2 m2 sb hlw
      have S3 := D3.S
      obtain ⟨p, m, kk, w, cc, eG, sb⟩ := S3
      have kl := pw_len pw lt
      refine lcm (fun d => pairD (st.queue.getD (intD1 d).toNat (0, 0))) (sizeOk (by rw [List.length_map]; omega)) (fun d hd => ⟨_, rfl, fun Es l Ψ nE q => ?_⟩) fun Es nE => ?_
      · obtain ⟨n, hn, rfl⟩ := List.mem_map.mp hd
        have hlt := lt n hn
        have ht4 : (μ3.set Es (.lst l)) w = some (.lst (st.queue.map pairD)) := by rw [Mu.ne (Mu.new_ne nE sb.hw)]; exact sb.hw
        have hd4 : (μ3.set Es (.lst l)) s = some (.dic stKs (stDs st.at_ p m kk w cc)) := by rw [Mu.ne (Mu.new_ne nE sb.hd)]; exact sb.hd
        walk_at "wr"
        refine (d_waits hd4).mpr ?_
        simp only [vIx_iff (seqOf_of ht4)]
        refine ⟨_, atI_nat (by rw [List.getElem?_map, List.getElem?_eq_getElem hlt]; rfl), ?_⟩
        have e : (st.queue.getD (intD1 (.int (n : Int))).toNat (0, 0)) = st.queue[n] := by
          show st.queue.getD n (0, 0) = _
          rw [List.getD_eq_getElem?_getD, List.getElem?_eq_getElem hlt]; rfl
        rw [e] at q
        exact q
      refine ⟨Es, rfl, _, frzOf_lst Mu.same, ?_⟩
      rw [Mu.del_set nE]
      have ed : ((ks.map fun j : Nat => D.int (j : Int)).map fun d => pairD (st.queue.getD (intD1 d).toNat (0, 0))) = (duePs st ks).map pairD := by unfold duePs; rw [List.map_map, List.map_map]; rfl
      rw [ed]
      have C3 := D3.C
      obtain ⟨cs, ch, cp, cw, cq, cl, eF, cb⟩ := C3
      refine ⟨_, _, cb.ins, by decide, ?_⟩
      have lot : lotL ((st.queue.length : Nat) : Int) 0 (ks.map fun j : Nat => D.int (j : Int)) = true := lot_of ks 0 (fun j hj => ⟨by omega, by have := lt j hj; omega⟩) pw
      have allI : (ks.map fun j : Nat => D.int (j : Int)).all isI = true := List.all_eq_true.mpr fun d hd => by
        obtain ⟨j, _, rfl⟩ := List.mem_map.mp hd
        rfl
      have hdp : ∀ q ∈ duePs st ks, q ∈ st.queue := fun q hq => by
        obtain ⟨j, hj, rfl⟩ := List.mem_map.mp hq
        have := lt j hj
        rw [List.getD_eq_getElem?_getD, List.getElem?_eq_getElem this]
        exact List.getElem_mem this
      have eq0 : keptP st (itemsOf μ3 (.lst (ks.map fun j : Nat => .int (j : Int)))) = duePs st ks := by
        show keptP st (ks.map fun j : Nat => D.int (j : Int)) = _
        unfold keptP duePs
        rw [List.map_map]
        rfl
      refine ⟨c, F', st, _, rfl, D3.C, ft.ok, ⟨⟨_, rfl⟩, fun _ => ⟨_, .inl (.inl rfl), by rw [List.length_map]; omega, fun d hd => ?_⟩⟩, .inr ⟨?_, fun μ4 F4 k4 w4 hC4 => ?_⟩⟩
      · obtain ⟨j, _, rfl⟩ := List.mem_map.mp hd
        exact ⟨_, rfl⟩
      · show lotB μ3 _ ((st.queue.length : Nat) : Int) = true
        unfold lotB intsB
        have it : itemsOf μ3 (.lst (ks.map fun j : Nat => .int (j : Int))) = ks.map fun j : Nat => .int (j : Int) := rfl
        have il : isLst μ3 (.lst (ks.map fun j : Nat => .int (j : Int))) = true := by simp [isLst, tyD]
        rw [it, il, allI, lot]; rfl
      rw [eq0] at hC4 ⊢
      have D4 := D3.comp k4 w4 hC4
      have S4 := D4.S
      have k4s := k4
      have sb4 : StB μ4 s p m kk w cc st := sb.keep k4 (fun x hx h => D3.FG x h (by rw [eG]; exact hx))
      have dl : (duePs st ks).length ≤ 100 := by unfold duePs; rw [List.length_map]; omega
      have shd := pairs_show (cs := duePs st ks) (fun q hq => ⟨⟨by have := ft.ok.qs q (hdp q hq); omega, by have := ft.ok.qs q (hdp q hq); omega⟩, (ft.ok.qs q (hdp q hq)).2.2⟩) (by omega)
      refine ⟨_, _, rfl, nofun, pairs_py, shd, ?_⟩
      refine ⟨s, p, m, kk, w, cc, st, _, duePs st ks, rfl, sb4, .inr rfl, fun q hq => ⟨(ft.ok.qs q (hdp q hq)).1, (ft.ok.qs q (hdp q hq)).2.1⟩, ft.ok.s, fun μ5 x5' k5 x50 b5 => ?_⟩
      refine ⟨_, _, rfl, nofun, pairs_py, shd, ?_⟩
      refine vEq_ss.mpr ⟨_, rfl, ?_⟩
      simp only [decide_true, Bool.not_true, if_true, Bool.false_eq_true, if_false]
      have D5 : Duo K μ μ5 F G a c s F4 [s, p, m, kk, x5', cc] (onS (setS st (duePs st ks))) { st with settled := (duePs st ks).foldl setP st.settled, queue := [] } (b + 60) := D4.own (k5.sub (by rw [eG]; simp)) (fun y hy => by
        rw [eG]
        simp only [List.mem_cons, List.not_mem_nil, or_false] at hy
        rcases hy with rfl | rfl | rfl | rfl | rfl | rfl
        all_goals first | exact .inr x50 | exact .inl (by simp)) ⟨p, m, kk, x5', cc, rfl, b5⟩
      refine (d_disk b5.hd).mpr ⟨kk, _, rfl, b5.hk, fun μ6 s6 p6 m6 w6 c6 k6 f6 b6 => ?_⟩
      have hs6 : μ6 s = some (.dic stKs (stDs st.at_ p m kk x5' cc)) := k6.at_ b5.hd (by simp)
      have fn : ∀ {x : Addr}, x ∈ [s6, p6, m6, w6, c6] → s ≠ x := fun hx e => by
        have := f6 _ hx
        rw [← e, b5.hd] at this
        cases this
      have ns : s6 ≠ s := Ne.symm (fn (by simp))
      have h6 : ∀ o, (μ6.set s o) s6 = some (.dic stKs (stDs 0 p6 m6 kk w6 c6)) := fun o => by rw [Mu.ne ns]; exact b6.hd
      refine ⟨sizeOk (by simp), ?_⟩
      simp only [forW]
      refine ⟨trivial, ?_⟩
      walk_at "wr"
      refine (d_at b6.hd).mpr (set_at hs6 ⟨trivial, ?_⟩)
      refine (d_stack (h6 _)).mpr (set_stack Mu.same ⟨trivial, ?_⟩)
      rw [Mu.set_set]
      refine (d_memory (h6 _)).mpr (set_memory Mu.same ⟨trivial, ?_⟩)
      rw [Mu.set_set]
      refine (d_waits (h6 _)).mpr (set_waits Mu.same ⟨trivial, ?_⟩)
      rw [Mu.set_set]
      refine (d_cards (h6 _)).mpr (set_cards Mu.same ⟨trivial, ?_⟩)
      rw [Mu.set_set]
      have nd6 := b6.ne
      obtain ⟨⟨q1, q2, q3, q4, q5⟩, qr⟩ := nd6
      have sk := b5.ne.1.2.2.1
      have sp := fn (x := p6) (by simp)
      have sm := fn (x := m6) (by simp)
      have sw := fn (x := w6) (by simp)
      have sc := fn (x := c6) (by simp)
      have b7 : StB (μ6.set s (.dic stKs (stDs 0 p6 m6 kk w6 c6))) s p6 m6 kk w6 c6 (onS (setS st (duePs st ks))) := by
        refine ⟨?_, Mu.same, by rw [Mu.ne (Ne.symm sp)]; exact b6.hp, by rw [Mu.ne (Ne.symm sm)]; exact b6.hm, by rw [Mu.ne (Ne.symm sk)]; exact b6.hk, by rw [Mu.ne (Ne.symm sw)]; exact b6.hw, by rw [Mu.ne (Ne.symm sc)]; exact b6.hc⟩
        have := b6.nd
        rw [List.nodup_cons] at this ⊢
        refine ⟨?_, this.2⟩
        simp only [List.mem_cons, List.not_mem_nil, or_false, not_or]
        exact ⟨sp, sm, sk, sw, sc⟩
      have D7 : Duo K μ (μ6.set s (.dic stKs (stDs 0 p6 m6 kk w6 c6))) F G a c s F4 [s, p6, m6, kk, w6, c6] (onS (setS st (duePs st ks))) (onS (setS st (duePs st ks))) (b + 60) := D5.own ((k6.sub (fun _ h => (nomatch h))).trans Nw.refl (Kp.set (by simp))) (fun y hy => by
        simp only [List.mem_cons, List.not_mem_nil, or_false] at hy
        rcases hy with rfl | rfl | rfl | rfl | rfl | rfl
        · exact .inl (by simp)
        · exact .inr (f6 _ (by simp))
        · exact .inr (f6 _ (by simp))
        · exact .inl (by simp)
        · exact .inr (f6 _ (by simp))
        · exact .inr (f6 _ (by simp))) ⟨p6, m6, kk, w6, c6, rfl, b7⟩
      have so := onS_okG (setS_ok ft.ok (ps := duePs st ks) fun q hq => (ft.ok.qs q (hdp q hq)).2.2)
      exact rest3 F4 _ _ _ _ _ _ _ _ _ (D7.mono (by omega)) ⟨so, rfl, by simp [onS], by simp [onS], ft.code, ⟨0, rfl, by omega⟩⟩)
    walk_at "wr"
    refine ite_sp (fun c4 => ?_) fun _ => rest2 F G st μ1 _ _ (D1.mono (by omega)) ft
    have c4 : way < 4 := by simpa using c4
    refine ⟨a, 5, b + 198, rfl, by decide, by decide, D1.mi, fun nn μ2 n0 n1 k2 m2 => ?_⟩
    refine ⟨a, 9, b + 197, rfl, by decide, by decide, m2, fun x μ3 x0 x1 k3 m3 => ?_⟩
    refine ⟨a, 99, b + 196, rfl, by decide, by decide, m3, fun y μ4 y0 y1 k4 m4 => ?_⟩
    have D4 := D1.draw ((k2.trans Nw.refl k3).trans Nw.refl k4) m4
    obtain ⟨n, rfl⟩ : ∃ n : Nat, nn = (n : Int) := ⟨nn.toNat, by omega⟩
    have hx : Sh x := ⟨by omega, by omega⟩
    have hy : Sh (y - 50) := ⟨by omega, by omega⟩
    have hz : Sh (2147483647 - way) := ⟨by omega, by omega⟩
    have C4 := D4.C
    obtain ⟨cs, ch, cp, cw, cq, cl, eF, cb⟩ := C4
    refine ⟨y, rfl, sizeOk (by simp), _, _, ⟨rfl, rfl⟩, _, _, cb.ins, by decide, ?_⟩
    have sq : SeqA μ4 (.lst [.int x, .int (y - 50), .int (2147483647 - way)]) [.int x, .int (y - 50), .int (2147483647 - way)] := .inl (.inl rfl)
    have sh3 := shorts3 sq (by simp [isLst, tyD]) ⟨_, rfl⟩ hx hy hz
    refine ⟨c, _, st, .int n, _, rfl, D4.C, ft.ok, ⟨_, rfl⟩, .inr ⟨n, rfl, by omega, sh3.1, .inr ⟨(x, y - 50, 2147483647 - way), sq, sh3.2, fun μ5 k5 hC5 => ?_⟩⟩⟩
    have D5 := D4.comp k5 Nw.refl hC5
    have S5 := D5.S
    obtain ⟨p, m, kk, w, cc, eG, sb⟩ := S5
    refine ⟨_, rfl, (d_cards sb.hd).mpr ?_⟩
    refine (vSet_iff sb.hc).mpr ⟨n, ixN_nat (by rw [List.length_map, ft.ok.l]; omega), ?_⟩
    have b6 := sb.setC (st.laid.set n (some (x, y - 50, 2147483647 - way)))
    rw [List.map_set] at b6
    have D6 := D5.own (so' := { st with laid := st.laid.set n (some (x, y - 50, 2147483647 - way)) }) (Kp.set (by rw [eG]; simp)) Nw.refl ⟨p, m, kk, w, cc, eG, b6⟩
    exact rest2 F G _ _ _ _ (D6.mono (by omega)) ⟨ft.ok.laid_ (n := n) (x := some (x, y - 50, 2147483647 - way)) (fun p hp => by cases hp; exact ⟨hx, hy, hz⟩), ft.wrt, ft.pl, ft.ql, ft.code, ft.at_⟩
theorem c__law_moment_right_4 {P : Program} {w : World} {K : PySem.W.Frag} {mg : Str → Option Value} {base : Heap} (T : Txt w K mg) : CanV P w K mg base CX0 [] 6 (He.ga K "_law_moment_right") 4 [] ([.inl 0, .inl 1, .inl 2, .inl 3].map (toArg [] [])) (sp__law_moment_right P w K mg base) :=
  canV_of (ps := ["_law_bench_here", "_law_computer", "_law_rows", "_law_state"]) [.inl 0, .inl 1, .inl 2, .inl 3] T.f__law_moment_right (b__law_moment_right T) (fun _ _ _ _ _ _ us ws h1 h2 => match us, ws, h1, h2 with | [_, _, _, _], [], _, _ => rfl) (by decide)
end K25

set_option maxRecDepth 100000
set_option maxHeartbeats 4000000
namespace K25
open PySem L2 FW VL

def d9 : D := .lst [.tup [.int 0, .int 9]]
theorem disk9 (μ : Mu) : DiskV μ d9 ∧ diskB μ d9 = true ∧ settledI μ d9 = (zeros 200).set 0 9 := by
  refine ⟨⟨⟨_, rfl⟩, fun _ => ⟨_, .inl (.inl rfl), by simp, fun d hd => ?_⟩⟩, ?_, rfl⟩
  · simp only [List.mem_cons, List.not_mem_nil, or_false] at hd
    subst hd
    refine ⟨⟨_, rfl⟩, fun _ => ⟨[.int 0, .int 9], rfl, fun e he => ?_⟩⟩
    simp only [List.mem_cons, List.not_mem_nil, or_false] at he
    rcases he with rfl | rfl <;> exact ⟨_, rfl⟩
  · have : manyOf [0] = 1 := by decide +kernel
    simp [d9, diskB, arePB, pairB, pairL, isLst, tyD, itemsOf, seqOf, within, isSh, fstI, this]
theorem new_compD {K : PySem.W.Frag} {μ : Mu} {ev : EV} {Ψ : Addr → Mu → Prop} {is : List Ins} {dv : D} {xs : List Int} (hall : is.all okIns = true) (hl : is.length ≤ 10000) (hd : ∀ c m, μ c = none → DiskV (μ.set c m) dv ∧ diskB (μ.set c m) dv = true ∧ settledI (μ.set c m) dv = xs)
    (k : ∀ c μ' F', μ c = none → Kp [] μ μ' → (∀ x ∈ F', μ x = none) → CompAt K μ' c F' (onS (preD is xs)) → Ψ c μ') :
    ∀ c, μ c = none → sp_Computer___init__ K [.ref c, codeD K is, dv] (μ.set c (.ins (cComp K) [] [])) ev fun d μ3 => d = .non ∧ Ψ c μ3 := fun c hc =>
  ⟨c, _, _, rfl, Mu.same, .inr ⟨is, rfl, hall, hl, (hd c _ hc).1, .inr ⟨(hd c _ hc).2.1, fun μ' F' k1 w1 hC => ⟨rfl, k c μ' F' hc (fun x _ hx => by
    have xc : x ≠ c := fun e => hx (by rw [e]; exact hc)
    rw [k1 x (by simpa using xc) (by rw [Mu.ne xc]; exact hx), Mu.ne xc]) (fun x hx => by
      rcases w1 x hx with z | z
      · rw [List.mem_singleton.mp z]; exact hc
      · exact (set_none z).2) (by rw [(hd c _ hc).2.2] at hC; exact hC)⟩⟩⟩⟩
theorem on_okX {is : List Ins} {xs : List Int} (hl : xs.length = 200) (hs : ∀ v ∈ xs, Sh v) : (onS (preD is xs)).Ok := ⟨by simp [onS], by simp [onS, zeros], hl, hl, by simp [onS], by simp [onS], fun v hv => (nomatch hv), zeros_sh, hs, hs, fun p hp => (nomatch hp), fun p hp => (nomatch (List.mem_replicate.mp hp).2), sh_zero⟩
/-- one of the two, k steps on -/
structure Side (K : PySem.W.Frag) (μ : Mu) (a c s : Addr) (F G : List Addr) (st : CS) (k : Nat) (is : List Ins) : Prop where
  C : CompAt K μ c F st
  S : StAt μ s G st
  aF : a ∉ F
  aG : a ∉ G
  FG : ∀ x ∈ F, x ∉ G
  ft : Fits k is st
def Dj (F1 G1 F2 G2 : List Addr) : Prop := ∀ x, x ∈ F1 ++ G1 → x ∉ F2 ++ G2
section
variable {P : Program} {w : World} {K : PySem.W.Frag} {mg : Str → Option Value} {base : Heap} {μ μ' : Mu} {ev : EV} {Φ : WK} {a c1 s1 c2 s2 : Addr} {F1 G1 F2 G2 : List Addr} {st1 st2 : CS} {k1 k2 b : Nat} {is : List Ins}
theorem Dj.symm (h : Dj F1 G1 F2 G2) : Dj F2 G2 F1 G1 := fun x h1 h2 => h x h2 h1
theorem Side.has (S : Side K μ a c1 s1 F1 G1 st1 k1 is) : ∀ x ∈ F1 ++ G1, μ x ≠ none := fun x hx => by
  rcases List.mem_append.mp hx with h | h
  · exact comp_has S.C x h
  · exact S.S.has x h
theorem Side.off (S : Side K μ a c1 s1 F1 G1 st1 k1 is) : a ∉ F1 ++ G1 := fun h => by
  rcases List.mem_append.mp h with h | h
  · exact S.aF h
  · exact S.aG h
theorem Side.keep {L : List Addr} (S : Side K μ a c1 s1 F1 G1 st1 k1 is) (k : Kp L μ μ') (n : ∀ x ∈ F1 ++ G1, x ∉ L) : Side K μ' a c1 s1 F1 G1 st1 k1 is :=
  ⟨comp_keep S.C k (fun x hx => n x (List.mem_append_left _ hx)), S.S.keep k (fun x hx => n x (List.mem_append_right _ hx)), S.aF, S.aG, S.FG, S.ft⟩
theorem Side.draw (S : Side K μ a c1 s1 F1 G1 st1 k1 is) (k : Kp [a] μ μ') : Side K μ' a c1 s1 F1 G1 st1 k1 is := S.keep k fun x hx h => S.off (by rw [← List.mem_singleton.mp h]; exact hx)
theorem moment_side (S1 : Side K μ a c1 s1 F1 G1 st1 k1 is) (S2 : Side K μ a c2 s2 F2 G2 st2 k2 is) (dj : Dj F1 G1 F2 G2) (mi : Mist μ a (b + 200)) (hr : rowsOk is) (hk : k1 ≤ 70)
    (k : ∀ μ' F' G' st', Side K μ' a c1 s1 F' G' st' (k1 + 1) is → Side K μ' a c2 s2 F2 G2 st2 k2 is → Dj F' G' F2 G2 → Mist μ' a b → Φ (.bl true) μ') : sp__law_moment_right P w K mg base [.ref a, .ref c1, .lst (is.map insD), .ref s1] μ ev Φ :=
  ⟨a, c1, s1, F1, G1, st1, is, k1, b, rfl, ⟨S1.C, S1.S, S1.aF, S1.aG, S1.FG, mi, Kp.refl, fun x hx => .inl (List.mem_append_left _ hx), fun x hx => .inl (List.mem_append_right _ hx)⟩, S1.ft, hk, hr, fun μ' F' G' st' D ft => k μ' F' G' st' ⟨D.C, D.S, D.aF, D.aG, D.FG, ft⟩ (S2.keep D.kp fun x hx h => by
    rcases List.mem_cons.mp h with e | h
    · exact S2.off (by rw [← e]; exact hx)
    · exact dj x h hx) (fun x hx h2 => by
    have : x ∈ F1 ++ G1 ∨ μ x = none := by
      rcases List.mem_append.mp hx with h | h
      · exact D.nF x h
      · exact D.nG x h
    rcases this with h | h
    · exact dj x h h2
    · exact S2.has x h2 h) D.mi⟩
end
def rowsP (is : List Ins) : PyData := .tuple (is.map pyIns)
theorem rows_py {μ : Mu} {is : List Ins} : toPyT μ (.tup (is.map insD)) = some (rowsP is) := by
  show toPy μ (.tup (is.map insD)) = _
  rw [toPy, toPys_ins]; rfl
theorem words_ok : ∀ w ∈ NUMS.map (·.1) ++ (PLAINW ++ SIGNW), PyData.showable (.str w) = true ∧ wt (.str w) ≤ 200 := by decide +kernel
theorem ins_sh {i : Ins} (h : InsK i) : ∀ n, i.2 = some n → Sh n := fun n e => by
  cases h with
  | push v h => cases e; exact h
  | plain w h => cases e
  | sign w h => cases e
  | _ => cases e; exact ⟨by omega, by omega⟩
theorem ins_show {i : Ins} (h : InsK i) : PyData.showable (pyIns i) = true ∧ PyData.depth (pyIns i) ≤ 1 ∧ wt (pyIns i) ≤ 3000 := by
  obtain ⟨h1, h2⟩ := words_ok _ (word_mem (insK_ok h))
  have h3 := ins_sh h
  obtain ⟨w, o⟩ := i
  cases o with
  | none =>
    refine ⟨?_, by simp only [pyIns, PyData.depth, PyData.depthAll]; decide, ?_⟩
    · show (PyData.showable (.str w) && true) = true
      rw [h1]; rfl
    · show (wt (.str w) + 2 + 0) + 4 ≤ 3000
      have : wt (.str w) ≤ 200 := h2
      omega
  | some n =>
    have hn := h3 n rfl
    refine ⟨?_, by simp only [pyIns, PyData.depth, PyData.depthAll]; decide, ?_⟩
    · show (PyData.showable (.str w) && (PyData.showable (.int n) && true)) = true
      rw [h1]
      simp only [PyData.showable, sh_log hn, decide_true, Bool.and_self]
    · show (wt (.str w) + 2 + (1921 + 2 + 0)) + 4 ≤ 3000
      have : wt (.str w) ≤ 200 := h2
      omega
theorem rows_all : ∀ is : List Ins, (∀ i ∈ is, InsK i) → PyData.showable (.tuple (is.map pyIns)) = true ∧ PyData.depthAll (is.map pyIns) ≤ 1 ∧ wts (is.map pyIns) ≤ 3002 * is.length
  | [], _ => ⟨rfl, by decide, by decide⟩
  | i :: is, h => by
    obtain ⟨h1, h2, h3⟩ := rows_all is fun j hj => h j (List.mem_cons_of_mem _ hj)
    obtain ⟨g1, g2, g3⟩ := ins_show (h i (List.mem_cons_self ..))
    refine ⟨?_, ?_, ?_⟩
    · show (PyData.showable (pyIns i) && PyData.showable (.tuple (is.map pyIns))) = true
      rw [g1, h1]; rfl
    · rw [List.map_cons]; simp only [PyData.depthAll]; omega
    · rw [List.map_cons, List.length_cons]
      show wt (pyIns i) + 2 + wts (is.map pyIns) ≤ _
      omega
theorem rows_show {is : List Ins} (h : ∀ i ∈ is, InsK i) (l : is.length ≤ 200) : ShowOk (rowsP is) := by
  obtain ⟨h1, h2, h3⟩ := rows_all is h
  refine showOk_of h1 (by simp only [rowsP, PyData.depth]; omega) ?_
  show wts (is.map pyIns) + 4 ≤ _
  omega
end K25

set_option maxRecDepth 100000
set_option maxHeartbeats 4000000
namespace K25
open PySem L2 FW VL
local macro_rules | `(tactic| walk_at "wr") => `(tactic| simp only [vInt_bl, iwR1, iwR2, iwM, List.set_cons_succ, wLenSet, wFor, wSetF, wAugF, wAug, wBM, wProp, wHeld, wVar, wC, wZ, wOp, wUn, wNil, wCons, wStar, wCB, wTup, wLst, wLstM, wTest, wAnd, wOr, VL.wNot, wAndV, wOrV, wNotV, wIf, wChain, wNoPart, wPart, wSl, wName, wGNil, wGCons, wGTup, wSub, wNext, VL.wSeq, wAsg, wDrop, wRet, wRetN, wIfS, wBreak, wCont, wPar, vI0, vI, vU, vAdd, vSub, vMul, vMod, vFdiv, vPow, vLt, vLe, vGt, vGe, vNeg, vIsN, vNotN, vAddA_ii, vMulA_ii, VL.wTru, iwL, iwT, wLc, vstart, List.map_cons, List.map_nil, List.cons_append, List.nil_append, List.set_cons_zero, List.set_cons_succ, List.getElem?_cons_zero, List.getElem?_cons_succ, Option.some.injEq, exists_eq_left, exists_eq_left', exists_eq', D.bl.injEq, D.int.injEq, D.str.injEq, D.tup.injEq, D.ref.injEq, List.cons.injEq, and_true, true_and, List.length_cons, List.length_nil, List.replicate, D.ty.injEq, exists_and_left, List.length, Nat.reduceAdd, wCall, wMake, wMeth, wFld, argsD, argD, toArg, List.getD_cons_zero, List.getD_cons_succ, List.map, iwS, vTupOf, Bool.false_eq_true, if_false, if_true, reduceIte, List.getElem?_nil, Nat.reduceSub, wipeR, vLen_lst, vLen_tup, vEq_ii, vEq_ss, vEq_bb, vIx_lst, vIx_tup, vIn_strs, vIn_s2, vIn_s3, vAll_map, vInK_s, vIxK_s, vInt_i, vAbs_i, atI_0, atI_1, atI_2, Bool.not_true, Bool.not_false, seqOf_lst, seqOf_tup, lstOf_lst, tupOf_tup, fzL_lst, N_is_list, N_is_integer, N_is_within, N_is_short, N_are_shorts, N_are_integers, N_is_lot, N_fixed, N_short_of, N_added, N_taken_from, N_multiplied, N_divided, N_left_over, N_is_less, N_is_equal, N_are_both, N_is_any, N_is_instruction, N_is_target_beyond, N_are_rows, N_Code___init__, N_Code___eq__, N_Code___iter__, N_push_short, N_popped, N_do_push, N_do_load, N_do_store, N_do_fetch, N_do_put, N_do_not, N_do_drop, N_do_copy, N_do_jump, N_do_unless, N_do_wait, N_do_sign, N_do_read, N_do_write, N_do_barrier, N_do_send, N_do_take, N_do_input, N_do_show, N_deed_of_row, N_is_disk_pair, N_are_disk_pairs, N_is_disk, N_Computer_power_on, N_Computer___init__, N_Computer_stack, N_Computer_disk, N_Computer_waiting, N_Computer_cards, N_Computer_memory, N_Computer_hand, N_Computer_cut, N_Computer_go, N_Computer_step, N__law_bench, N__law_turn, N__law_tool, N__law_wrap, N__law_signed, N__law_popped, N__law_written, N__law_settled, N__law_awake, N__law_outside, N__law_step, N__law_piece, N__law_is_so, N__law_moment_right, N_law, ofStr_inj, ofStr_beq, String.reduceEq, decide_true, decide_false, Bool.or_false, Bool.or_true, Bool.false_or, Bool.true_or, Bool.and_true, Bool.and_false, Bool.true_and, Bool.false_and, vModN, iwE, iwEM])

theorem vMulA_l {μ : Mu} {Φ : WK} {ds : List D} {n : Int} (h : vRep (.lst ds) (.int n) μ Φ) : vMulA (.lst ds) (.int n) μ Φ := by
  simp only [vMulA]
  exact h
theorem five {P : Program} {w : World} {K : PySem.W.Frag} {mg : Str → Option Value} {base : Heap} {DD : VEnds} {μ : Mu} {ev : EV} {a ca sa cb sb : Addr} {j : Int} {cs ss : List D} {F1 G1 F2 G2 : List Addr} {st1 st2 : CS} {k1 k2 b : Nat} {is : List Ins} {x0 x2 x4 x7 x9 x10 : Option D}
    (hc : atI cs j = some (.ref ca)) (hs : atI ss j = some (.ref sa)) (S1 : Side K μ a ca sa F1 G1 st1 k1 is) (S2 : Side K μ a cb sb F2 G2 st2 k2 is) (dj : Dj F1 G1 F2 G2) (mi : Mist μ a (b + 1000)) (hr : rowsOk is) (hk : k1 ≤ 60)
    (k : ∀ μ' F' G' st' x9, Side K μ' a ca sa F' G' st' (k1 + 5) is → Side K μ' a cb sb F2 G2 st2 k2 is → Dj F' G' F2 G2 → Mist μ' a b → DD.nx [x0, some (.ref a), x2, some (.lst (is.map insD)), x4, some (.lst cs), some (.lst ss), x7, some (.int j), x9, x10] μ') :
    forW noP (wName 9) (wIfS (VL.wNot (wTest (wCall (fun x => ev0) [VL.Arg.pos 0, VL.Arg.pos 1, VL.Arg.pos 2, VL.Arg.pos 3] (sp__law_moment_right P w K mg base) 4 0 (wCons (wVar 1) (wCons (wOp vIx (wVar 5) (wVar 8)) (wCons (wVar 3) (wCons (wOp vIx (wVar 6) (wVar 8)) wNil)))) wNil))) (wRet (wC (D.bl false))) wNext)
      DD ev ((List.range 5).map fun k : Nat => D.int (k : Int)) [x0, some (.ref a), x2, some (.lst (is.map insD)), x4, some (.lst cs), some (.lst ss), x7, some (.int j), x9, x10] μ := by
  refine forW_inv (fun i ρ μ' => ∃ (F1 G1 : List Addr) (st1 : CS) (x9 : Option D), ρ = [x0, some (.ref a), x2, some (.lst (is.map insD)), x4, some (.lst cs), some (.lst ss), x7, some (.int j), x9, x10] ∧ Side K μ' a ca sa F1 G1 st1 (k1 + i) is ∧ Side K μ' a cb sb F2 G2 st2 k2 is ∧ Dj F1 G1 F2 G2 ∧ Mist μ' a (b + 200 * (5 - i))) ?_ ?_ ⟨F1, G1, st1, x9, rfl, S1, S2, dj, mi⟩
  · rintro i d hd N ρ μ' hN ⟨F1, G1, st1, x9, rfl, S1, S2, dj, mi⟩
    obtain ⟨hin, rfl⟩ := range_get hd
    refine ⟨trivial, ?_⟩
    walk_at "wr"
    refine ⟨_, hc, _, hs, ?_⟩
    refine moment_side (b := b + 200 * (5 - (i + 1))) S1 S2 dj (mi.mono (by omega)) hr (by omega) fun μ2 F' G' st' T1 T2 dj' mi' => ?_
    refine ⟨_, rfl, ?_⟩
    simp only [Bool.not_true, Bool.false_eq_true, if_false]
    exact hN _ _ ⟨F', G', st', _, rfl, T1, T2, dj', mi'⟩
  · rintro ρ μ' ⟨F1, G1, st1, x9, rfl, S1, S2, dj, mi⟩
    exact ⟨trivial, k μ' F1 G1 st1 x9 S1 S2 dj (mi.mono (by omega))⟩
theorem mems {K : PySem.W.Frag} {Φ : WK} {μ : Mu} {a ca sa : Addr} {j : Int} {cs ss : List D} {F1 G1 : List Addr} {st1 : CS} {k1 : Nat} {is : List Ins} {x0 x1 x2 x3 x4 x7 x9 x10 : Option D} (hc : atI cs j = some (.ref ca)) (hs : atI ss j = some (.ref sa)) (S : Side K μ a ca sa F1 G1 st1 k1 is) {ds : List D}
    (hd : ∀ d ∈ ds, ∃ n : Nat, d = .int (n : Int) ∧ n < 1000) (hl : ds.length ≤ 1000) (q : ∀ Ds, μ Ds = none → Φ (.ref Ds) (μ.set Ds (.lst []))) :
    ∀ Ds, μ Ds = none → lcW noP (Pat.name 10) (wTest (wOp (vEq true) (wMeth (fun x => ev0) (He.ga K (Str.ofString "Computer")) (Str.ofString "memory") [VL.Arg.pos 0, VL.Arg.pos 1] (sp_memory K) 1 0 (wOp vIx (wVar 5) (wVar 8)) (wCons (wVar 10) wNil) wNil) (wOp vIx (wOp vDIx (wOp vIx (wVar 6) (wVar 8)) (wC (D.str (Str.ofString "memory")))) (wVar 10)))) (wVar 10) [10]
      [x0, x1, x2, x3, x4, some (.lst cs), some (.lst ss), x7, some (.int j), x9, x10] ev0 Ds Φ ds (μ.set Ds (.lst [])) := by
  refine lcf (fun _ => false) id (sizeOk (by omega)) (fun Ds l nD => trivial) (fun d hd' => ?_) fun Ds2 nD2 => ?_
  · obtain ⟨n, rfl, hn⟩ := hd d hd'
    refine ⟨_, rfl, fun Ds l nD => ⟨fun Ψ q => ?_, fun e => (nomatch e)⟩⟩
    have S2 := S.keep (Kp.new (F := []) (m := .lst l) nD) (fun _ _ => by simp)
    have C2 := S2.C
    obtain ⟨cs', ch, cp, cw, cq, cl, eF, cb⟩ := C2
    have T2 := S2.S
    obtain ⟨p, m, kk, w, cc, eG, sb⟩ := T2
    walk_at "wr"
    refine ⟨_, hc, _, _, cb.ins, by decide, ?_⟩
    refine ⟨_, ca, F1, st1, rfl, ⟨_, rfl⟩, S2.C, S2.ft.ok, .inr ⟨n, rfl, hn, ?_⟩⟩
    refine ⟨_, hs, (d_memory sb.hd).mpr ?_⟩
    simp only [vIx_iff (seqOf_of sb.hm)]
    refine ⟨.int (st1.held.getD n 0), atI_nat (by rw [List.getElem?_map, List.getD_eq_getElem?_getD, List.getElem?_eq_getElem (by rw [S2.ft.ok.h]; exact hn)]; rfl), ?_⟩
    simp only [vEq_ii]
    refine ⟨_, rfl, ?_⟩
    simpa using q
  · have := q Ds2 nD2
    rw [show ((ds.filter fun _ => false).map id) = [] by simp]
    exact this
theorem range_in {n c : Nat} (h : n * c ≤ 1000) (hc : 0 < c) : ∀ d ∈ (List.range n).map (fun k : Nat => D.int (0 + (k : Int) * (c : Int))), ∃ m : Nat, d = .int (m : Int) ∧ m < 1000 := fun d hd => by
  obtain ⟨k, hk, rfl⟩ := List.mem_map.mp hd
  refine ⟨k * c, by simp, ?_⟩
  have hk := List.mem_range.mp hk
  have : k * c < n * c := Nat.mul_lt_mul_of_pos_right hk hc
  omega
def sp_law : VSp := fun ds μ ev Φ => ∃ ns : List Int, ds = [.sq (ns.map .int)] ∧ ∀ μ', Φ (.bl true) μ'
theorem b_law {P : Program} {w : World} {K : PySem.W.Frag} {mg : Str → Option Value} {base : Heap} (T : Txt w K mg) : ∀ fd, FunD K "law" "law" (defArgs s_law) (defBody s_law) (defScope s_law) [] [] (He.ga K "law") fd → FnG P w K mg base CX0 9 (He.ga K "law") fd ["_law_script"] (lift K [] (sp_law)) := by
  intro fd F
  refine fun_okD (N := N_law) F sc_law (fun ds μ ev Φ h => ?size) (fun cdv A outer s H E hG hr => ⟨_, (vss_cons (vs_set (i := 1) sc_law.nd rfl (Or.inl rfl) (ve_call T.g__law_bench (c__law_bench_1 T) hG hr (by decide) pass0 sel_0 rfl (va_cons (vv 0) va_nil) vk_nil))
 (vss_cons (vs_par (ps_par (i := 2) (j := 3) rfl sc_law.nd rfl rfl (by decide) rfl rfl (va_cons (ve_op op_addA s_addA ve_int (ve_call T.g__law_turn (c__law_turn_2 T) hG hr (by decide) pass0 sel_0 rfl (va_cons (vv 1) (va_cons ve_int va_nil)) vk_nil)) (va_cons (ve_lst va_nil) va_nil)) (by rfl)))
 (vss_cons (vs_while (passes_of rfl) (vt_cmp op_lt s_lt (ve_callB call_lenA s_len (by rfl) T.b_len (by decide +kernel) (va_cons (vv 3) va_nil)) (vv 2) (nomark _))
 (vss_one (vs_set (i := 3) sc_law.nd rfl (Or.inl rfl) (ve_op op_addA s_addA (vv 3) (ve_call T.g__law_piece (c__law_piece_2 T) hG hr (by decide) pass0 sel_0 rfl (va_cons (vv 1) (va_cons (vv 2) va_nil)) vk_nil)))))
 (vss_cons (vs_set (i := 4) sc_law.nd rfl (Or.inl rfl) (ve_z (ve_make T.mk_Code T.g_Code (c_Code___init___2 T) hG hr (by decide) pass0 sel_0 rfl (va_cons (vv 3) va_nil) vk_nil)))
 (vss_cons (vs_asg (ve_tup (va_cons (ve_lst (va_cons (ve_make T.mk_Computer T.g_Computer (c_Computer___init___2 T) hG hr (by decide) passL sel_0 rfl (va_cons (vv 4) va_nil) vk_nil) (va_cons (ve_make T.mk_Computer T.g_Computer (c_Computer___init___3 T) hG hr (by decide) passL sel_0 rfl (va_cons (vv 4) (va_cons (ve_lst (va_cons (ve_tup (va_cons ve_int (va_cons ve_int va_nil))) va_nil)) va_nil)) vk_nil) va_nil))) (va_cons (ve_lst (va_cons (ve_call T.g__law_awake (c__law_awake_1 T) hG hr (by decide) pass0 sel_0 rfl (va_cons (ve_op op_rep s_repM (ve_lst (va_cons ve_int va_nil)) ve_int) va_nil) vk_nil) (va_cons (ve_call T.g__law_awake (c__law_awake_1 T) hG hr (by decide) pass0 sel_0 rfl (va_cons (ve_op op_cat s_catM (ve_lst (va_cons ve_int va_nil)) (ve_op op_mulA s_mulA (ve_lst (va_cons ve_int va_nil)) ve_int)) va_nil) vk_nil) va_nil))) va_nil))) (vg_tup (fun _ h => pg_tup (n := 2) rfl h) (vgs_cons (vg_name (i := 5) sc_law.nd rfl (Or.inr rfl)) (vgs_cons (vg_name (i := 6) sc_law.nd rfl (Or.inr rfl)) vgs_nil))))
 (vss_cons (vs_for (passes_of rfl) rfl (vi_range1 (by rfl) T.b_range (va_cons (ve_call T.g__law_tool (c__law_tool_2 T) hG hr (by decide) pass0 sel_0 rfl (va_cons (vv 1) (va_cons (ve_lst (va_cons ve_int (va_cons ve_int (va_cons ve_int (va_cons ve_int (va_cons ve_int va_nil)))))) va_nil)) vk_nil) va_nil)) (vg_name (i := 7) sc_law.nd rfl (Or.inl rfl))
 (vss_one (vs_for (passes_of rfl) rfl (vi_tup (ve_tup (va_cons ve_int (va_cons ve_int va_nil)))) (vg_name (i := 8) sc_law.nd rfl (Or.inr rfl))
 (vss_one (vs_for (passes_of rfl) rfl (vi_range1 (by rfl) T.b_range (va_cons ve_int va_nil)) (vg_name (i := 9) sc_law.nd rfl (Or.inl rfl))
 (vss_one (vs_if (vt_not (vt_val (ve_call T.g__law_moment_right (c__law_moment_right_4 T) hG hr (by decide) pass0 sel_0 rfl (va_cons (vv 1) (va_cons (ve_ix ix_seq s_ix (vv 5) (vv 8)) (va_cons (vv 3) (va_cons (ve_ix ix_seq s_ix (vv 6) (vv 8)) va_nil)))) vk_nil)))
 (vss_one (vs_ret ve_bl))
 vss_nil)))))))
 (vss_cons (vs_for (passes_of rfl) rfl (vi_tup (ve_tup (va_cons ve_int (va_cons ve_int va_nil)))) (vg_name (i := 8) sc_law.nd rfl (Or.inr rfl))
 (vss_one (vs_if (vt_cmp (op_neA hr.units) s_ne (ve_z (ve_lc (own := [("_law_spot", 10)]) (p := (.name 10)) rfl sc_law.nd (vi_range3 (by rfl) T.b_range (va_cons ve_int (va_cons ve_int (va_cons (ve_if (vt_cmp (op_eqA hr.units) s_eq (vv 8) ve_int (nomark _)) ve_int ve_int) va_nil)))) (blkOk_by (N := N_law) (sc := defScope s_law) (by decide +kernel)) (fun _ _ _ _ _ => pg_name (i := 10) sc_law.nd rfl (Or.inl rfl)) (fun _ _ _ _ _ => (vts_one (vt_cmp (op_neA hr.units) s_ne (ve_meth T.cl_Computer T.m_Computer_memory (c_Computer_memory_2 (P := P) (base := base) T) hG hr (by decide) passL sel_0 (ve_ix ix_seq s_ix (vv 5) (vv 8)) (va_cons (vv 10) va_nil) vk_nil) (ve_ix ix_seq s_ix (ve_dget (units1 hr) (ve_ix ix_seq s_ix (vv 6) (vv 8)) ve_str) (vv 10)) (nomark _)))) (fun _ _ _ _ _ => (vv 10)) (by decide))) (ve_lst va_nil) (nomark _))
 (vss_one (vs_ret ve_bl))
 vss_nil)))
 (vss_one (vs_ret (ve_and (ve_cmp (op_eqA hr.units) s_eq (ve_callB (call_showA hG hr.units) s_repr (by rfl) T.b_repr (by decide +kernel) (va_cons (ve_fld T.cl_Code T.n_Code_rows (vv 4)) va_nil)) (ve_callB (call_showA hG hr.units) s_repr (by rfl) T.b_repr (by decide +kernel) (va_cons (ve_callTy call_tuple_of s_tuple (by rfl) T.b_tuple (by decide +kernel) (va_cons (vv 3) va_nil)) va_nil)) (nomark _)) (ve_one (ve_cmp (op_eqO (spec_Code_eq T) hG (hr.mono (by decide))) s_eqO (ve_fld T.cl_Computer T.n_Computer_code (ve_ix ix_seq s_ix (vv 5) ve_int)) (vv 4) (nomark _))))))))))))), fun ds μ ev Φ h => ?_⟩)
  · obtain ⟨ns, rfl, _⟩ := h; rfl
  · obtain ⟨ns, rfl, k⟩ := h
    simp only [cx_K, cx_P, cx_w, cx_m, cx_b]
    walk_at "wr"
    refine ⟨ns, rfl, fun a cs ha => ?_⟩
    have hm0 : Mist (μ.set a (mistO cs 0 0)) a 90000 := ⟨cs, 0, 0, Mu.same, by decide⟩
    generalize μ.set a (mistO cs 0 0) = μ0 at hm0
    refine ⟨a, 45, 89999, rfl, by decide, by decide, hm0, fun v μ1 v0 v1 k1 m1 => ?_⟩
    try walk_at "wr"
    refine ⟨sizeOk (by simp), _, _, ⟨rfl, rfl⟩, ?_⟩
    obtain ⟨m, hm, m8, m52⟩ : ∃ m : Nat, 8 + v = (m : Int) ∧ 8 ≤ m ∧ m ≤ 52 := ⟨(8 + v).toNat, by omega, by omega, by omega⟩
    rw [hm]
    refine ⟨fun j ρ μ' => ∃ is : List Ins, ρ = [some (.sq (ns.map .int)), some (.ref a), some (.int (m : Int)), some (.lst (is.map insD)), none, none, none, none, none, none, none] ∧ j = 100 - is.length ∧ is.length ≤ m + 4 ∧ (∀ i ∈ is, Okp m i) ∧ Mist μ' a (80000 - 50 * is.length), ⟨_, [], rfl, rfl, by simp, by simp, m1.mono (by simp)⟩, ?_⟩
    rintro j ρ μ2 ⟨is, rfl, rfl, hl, hok, m2⟩
    walk_at "wr"
    refine ite_sp (fun c1 => ?_) fun c1 => ?_
    · have c1 : is.length < m := by
        have := of_decide_eq_true c1
        rw [List.length_map] at this
        omega
      refine ⟨a, m, 80000 - 50 * is.length - 20, rfl, by omega, m2.mono (by omega), fun js μ3 l1 l2 hj k3 m3 => ?_⟩
      refine vAddA_ll.mpr ⟨by rw [List.length_map, List.length_map, sizeLine_eq]; omega, ?_⟩
      rw [← List.map_append]
      refine ⟨100 - (is ++ js).length, by rw [List.length_append]; omega, is ++ js, rfl, rfl, by rw [List.length_append]; omega, fun i hi => ?_, m3.mono (by rw [List.length_append]; omega)⟩
      rcases List.mem_append.mp hi with h | h
      · exact hok i h
      · exact hj i h
    have c1 : ¬ is.length < m := by
      have := of_decide_eq_false c1
      rw [List.length_map] at this
      omega
    have hrow : rowsOk is := ⟨by omega, fun i hi => ⟨(hok i hi).1, fun n e h => by have := (hok i hi).2 n e h; omega⟩⟩
    obtain ⟨r1, r2, r3, r4⟩ := rows_code (is := is) (by omega) (by omega) (fun i hi => insK_ok (hrow.2 i hi).1) (fun i hi => (hrow.2 i hi).2)
    intro x nx
    refine ⟨x, _, rfl, r1, r2, Mu.same, rfl, _, frzOf_ins Mu.same, ?_⟩
    rw [Mu.set_set, Mu.del_set nx, r3]
    have hl2 := hrow.1
    refine new_comp r4 (by omega) fun c1 μ3 F1 nc1 k3 nF1 hC1 => ?_
    refine ⟨sizeOk (by simp), sizeOk (by simp), ?_⟩
    have dk := fun c m (_ : μ3 c = none) => disk9 (μ3.set c m)
    refine new_compD r4 (by omega) dk fun c2 μ4 F2 nc2 k4 nF2 hC2 => ?_
    have m4 := (m2.keep k3 (by simp)).keep k4 (by simp)
    refine ⟨sizeOk (by simp), sizeOk (by simp), (vRepM_iff rfl (by decide) (by decide) (by rw [sizeLine_eq]; simp)).mpr fun e1 ne1 => ?_⟩
    have z1 : (List.replicate (Int.toNat 200) [D.int 0]).flatten = (zeros 200).map D.int := by rw [rep1]; unfold zeros; rw [List.map_replicate]; rfl
    rw [z1]
    refine ⟨e1, zeros 200, rfl, Mu.same, fun μ6 s1 p1 q1 w1 d1 k6 f6 b6 => ?_⟩
    refine ⟨sizeOk (by simp), sizeOk (by simp), vMulA_l ⟨_, 199, rfl, rfl, by decide, by decide, by rw [sizeLine_eq]; simp, ?_⟩⟩
    have z2 : (List.replicate (Int.toNat 199) [D.int 0]).flatten = (zeros 199).map D.int := by rw [rep1]; unfold zeros; rw [List.map_replicate]; rfl
    rw [z2]
    refine ⟨[.int 9], _, rfl, rfl, by rw [sizeLine_eq]; simp [zeros], fun e2 ne2 => ?_⟩
    have z3 : [D.int 9] ++ (zeros 199).map D.int = ((zeros 200).set 0 9).map D.int := rfl
    rw [z3]
    refine ⟨e2, (zeros 200).set 0 9, rfl, Mu.same, fun μ8 s2 p2 q2 w2 d2 k8 f8 b8 => ?_⟩
    have k46 : Kp [] μ4 μ6 := (Kp.new ne1).trans Nw.refl k6
    have k68 : Kp [] μ6 μ8 := (Kp.new ne2).trans Nw.refl k8
    have m6 := m4.keep k46 (by simp)
    have m8 := m6.keep k68 (by simp)
    have nn : ∀ {μ : Mu} {b : Nat}, Mist μ a b → ∀ {x : Addr}, μ x = none → a ≠ x := fun h _ hx => h.ne hx
    have C14 : CompAt K μ4 c1 F1 (onS (preS is)) := comp_keep hC1 k4 (fun _ _ => by simp)
    have C16 := comp_keep C14 k46 (fun _ _ => by simp)
    have C18 := comp_keep C16 k68 (fun _ _ => by simp)
    have C26 := comp_keep hC2 k46 (fun _ _ => by simp)
    have C28 := comp_keep C26 k68 (fun _ _ => by simp)
    have g1 : ∀ x ∈ [s1, p1, q1, e1, w1, d1], μ4 x = none := fun x hx => by
      simp only [List.mem_cons, List.not_mem_nil, or_false] at hx
      rcases hx with rfl | rfl | rfl | rfl | rfl | rfl
      · exact (set_none (f6 _ (by simp))).2
      · exact (set_none (f6 _ (by simp))).2
      · exact (set_none (f6 _ (by simp))).2
      · exact ne1
      · exact (set_none (f6 _ (by simp))).2
      · exact (set_none (f6 _ (by simp))).2
    have g2 : ∀ x ∈ [s2, p2, q2, e2, w2, d2], μ6 x = none := fun x hx => by
      simp only [List.mem_cons, List.not_mem_nil, or_false] at hx
      rcases hx with rfl | rfl | rfl | rfl | rfl | rfl
      · exact (set_none (f8 _ (by simp))).2
      · exact (set_none (f8 _ (by simp))).2
      · exact (set_none (f8 _ (by simp))).2
      · exact ne2
      · exact (set_none (f8 _ (by simp))).2
      · exact (set_none (f8 _ (by simp))).2
    have b68 : StB μ8 s1 p1 q1 e1 w1 d1 (awS (zeros 200)) := b6.keep k68 (fun _ _ => by simp)
    have ft1 : Fits 0 is (onS (preS is)) := ⟨onS_ok is, rfl, by simp [onS], by simp [onS], rfl, ⟨0, rfl, by omega⟩⟩
    have ft2 : Fits 0 is (onS (preD is ((zeros 200).set 0 9))) := ⟨on_okX (by simp [zeros]) (set_sh zeros_sh ⟨by decide, by decide⟩), rfl, by simp [onS], by simp [onS], rfl, ⟨0, rfl, by omega⟩⟩
    have S1 : Side K μ8 a c1 s1 F1 [s1, p1, q1, e1, w1, d1] (onS (preS is)) 0 is := ⟨C18, StAt.same ⟨_, _, _, _, _, rfl, b68⟩ ⟨rfl, rfl, rfl, rfl, rfl, rfl⟩, fun h => nn m2 (nF1 a h) rfl, fun h => nn m4 (g1 a h) rfl, fun x h1 h2 => comp_has C14 x h1 (g1 x h2), ft1⟩
    have S2 : Side K μ8 a c2 s2 F2 [s2, p2, q2, e2, w2, d2] (onS (preD is ((zeros 200).set 0 9))) 0 is := ⟨C28, StAt.same ⟨_, _, _, _, _, rfl, b8⟩ ⟨rfl, rfl, rfl, rfl, rfl, rfl⟩, fun h => nn (m2.keep k3 (by simp)) (nF2 a h) rfl, fun h => nn m6 (g2 a h) rfl, fun x h1 h2 => comp_has C26 x h1 (g2 x h2), ft2⟩
    have dj : Dj F1 [s1, p1, q1, e1, w1, d1] F2 [s2, p2, q2, e2, w2, d2] := fun x h1 h2 => by
      rcases List.mem_append.mp h1 with h1 | h1 <;> rcases List.mem_append.mp h2 with h2 | h2
      · exact comp_has hC1 x h1 (nF2 x h2)
      · exact comp_has C16 x h1 (g2 x h2)
      · exact comp_has hC2 x h2 (g1 x h1)
      · exact b6.has x h1 (g2 x h2)
    clear C14 C16 C18 C26 C28 g1 g2 b68 ft1 ft2 b6 b8 f6 f8 k46 k68 nF1 nF2 hC1 hC2
    refine ⟨sizeOk (by simp), sizeOk (by simp), _, _, ⟨rfl, rfl⟩, _, _, rfl, rfl, sizeOk (by simp), ?_⟩
    refine ⟨a, _, 70000, rfl, by simp, by simp, m8.mono (by omega), fun e μ9 he k9 m9 => ?_⟩
    have S1 := S1.draw k9
    have S2 := S2.draw k9
    obtain ⟨n, rfl, hn⟩ : ∃ n : Nat, e = .int (n : Int) ∧ n ≤ 12 := by
      simp only [List.mem_cons, List.not_mem_nil, or_false] at he
      rcases he with rfl | rfl | rfl | rfl | rfl
      · exact ⟨2, rfl, by decide⟩
      · exact ⟨12, rfl, by decide⟩
      · exact ⟨12, rfl, by decide⟩
      · exact ⟨9, rfl, by decide⟩
      · exact ⟨12, rfl, by decide⟩
    refine ⟨_, rfl, by omega, by omega, ?_⟩
    rw [Int.toNat_natCast]
    refine forW_inv (fun i ρ μ' => ∃ (F1 G1 F2 G2 : List Addr) (st1 st2 : CS) (x7 x8 x9 : Option D), ρ = [some (.sq (ns.map .int)), some (.ref a), some (.int (m : Int)), some (.lst (is.map insD)), some (codeD K is), some (.lst [.ref c1, .ref c2]), some (.lst [.ref s1, .ref s2]), x7, x8, x9, none] ∧ Side K μ' a c1 s1 F1 G1 st1 (5 * i) is ∧ Side K μ' a c2 s2 F2 G2 st2 (5 * i) is ∧ Dj F1 G1 F2 G2 ∧ Mist μ' a (10000 + 2000 * (n - i))) ?_ ?_ ⟨_, _, _, _, _, _, _, _, _, rfl, S1, S2, dj, m9.mono (by omega)⟩
    · clear S1 S2 dj m8 m9 m4 m6 m2
      rintro i d hd N ρ μ' hN ⟨F1, G1, F2, G2, st1, st2, x7, x8, x9, rfl, S1, S2, dj, mi⟩
      obtain ⟨hin, rfl⟩ := range_get hd
      refine ⟨trivial, ?_⟩
      walk_at "wr"
      refine ⟨sizeOk (by simp), ?_⟩
      simp only [forW]
      refine ⟨trivial, ?_⟩
      walk_at "wr"
      refine ⟨by decide, by decide, ?_⟩
      refine five (k2 := 5 * i) (b := 10000 + 2000 * (n - (i + 1)) + 1000) atI_0 atI_0 S1 S2 dj (mi.mono (by omega)) hrow (by omega) fun μ2 F1' G1' st1' x9' T1 T2 dj1 m1 => ?_
      refine ⟨trivial, ?_⟩
      try walk_at "wr"
      refine ⟨by decide, by decide, ?_⟩
      refine five (b := 10000 + 2000 * (n - (i + 1))) atI_1 atI_1 T2 T1 dj1.symm (m1.mono (by omega)) hrow (by omega) fun μ3 F2' G2' st2' x9'' U2 U1 dj2 m2 => ?_
      refine ⟨trivial, ?_⟩
      exact hN _ _ ⟨_, _, _, _, _, _, _, _, _, rfl, U1, U2, dj2.symm, m2⟩
    · clear S1 S2 dj m8 m9 m4 m6 m2
      rintro ρ μ' ⟨F1, G1, F2, G2, st1, st2, x7, x8, x9, rfl, S1, S2, dj, mi⟩
      refine ⟨trivial, ?_⟩
      walk_at "wr"
      refine ⟨sizeOk (by simp), ?_⟩
      simp only [forW]
      refine ⟨trivial, ?_⟩
      walk_at "wr"
      simp only [iwR3]
      walk_at "wr"
      have nn : ∀ μ : Mu, eqD μ (.lst []) (.lst []) = some true := fun μ => eqD_nil (cs := []) rfl (.inr ⟨_, rfl⟩)
      refine ⟨0, 1000, 1, ⟨rfl, rfl, rfl⟩, 1000, ⟨by decide, by decide, by decide, by decide⟩, ?_⟩
      refine mems atI_0 atI_0 S1 (range_in (n := 1000) (c := 1) (by decide) (by decide)) (by simp) fun Ds nD => ?_
      refine ⟨Ds, rfl, _, frzOf_lst Mu.same, sizeOk (by simp), ?_⟩
      rw [Mu.del_set nD]
      refine (vEq_iff (nn _)).mpr ⟨_, rfl, ?_⟩
      simp only [Bool.not_true, if_true, Bool.false_eq_true, if_false]
      refine ⟨trivial, ?_⟩
      refine ⟨0, 1000, 5, ⟨rfl, rfl, rfl⟩, 200, ⟨by decide, by decide, by decide, by decide⟩, ?_⟩
      refine mems atI_1 atI_1 S2 (range_in (n := 200) (c := 5) (by decide) (by decide)) (by simp) fun Ds nD => ?_
      refine ⟨Ds, rfl, _, frzOf_lst Mu.same, sizeOk (by simp), ?_⟩
      rw [Mu.del_set nD]
      refine (vEq_iff (nn _)).mpr ⟨_, rfl, ?_⟩
      simp only [Bool.not_true, if_true, Bool.false_eq_true, if_false]
      refine ⟨trivial, ?_⟩
      have rsh := rows_show (is := is) (fun i hi => (hrow.2 i hi).1) hrow.1
      refine ⟨_, _, rfl, _, rfl, ?_⟩
      refine ⟨_, rowsP is, rfl, nofun, rows_py, rsh, _, rowsP is, rfl, nofun, rows_py, rsh, ?_⟩
      refine vEq_ss.mpr ⟨_, rfl, ?_⟩
      simp only [decide_true, Bool.not_true, if_true, Bool.false_eq_true, if_false]
      have C1 := S1.C
      obtain ⟨cs', ch, cp, cw, cq, cl, eF, cb⟩ := C1
      have ec := S1.ft.code
      refine ⟨_, _, cb.ins, _, rfl, ?_⟩
      rw [ec]
      refine ⟨_, _, _, _, rfl, rfl, ?_⟩
      refine ⟨_, _, is, is, rfl, rfl, rfl, r4, r4, _, rfl, ?_⟩
      simp only [decide_true, Bool.false_eq_true, if_false]
      exact k μ'
end K25

set_option maxRecDepth 100000
set_option maxHeartbeats 0
namespace K25
open PySem L2 FW VL PyProof.Rows
section
variable {P : Program} {w : World} {K : PySem.W.Frag} {mg : Str → Option Value} {base h : Heap}
theorem ok_init_BadNumber {P : Program} {w : World} {K : PySem.W.Frag} {mg : Str → Option Value} {base : Heap} (d : He.SaysD fa fn K) : ∃ (fd : FuncData) (ps : List Str), FnOk P w K mg base CX0 1 (He.ma K (He.ga K "BadNumber") "__init__") fd ps (spInit1 K (He.ga K "BadNumber") "part") ∧ Binds K fd ps [] := by
  obtain ⟨fd, F⟩ := d.def_ 71 (d := dIn "BadNumber" "__init__" s_BadNumber_init) rfl
  have F2 : Fun K "__init__" _ s_BadNumber_init _ fd := fun_of (st := s_BadNumber_init) F
  exact ⟨fd, [("self" : Str), "part"], init1_ok (p := "part") F2 sc_BadNumber_init (fun X hN hS => pss_one (ps_ost (pv 0 (by rw [hN]; rfl) (by rw [hS]; exact .inl (by decide +kernel))) (pv 1 (by rw [hN]; rfl) (by rw [hS]; exact .inl (by decide +kernel))))), F2.binds fun _ _ _ _ _ _ us hl => match us, hl with | [_, _], _ => rfl⟩
theorem ok_init_BadCode {P : Program} {w : World} {K : PySem.W.Frag} {mg : Str → Option Value} {base : Heap} (d : He.SaysD fa fn K) : ∃ (fd : FuncData) (ps : List Str), FnOk P w K mg base CX0 1 (He.ma K (He.ga K "BadCode") "__init__") fd ps (spInit1 K (He.ga K "BadCode") "part") ∧ Binds K fd ps [] := by
  obtain ⟨fd, F⟩ := d.def_ 72 (d := dIn "BadCode" "__init__" s_BadCode_init) rfl
  have F2 : Fun K "__init__" _ s_BadCode_init _ fd := fun_of (st := s_BadCode_init) F
  exact ⟨fd, [("self" : Str), "part"], init1_ok (p := "part") F2 sc_BadCode_init (fun X hN hS => pss_one (ps_ost (pv 0 (by rw [hN]; rfl) (by rw [hS]; exact .inl (by decide +kernel))) (pv 1 (by rw [hN]; rfl) (by rw [hS]; exact .inl (by decide +kernel))))), F2.binds fun _ _ _ _ _ _ us hl => match us, hl with | [_, _], _ => rfl⟩
theorem txt (X : K.In h) (G : h.Ns mainGlobals mg) (c : He.SaysX fa fn ts [] ex w h K) (z : prW K prs = prs.map Pr.fw) : Txt w K mg := by
  have d := c.t.d
  have xs := c.more
  unfold ex at xs
  simp only [Bool.and_eq_true, decide_eq_true_eq] at xs
  obtain ⟨ex0, ex1, ex2, ex3, ex5, ex4, ex6, ex7, ex8, ex9, ex10, ex11, ex13, ex14, ex15⟩ := xs
  have pr : ∀ (i : Nat) {p : Pr}, prs[i]? = some p → PropOf K (He.ga K p.C) p.f (propP K (He.ga K p.C) p.f) (propG K (He.ga K p.C) p.f) ∧ ∃ fd, FunD K p.f p.q (defArgs p.st) (defBody p.st) (defScope p.st) [] [] (propG K (He.ga K p.C) p.f) fd := fun i p hi => by
    have q := propB_ok (List.all_eq_true.mp ex0 p (List.mem_of_getElem? hi))
    obtain ⟨fd, F⟩ := got_fun q.2 (prW_at i z hi)
    exact ⟨q.1, fd, fund_of F⟩
  exact {
    b_abs := free_at X G d 0 rfl
    b_all := free_at X G d 1 rfl
    b_any := free_at X G d 2 rfl
    b_bool := free_at X G d 3 rfl
    b_enumerate := free_at X G d 4 rfl
    b_int := free_at X G d 5 rfl
    b_isinstance := free_at X G d 6 rfl
    b_iter := free_at X G d 7 rfl
    b_len := free_at X G d 8 rfl
    b_list := free_at X G d 9 rfl
    b_range := free_at X G d 10 rfl
    b_repr := free_at X G d 11 rfl
    b_set := free_at X G d 12 rfl
    b_str := free_at X G d 13 rfl
    b_tuple := free_at X G d 14 rfl
    cl_Code := He.cls_ok (d.fact 15 (f := .cls "Code") rfl)
    cl_Computer := He.cls_ok (d.fact 16 (f := .cls "Computer") rfl)
    g_ACTS := glo_at X G d 17 rfl
    g_Code := glo_at X G d 18 rfl
    g_Computer := glo_at X G d 19 rfl
    g_DEEDS := glo_at X G d 20 rfl
    g_LEAST_SHORT := int_at X G d 21 rfl
    g_MOST_CARDS := int_at X G d 22 rfl
    g_MOST_DISK := int_at X G d 23 rfl
    g_MOST_MEMORY := int_at X G d 24 rfl
    g_MOST_ROWS := int_at X G d 25 rfl
    g_MOST_SHORT := int_at X G d 26 rfl
    g_MOST_STACK := int_at X G d 27 rfl
    g_MOST_WAITING := int_at X G d 28 rfl
    g_NUMBERS := glo_at X G d 29 rfl
    g_PLAIN := ⟨_, glo_at X G d 30 rfl, rfl⟩
    g_SIGNS := ⟨_, glo_at X G d 31 rfl, rfl⟩
    g__law_awake := glo_at X G d 32 rfl
    g__law_bench := glo_at X G d 33 rfl
    g__law_is_so := glo_at X G d 34 rfl
    g__law_moment_right := glo_at X G d 35 rfl
    g__law_outside := glo_at X G d 36 rfl
    g__law_piece := glo_at X G d 37 rfl
    g__law_popped := glo_at X G d 38 rfl
    g__law_settled := glo_at X G d 39 rfl
    g__law_signed := glo_at X G d 40 rfl
    g__law_step := glo_at X G d 41 rfl
    g__law_tool := glo_at X G d 42 rfl
    g__law_turn := glo_at X G d 43 rfl
    g__law_wrap := glo_at X G d 44 rfl
    g__law_written := glo_at X G d 45 rfl
    g_are_disk_pairs := glo_at X G d 46 rfl
    g_are_integers := glo_at X G d 47 rfl
    g_are_rows := glo_at X G d 48 rfl
    g_are_shorts := glo_at X G d 49 rfl
    g_deed_of_row := glo_at X G d 50 rfl
    g_do_sign := glo_at X G d 51 rfl
    g_fixed := glo_at X G d 52 rfl
    g_is_disk := glo_at X G d 53 rfl
    g_is_disk_pair := glo_at X G d 54 rfl
    g_is_instruction := glo_at X G d 55 rfl
    g_is_integer := glo_at X G d 56 rfl
    g_is_list := glo_at X G d 57 rfl
    g_is_lot := glo_at X G d 58 rfl
    g_is_short := glo_at X G d 59 rfl
    g_is_target_beyond := glo_at X G d 60 rfl
    g_is_within := glo_at X G d 61 rfl
    g_popped := glo_at X G d 62 rfl
    g_push_short := glo_at X G d 63 rfl
    g_short_of := glo_at X G d 64 rfl
    m_Code___eq__ := He.meth_ok (d.fact 65 (f := .meth "Code" "__eq__") rfl)
    m_Code___iter__ := He.meth_ok (d.fact 66 (f := .meth "Code" "__iter__") rfl)
    m_Computer_cut := He.meth_ok (d.fact 67 (f := .meth "Computer" "cut") rfl)
    m_Computer_go := He.meth_ok (d.fact 68 (f := .meth "Computer" "go") rfl)
    m_Computer_hand := He.meth_ok (d.fact 69 (f := .meth "Computer" "hand") rfl)
    m_Computer_memory := He.meth_ok (d.fact 70 (f := .meth "Computer" "memory") rfl)
    m_Computer_power_on := He.meth_ok (d.fact 71 (f := .meth "Computer" "power_on") rfl)
    m_Computer_step := He.meth_ok (d.fact 72 (f := .meth "Computer" "step") rfl)
    mk_Code := He.mkr_ok (d.fact 73 (f := .mkr "Code") rfl)
    mk_Computer := He.mkr_ok (d.fact 74 (f := .mkr "Computer") rfl)
    n_Code_rows := He.noat_ok (d.fact 75 (f := .noat "Code" "rows") rfl)
    n_Computer_at := He.noat_ok (d.fact 76 (f := .noat "Computer" "at") rfl)
    n_Computer_code := He.noat_ok (d.fact 77 (f := .noat "Computer" "code") rfl)
    n_Computer_deeds := He.noat_ok (d.fact 78 (f := .noat "Computer" "deeds") rfl)
    n_Computer_given := He.noat_ok (d.fact 79 (f := .noat "Computer" "given") rfl)
    n_Computer_held := He.noat_ok (d.fact 80 (f := .noat "Computer" "held") rfl)
    n_Computer_laid := He.noat_ok (d.fact 81 (f := .noat "Computer" "laid") rfl)
    n_Computer_pile := He.noat_ok (d.fact 82 (f := .noat "Computer" "pile") rfl)
    n_Computer_queue := He.noat_ok (d.fact 83 (f := .noat "Computer" "queue") rfl)
    n_Computer_settled := He.noat_ok (d.fact 84 (f := .noat "Computer" "settled") rfl)
    n_Computer_written := He.noat_ok (d.fact 85 (f := .noat "Computer" "written") rfl)
    f_is_list := d.def_ 0 (d := dTop "is_list" s_is_list) rfl
    f_is_integer := d.def_ 1 (d := dTop "is_integer" s_is_integer) rfl
    f_is_within := d.def_ 2 (d := dTop "is_within" s_is_within) rfl
    f_is_short := d.def_ 3 (d := dTop "is_short" s_is_short) rfl
    f_are_shorts := d.def_ 4 (d := dTop "are_shorts" s_are_shorts) rfl
    f_are_integers := d.def_ 5 (d := dTop "are_integers" s_are_integers) rfl
    f_is_lot := d.def_ 6 (d := dTop "is_lot" s_is_lot) rfl
    f_fixed := d.def_ 7 (d := dTop "fixed" s_fixed) rfl
    f_short_of := d.def_ 8 (d := dTop "short_of" s_short_of) rfl
    f_added := d.def_ 9 (d := dTop "added" s_added) rfl
    f_taken_from := d.def_ 10 (d := dTop "taken_from" s_taken_from) rfl
    f_multiplied := d.def_ 11 (d := dTop "multiplied" s_multiplied) rfl
    f_divided := d.def_ 12 (d := dTop "divided" s_divided) rfl
    f_left_over := d.def_ 13 (d := dTop "left_over" s_left_over) rfl
    f_is_less := d.def_ 14 (d := dTop "is_less" s_is_less) rfl
    f_is_equal := d.def_ 15 (d := dTop "is_equal" s_is_equal) rfl
    f_are_both := d.def_ 16 (d := dTop "are_both" s_are_both) rfl
    f_is_any := d.def_ 17 (d := dTop "is_any" s_is_any) rfl
    f_is_instruction := d.def_ 18 (d := dTop "is_instruction" s_is_instruction) rfl
    f_is_target_beyond := d.def_ 19 (d := dTop "is_target_beyond" s_is_target_beyond) rfl
    f_are_rows := d.def_ 20 (d := dTop "are_rows" s_are_rows) rfl
    f_Code___init__ := d.def_ 21 (d := dIn "Code" "__init__" s_Code___init__) rfl
    f_Code___eq__ := d.def_ 22 (d := dIn "Code" "__eq__" s_Code___eq__) rfl
    f_Code___iter__ := d.def_ 23 (d := dIn "Code" "__iter__" s_Code___iter__) rfl
    f_push_short := d.def_ 24 (d := dTop "push_short" s_push_short) rfl
    f_popped := d.def_ 25 (d := dTop "popped" s_popped) rfl
    f_do_push := d.def_ 26 (d := dTop "do_push" s_do_push) rfl
    f_do_load := d.def_ 27 (d := dTop "do_load" s_do_load) rfl
    f_do_store := d.def_ 28 (d := dTop "do_store" s_do_store) rfl
    f_do_fetch := d.def_ 29 (d := dTop "do_fetch" s_do_fetch) rfl
    f_do_put := d.def_ 30 (d := dTop "do_put" s_do_put) rfl
    f_do_not := d.def_ 31 (d := dTop "do_not" s_do_not) rfl
    f_do_drop := d.def_ 32 (d := dTop "do_drop" s_do_drop) rfl
    f_do_copy := d.def_ 33 (d := dTop "do_copy" s_do_copy) rfl
    f_do_jump := d.def_ 34 (d := dTop "do_jump" s_do_jump) rfl
    f_do_unless := d.def_ 35 (d := dTop "do_unless" s_do_unless) rfl
    f_do_wait := d.def_ 36 (d := dTop "do_wait" s_do_wait) rfl
    f_do_sign := d.def_ 37 (d := dTop "do_sign" s_do_sign) rfl
    f_do_read := d.def_ 38 (d := dTop "do_read" s_do_read) rfl
    f_do_write := d.def_ 39 (d := dTop "do_write" s_do_write) rfl
    f_do_barrier := d.def_ 40 (d := dTop "do_barrier" s_do_barrier) rfl
    f_do_send := d.def_ 41 (d := dTop "do_send" s_do_send) rfl
    f_do_take := d.def_ 42 (d := dTop "do_take" s_do_take) rfl
    f_do_input := d.def_ 43 (d := dTop "do_input" s_do_input) rfl
    f_do_show := d.def_ 44 (d := dTop "do_show" s_do_show) rfl
    f_deed_of_row := d.def_ 45 (d := dTop "deed_of_row" s_deed_of_row) rfl
    f_is_disk_pair := d.def_ 46 (d := dTop "is_disk_pair" s_is_disk_pair) rfl
    f_are_disk_pairs := d.def_ 47 (d := dTop "are_disk_pairs" s_are_disk_pairs) rfl
    f_is_disk := d.def_ 48 (d := dTop "is_disk" s_is_disk) rfl
    f_Computer_power_on := d.def_ 49 (d := dIn "Computer" "power_on" s_Computer_power_on) rfl
    f_Computer___init__ := d.def_ 50 (d := (⟨("Computer", some "__init__"), "__init__", "Computer.__init__", defArgs s_Computer___init__, defBody s_Computer___init__, defScope s_Computer___init__, [.adr (He.dflAt ("Computer", some "__init__") 0)], []⟩ : He.DefD)) rfl
    f_Computer_memory := d.def_ 51 (d := dIn "Computer" "memory" s_Computer_memory) rfl
    f_Computer_hand := d.def_ 52 (d := dIn "Computer" "hand" s_Computer_hand) rfl
    f_Computer_cut := d.def_ 53 (d := dIn "Computer" "cut" s_Computer_cut) rfl
    f_Computer_go := d.def_ 54 (d := dIn "Computer" "go" s_Computer_go) rfl
    f_Computer_step := d.def_ 55 (d := dIn "Computer" "step" s_Computer_step) rfl
    f__law_bench := d.def_ 56 (d := dTop "_law_bench" s__law_bench) rfl
    f__law_turn := d.def_ 57 (d := dTop "_law_turn" s__law_turn) rfl
    f__law_tool := d.def_ 58 (d := dTop "_law_tool" s__law_tool) rfl
    f__law_wrap := d.def_ 59 (d := dTop "_law_wrap" s__law_wrap) rfl
    f__law_signed := d.def_ 60 (d := dTop "_law_signed" s__law_signed) rfl
    f__law_popped := d.def_ 61 (d := dTop "_law_popped" s__law_popped) rfl
    f__law_written := d.def_ 62 (d := dTop "_law_written" s__law_written) rfl
    f__law_settled := d.def_ 63 (d := dTop "_law_settled" s__law_settled) rfl
    f__law_awake := d.def_ 64 (d := dTop "_law_awake" s__law_awake) rfl
    f__law_outside := d.def_ 65 (d := dTop "_law_outside" s__law_outside) rfl
    f__law_step := d.def_ 66 (d := dTop "_law_step" s__law_step) rfl
    f__law_piece := d.def_ 67 (d := dTop "_law_piece" s__law_piece) rfl
    f__law_is_so := d.def_ 68 (d := dTop "_law_is_so" s__law_is_so) rfl
    f__law_moment_right := d.def_ 69 (d := dTop "_law_moment_right" s__law_moment_right) rfl
    f_law := d.def_ 70 (d := dTop "law" s_law) rfl
    x_BadNumber := fun {P base} => exnB_ok ex14 (glo_at X G d 86 rfl) (ok_init_BadNumber d)
    x_BadCode := fun {P base} => exnB_ok ex15 (glo_at X G d 87 rfl) (ok_init_BadCode d)
    t_PLAIN := tup_strs ex1
    t_SIGNS := tup_strs ex2
    k_NUMBERS := nums_of (c.t.tab 0) ex3 ex5 ex4
    k_ACTS := glo_of (c.t.tab 1) ex6 ex7
    k_DEEDS := glo_of (c.t.tab 2) ex8 ex9
    i_Code := VL.insB_ok ex10 (He.cls_ok (d.fact 15 (f := .cls "Code") rfl))
    o_Code := ex11
    t_disk0 := fun μ H => .tup (.inr (tupAB_ok ex13 _)) .nil
    f_Computer_stack := (pr 0 rfl).2
    p_Computer_stack := (pr 0 rfl).1
    f_Computer_disk := (pr 1 rfl).2
    p_Computer_disk := (pr 1 rfl).1
    f_Computer_waiting := (pr 2 rfl).2
    p_Computer_waiting := (pr 2 rfl).1
    f_Computer_cards := (pr 3 rfl).2
    p_Computer_cards := (pr 3 rfl).1 }
end
theorem lawG {w : World} {mg : Str → Option Value} {f : Addr} {h : Heap} (Y : hk.says w h) (G : h.Ns mainGlobals mg) (hm : mg ("law" : Str) = some (.ref f)) : ∃ K : PySem.W.Frag, K.In h ∧ LawG PySem.Challenge.rw_fairweather_k25_whole_an_own_computer w K 9 63 "_law_script" mg f h := by
  obtain ⟨K, X, c, z⟩ := Y
  have d := c.t.d
  have T := txt X G c z
  have gl : mg ("law" : Str) = some (.ref (He.ga K "law")) := glo_at X G d 88 rfl
  have e := hm.symm.trans gl
  cases e
  obtain ⟨fd, F0⟩ := T.f_law
  have b := FunD.bindsA (ps := ["_law_script"]) F0 fun _ _ _ _ _ _ us hl => match us, hl with | [_], _ => rfl
  refine ⟨K, X, fd, [], lift K [] sp_law, fun p hp => (nomatch hp), fun p hp => (nomatch hp), fun p hp => (nomatch hp), fun s u => b s [u] rfl, fun H a ns hl _ ht hs => ?_, fun base _ _ _ => b_law T fd F0⟩
  have sq : AtS K (fun _ => none) H a (ns.map V.int) := by
    rcases hs with hs | hs
    · exact .inl ⟨rfl, hs⟩
    · exact .inr (.inr hs)
  exact ⟨[.sq (ns.map .int)], fun _ => none, ev0, fun d _ => d = .bl true, .cons (.sq sq (isAll_ints ns)) .nil, ⟨fun _ _ q => (nomatch q), fun p hp => (nomatch hp)⟩, xok0, ⟨ns, rfl, fun _ => rfl⟩, fun d μ' v H' q iv _ _ => by subst q; cases iv; rfl⟩
end K25

set_option maxRecDepth 100000
set_option maxHeartbeats 0
open PySem PySem.W PySem.Calls PyProof.Rows
theorem PySem.Challenge.cw_fairweather_k25_whole_an_own_computer_holds : PySem.Challenge.rw_fairweather_k25_whole_an_own_computer.Holds := by
  w_on; o_law
  refine HandSHeadRun.head_any (r := OpenLaw.row PySem.Challenge.rw_fairweather_k25_whole_an_own_computer) (q := K25.qv) (H := K25.hk) (ob := FW.obT K25.fa K25.fn K25.ts K25.ex K25.prs) (M := 6000) (loose := K25.names) (kwd := []) (fun s => FW.obT_eq _ _ _ _ _ s) (by kernel_rfl) (fun s => by kernel_rfl) K25.run (by rfl) (by rfl) (by rfl) (by rfl) (by first | assumption | decide +kernel) (by decide +kernel) ⟨rfl, rfl, rfl, rfl, rfl, by decide +kernel⟩ ?hw ?hc
  case hw => w_witness2
  case hc =>
    refine FW.walkG (l := PySem.Challenge.rw_fairweather_k25_whole_an_own_computer) (n := 63) (k := 9) (x := "_law_script") rfl (by decide) (by kernel_rfl) ⟨rfl, by decide, by decide⟩ ?F
    intro w mg fa h Y G hmg0
    exact K25.lawG Y G hmg0
