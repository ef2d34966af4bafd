import PyProof.Rows.All
import Wide.All
import OpenK.AllK
import Wide.FinOn
import HandS.ForMost
import HandS.ForExc
import HandS.IsInst
import HandS.Wide
import HandS.CallLocal
import HandS.Defaults
import HandS.ExcInit
import HandS.ExcIs
import HandS.ExcField
import HandS.ExcValue
import HandS.RaiseMore
import HandS.Lambda
import HandS.EndTab
import PyProof.ReprRoads
import HandS.Comp
import KE.KDflt
import HandS.Head0
import HandS.Head1
import HandS.Head2
import HandS.HeadEnd
import HandS.HeadHook1
import HandS.HeadHook2
import HandS.HeadHook3
import HandS.HeadHook4
import HandS.WrittenGet
import HandS.More
import PySem.Challenge.RW_fairweather_k35_letters_wanted
set_option Elab.async false
set_option linter.all false
set_option maxRecDepth 100000
set_option maxHeartbeats 4000000
/-! fair weather: the ground that all laws stand on -/
namespace FW
open PySem L2 PyProof.Rows

/-! ### readings, a step each -/
section
variable {σ : L2.St} {H : Hp} {D : Ends} {Q : VK} {ta tb te : TE} {t u : TS} {g : TG} {i : Nat} {v x y : V} {r : R2} {tt tu : TT} {QT : Bool → Hp → Prop}
theorem w_seq (h : t { D with nx := u D } σ H) : tSeq t u D σ H := h
theorem w_asg (h : te σ H fun x H1 => g x σ H1 D.nx) : tAsg te g D σ H := h
theorem w_name {QG : L2.St → Hp → Prop} (h : QG (σ.set i (some v)) H) : gName i v σ H QG := h
theorem w_ret (h : te σ H D.rt) : tRet te D σ H := h
theorem w_drop (h : te σ H fun _ H1 => D.nx σ H1) : tDrop te D σ H := h
theorem w_next (h : D.nx σ H) : tNext D σ H := h
theorem w_var (e : σ[i]? = some (some v)) (h : Q v H) : tVar i σ H Q := ⟨v, e, h⟩
theorem w_c (h : Q v H) : tC v σ H Q := h
theorem w_op (h : ta σ H fun x H1 => tb σ H1 fun y H2 => r x y H2 Q) : tOp r ta tb σ H Q := h
theorem w_un {ru : V → Hp → VK → Prop} (h : ta σ H fun x H1 => ru x H1 Q) : tUn ru ta σ H Q := h
theorem w_I0 {f : Int → Int → V} {a b : Int} (h : Q (f a b) H) : rI0 f (.int a) (.int b) H Q := ⟨a, b, rfl, rfl, h⟩
theorem w_I {C : Int → Int → Prop} {f : Int → Int → V} {a b : Int} (c : C a b) (h : Q (f a b) H) : rI C f (.int a) (.int b) H Q := ⟨a, b, rfl, rfl, c, h⟩
theorem w_U {f : Int → V} {a : Int} (h : Q (f a) H) : rU f (.int a) H Q := ⟨a, rfl, h⟩
theorem w_eq (s : scal x y = true) (h : Q (.bl (decide (x = y))) H) : rEq x y H Q := ⟨s, h⟩
theorem w_ne (s : scal x y = true) (h : Q (.bl (!decide (x = y))) H) : rNe x y H Q := ⟨s, h⟩
theorem w_test (h : ta σ H fun x H1 => ∃ c, x = .bl c ∧ QT c H1) : tTest ta σ H QT := h
theorem w_B (h : ta σ H fun x H1 => ∃ c, x = .bl c ∧ QT c H1) : tB ta σ H QT := h
theorem w_bl {b : Bool} {R : Bool → Prop} (h : R b) : ∃ c, V.bl b = .bl c ∧ R c := ⟨b, rfl, h⟩
theorem w_not (h : tt σ H fun c H1 => QT (!c) H1) : tNot tt σ H QT := h
theorem w_and (h : tt σ H fun c H1 => if c = true then tu σ H1 QT else QT false H1) : tAnd tt tu σ H QT := h
theorem w_or (h : tt σ H fun c H1 => if c = true then QT true H1 else tu σ H1 QT) : tOr tt tu σ H QT := h
theorem w_andV (h : ta σ H fun x H1 => ∃ c, x = .bl c ∧ if c = true then tb σ H1 Q else Q (.bl false) H1) : tAndV ta tb σ H Q := h
theorem w_orV (h : ta σ H fun x H1 => ∃ c, x = .bl c ∧ if c = true then Q (.bl true) H1 else tb σ H1 Q) : tOrV ta tb σ H Q := h
theorem w_notV (h : ta σ H fun x H1 => ∃ c, x = .bl c ∧ Q (.bl (!c)) H1) : tNotV ta σ H Q := h
theorem w_if (h : tt σ H fun c H1 => if c = true then t D σ H1 else u D σ H1) : tIfS tt t u D σ H := h
theorem w_ifE (h : tt σ H fun c H1 => if c = true then ta σ H1 Q else tb σ H1 Q) : tIf tt ta tb σ H Q := h
theorem w_ite {c : Bool} {A B : Prop} (h1 : c = true → A) (h2 : c = false → B) : if c = true then A else B := by
  cases c with
  | true => exact h1 rfl
  | false => exact h2 rfl
theorem w_iteD {p : Prop} [Decidable p] {A B : Prop} (h1 : p → A) (h2 : ¬ p → B) : if decide p = true then A else B := by
  by_cases h : p
  · rw [if_pos (decide_eq_true h)]; exact h1 h
  · rw [if_neg (by simp [h])]; exact h2 h
theorem w_iteN {p : Prop} [Decidable p] {A B : Prop} (h1 : ¬ p → A) (h2 : p → B) : if (!decide p) = true then A else B := by
  by_cases h : p
  · rw [if_neg (by simp [h])]; exact h2 h
  · rw [if_pos (by simp [h])]; exact h1 h
theorem w_rfl {A : Prop} (h : A) : V.non = V.non ∧ A := ⟨rfl, h⟩
theorem w_tr {A : Prop} (h : A) : True ∧ A := ⟨trivial, h⟩
theorem w_nyes {A B : Prop} (h : B) : if (!true) = true then A else B := h
theorem w_nno {A B : Prop} (h : A) : if (!false) = true then A else B := h
theorem w_T {A B : Prop} (h : A) : if True then A else B := by rw [if_pos trivial]; exact h
theorem w_F {A B : Prop} (h : B) : if False then A else B := by rw [if_neg not_false]; exact h
theorem w_yes {A B : Prop} (h : A) : if true = true then A else B := h
theorem w_no {A B : Prop} (h : B) : if false = true then A else B := h
theorem w_nil {QA : List V → Hp → Prop} (h : QA [] H) : tNil σ H QA := h
theorem w_cons {ta : TE} {tr : TA} {QA : List V → Hp → Prop} (h : ta σ H fun x H1 => tr σ H1 fun xs H2 => QA (x :: xs) H2) : tCons ta tr σ H QA := h
theorem w_cb {rc : List V → Hp → VK → Prop} {t : TA} (h : t σ H fun vs H1 => rc vs H1 Q) : tCB rc t σ H Q := h
theorem w_call {sp : Sp} {dvs : List V} {E : XK} {t : TA} (h : t σ H fun vs H1 => sp (vs ++ dvs) H1 Q E) : tCall sp dvs E t σ H Q := h
theorem w_lst {t : TA} (h : t σ H fun xs H1 => xs.length ≤ sizeLine ∧ ∀ p, H1 p = none → Q (.ref p) (upd H1 p (.lst xs))) : tLst t σ H Q := h
theorem w_tup {t : TA} (h : t σ H fun xs H1 => xs.length ≤ sizeLine ∧ ∀ p, H1 p = none → Q (.ref p) (upd H1 p (.tup xs))) : tTup t σ H Q := h
theorem w_ixL {K : PySem.W.Frag} {p : Addr} {xs : List V} {k : Int} (s : SqL K H p xs) (e : atI xs k = some v) (h : Q v H) : rIxL K (.ref p) (.int k) H Q := ⟨p, xs, k, v, rfl, rfl, s, e, h⟩
theorem w_sub {ti to : TE} {ts : TSet} {QG : L2.St → Hp → Prop} (h : to σ H fun o H1 => ti σ H1 fun i H2 => ts o i v H2 fun H3 => QG σ H3) : gSub to ti ts v σ H QG := h
theorem w_setL {p : Addr} {xs : List V} {k : Int} {j : Nat} {QH : Hp → Prop} (e : H p = some (.lst xs)) (ej : ixN xs.length k = some j) (h : QH (upd H p (.lst (xs.set j v)))) : rSetL (.ref p) (.int k) v H QH := ⟨p, xs, k, j, rfl, rfl, e, ej, h⟩
end

/-- `int` of an int or of a truth -/
def rInt1 : List V → Hp → VK → Prop := fun xs H Q => match xs with
  | [.int i] => Q (.int i) H
  | [.bl b] => Q (.int (if b then 1 else 0)) H
  | _ => False
theorem call_intA {X : Cx} : CallR X (.type "int") rInt1 := by
  intro pins s σ H xs us Q I r h
  refine call_int1 pins s σ H xs us Q I r ?_
  unfold rInt1 at h
  split at h
  · exact Or.inl ⟨_, rfl, h⟩
  · exact Or.inr ⟨_, rfl, h⟩
  · exact h.elim
theorem w_int {i : Int} {H : Hp} {Q : VK} (h : Q (.int i) H) : rInt1 [.int i] H Q := h
theorem w_intB {b : Bool} {H : Hp} {Q : VK} (h : Q (.int (if b then 1 else 0)) H) : rInt1 [.bl b] H Q := h
def rAbs : List V → Hp → VK → Prop := fun xs H Q => ∃ i, xs = [.int i] ∧ Q (.int (if i < 0 then -i else i)) H
theorem call_absA {X : Cx} : CallR X (.builtin "abs") rAbs := call_abs
theorem w_abs {i : Int} {H : Hp} {Q : VK} (h : Q (.int (if i < 0 then -i else i)) H) : rAbs [.int i] H Q := ⟨i, rfl, h⟩
def rLen (K : PySem.W.Frag) : List V → Hp → VK → Prop := fun xs H Q => ∃ x n, xs = [x] ∧ LenV K x H n ∧ Q (.int n) H
theorem call_lenA {X : Cx} : CallR X (.builtin "len") (rLen X.K) := call_len
theorem w_lenL {K : PySem.W.Frag} {H : Hp} {Q : VK} {p : Addr} {xs : List V} (s : SqL K H p xs) (h : Q (.int xs.length) H) : rLen K [.ref p] H Q := ⟨.ref p, xs.length, rfl, Or.inl ⟨xs, s, rfl⟩, h⟩

/-! ### the cloud: what a law draws from -/
/-- at c a list of the cells (at another place), how many were begun (n), what is left of a great one -/
def Cloud (K : PySem.W.Frag) (H : Hp) (c : Addr) (n : Nat) : Prop :=
  ∃ (l : Addr) (cells : List Int) (rest : Int), H c = some (.lst [.ref l, .int n, .int rest]) ∧ SqL K H l (cells.map V.int) ∧ l ≠ c
/-- all but c is as it was -/
def Ext (c : Addr) (H H' : Hp) : Prop := ∀ b o, b ≠ c → H b = some o → H' b = some o
theorem Ext.refl (c : Addr) (H : Hp) : Ext c H H := fun _ _ _ h => h
theorem Ext.trans {c : Addr} {H H1 H2 : Hp} (a : Ext c H H1) (b : Ext c H1 H2) : Ext c H H2 := fun x o n h => b x o n (a x o n h)
theorem Ext.upd {c : Addr} {H : Hp} {o : HO} : Ext c H (upd H c o) := fun b u n h => by rw [upd_ne n]; exact h
theorem Ext.new {c p : Addr} {H : Hp} {o : HO} (h : H p = none) : Ext c H (L2.upd H p o) := fun b u _ e => by rw [upd_ne (ne_of_none e h)]; exact e
theorem Ext.sqL {c a : Addr} {K : PySem.W.Frag} {H H' : Hp} {xs : List V} (e : Ext c H H') (n : a ≠ c) (h : SqL K H a xs) : SqL K H' a xs := by
  rcases h with (h | ⟨o, h⟩) | h
  · exact .inl (.inl (e _ _ n h))
  · exact .inl (.inr ⟨o, e _ _ n h⟩)
  · exact .inr h
theorem Ext.sqT {c a : Addr} {K : PySem.W.Frag} {H H' : Hp} {xs : List V} (e : Ext c H H') (n : a ≠ c) (h : SqT K H a xs) : SqT K H' a xs := by
  rcases h with (h | ⟨o, h⟩) | h
  · exact .inl (.inl (e _ _ n h))
  · exact .inl (.inr ⟨o, e _ _ n h⟩)
  · exact .inr h
/-- a draw: an int from 0 below many; one cell more was begun at most -/
def spDrop (K : PySem.W.Frag) : Sp := fun vs H Q _ => ∃ (c : Addr) (n : Nat) (many : Int), vs = [.ref c, .int many] ∧ Cloud K H c n ∧ n < 1000000 ∧ 0 < many ∧ many < 1073741824 ∧
  ∀ (r : Int) (n' : Nat) (H' : Hp), 0 ≤ r → r < many → n' ≤ n + 1 → Cloud K H' c n' → Ext c H H' → Q (.int r) H'
/-! ### arithmetic of great ints -/
def CDivA (_ j : Int) : Prop := j ≠ 0 ∧ j.natAbs.log2 < 9000
theorem op_fdivA {X : Cx} : OpR X (binaryOp .FloorDiv) (rI CDivA fun i j => .int (i.fdiv j)) := opI fun _ _ _ _ _ _ _ hc q => floordiv_int hc.1 q (.inl (PyProof.noPylong_of_log2 hc.2))
theorem log2_lt {n k : Nat} (h : n < 2 ^ k) (h0 : 0 < k) : n.log2 < k := PySem.Flt.log2_lt_of h0 h

/-! ### lists of ints as data -/
theorem dpAll_ints (K : PySem.W.Frag) (H : Hp) : ∀ ns : List Int, DpAll K H (ns.map V.int) (ns.map PyData.int)
  | [] => .nil
  | n :: ns => .cons (.int n) (dpAll_ints K H ns)
theorem canLay_ints : ∀ ns : List Int, PyData.canLayAll0 (ns.map PyData.int) = true
  | [] => by simp [PyData.canLayAll0]
  | n :: ns => by simp [PyData.canLayAll0, PyData.canLay0, canLay_ints ns]
theorem shaped_ints (ns : List Int) : SeqAt.shaped (.list (ns.map PyData.int)) = true := by
  have h1 : PyData.canLay0 (.list (ns.map PyData.int)) = true := by simp [PyData.canLay0, canLay_ints]
  have h2 : PyData.depth (.list (ns.map PyData.int)) ≤ 64 := by
    have := depthAll_ints ns
    simp only [PyData.depth]
    omega
  unfold SeqAt.shaped
  rw [h1, decide_eq_true h2]
  rfl
theorem shaped_nil : SeqAt.shaped (.list []) = true := shaped_ints []
/-- xs != [] for a list of ints -/
theorem w_neNil {K : PySem.W.Frag} {H : Hp} {Q : VK} {a p : Addr} {ns : List Int} (h1 : SqL K H a (ns.map V.int)) (h2 : SqL K H p []) (h : Q (.bl (!ns.isEmpty)) H) : rNeD K (.ref a) (.ref p) H Q := by
  refine ⟨_, _, .lst h1 (dpAll_ints K H ns), .lst h2 .nil, shaped_ints ns, shaped_nil, ?_⟩
  have e : PyData.eqv (.list (ns.map PyData.int)) (.list []) = ns.isEmpty := by
    cases ns with
    | nil => simp [PyData.eqv, PyData.eqvAll]
    | cons n ns => simp [PyData.eqv, PyData.eqvAll]
  rw [e]
  exact h
theorem atI_map {ns : List Int} {i : Int} (h0 : 0 ≤ i) (h1 : i < ns.length) : ∃ z, ns[i.toNat]? = some z ∧ atI (ns.map V.int) i = some (.int z) := by
  obtain ⟨j, rfl⟩ : ∃ j : Nat, i = (j : Int) := ⟨i.toNat, by omega⟩
  have hj : j < ns.length := by omega
  refine ⟨ns[j], by simp [hj], at_of rfl (by simp [hj])⟩
theorem sqL_new {K : PySem.W.Frag} {H : Hp} {a p : Addr} {xs : List V} {o : HO} (h : H p = none) (q : SqL K H a xs) : SqL K (upd H p o) a xs := by
  rcases q with (q | ⟨u, q⟩) | q
  · exact .inl (.inl (by rw [upd_ne (ne_of_none q h)]; exact q))
  · exact .inl (.inr ⟨u, by rw [upd_ne (ne_of_none q h)]; exact q⟩)
  · exact .inr q
theorem sqT_new {K : PySem.W.Frag} {H : Hp} {a p : Addr} {xs : List V} {o : HO} (h : H p = none) (q : SqT K H a xs) : SqT K (upd H p o) a xs := by
  rcases q with (q | ⟨u, q⟩) | q
  · exact .inl (.inl (by rw [upd_ne (ne_of_none q h)]; exact q))
  · exact .inl (.inr ⟨u, by rw [upd_ne (ne_of_none q h)]; exact q⟩)
  · exact .inr q
theorem sqL_ne {K : PySem.W.Frag} {H : Hp} {a p : Addr} {xs : List V} {o : HO} (n : a ≠ p) (q : SqL K H a xs) : SqL K (upd H p o) a xs := by
  rcases q with (q | ⟨u, q⟩) | q
  · exact .inl (.inl (by rw [upd_ne n]; exact q))
  · exact .inl (.inr ⟨u, by rw [upd_ne n]; exact q⟩)
  · exact .inr q
theorem sqT_ne {K : PySem.W.Frag} {H : Hp} {a p : Addr} {xs : List V} {o : HO} (n : a ≠ p) (q : SqT K H a xs) : SqT K (upd H p o) a xs := by
  rcases q with (q | ⟨u, q⟩) | q
  · exact .inl (.inl (by rw [upd_ne n]; exact q))
  · exact .inl (.inr ⟨u, by rw [upd_ne n]; exact q⟩)
  · exact .inr q
theorem w_made {n : Nat} {H : Hp} {R : Addr → Prop} (hn : n ≤ sizeLine) (h : ∀ p, H p = none → R p) : n ≤ sizeLine ∧ ∀ p, H p = none → R p := ⟨hn, h⟩
theorem rd_new {H : Hp} {a p : Addr} {o u : HO} (h : H p = none) (q : H a = some u) : upd H p o a = some u := by rw [upd_ne (ne_of_none q h)]; exact q
theorem rd_ne {H : Hp} {a p : Addr} {o u : HO} (n : a ≠ p) (q : H a = some u) : upd H p o a = some u := by rw [upd_ne n]; exact q
theorem mix2 {m n a b c : Int} (m0 : 0 ≤ m) (m1 : m < 2147483648) (n0 : 0 ≤ n) (n1 : n < 1000000) (a0 : 0 ≤ a) (a1 : a ≤ 10000) (b0 : 0 ≤ b) (b1 : b ≤ 1000000) (c0 : 0 ≤ c) (c1 : c ≤ 1000000) :
    CPow (m * (2 * n + a) + b * n * n + c) 3 := by
  refine ⟨by decide, by decide, ?_⟩
  have h1 : 0 ≤ m * (2 * n + a) := Int.mul_nonneg m0 (by omega)
  have h2 : m * (2 * n + a) ≤ 2147483648 * 2010000 := Int.mul_le_mul (by omega) (by omega) (by omega) (by omega)
  have h3 : 0 ≤ b * n := Int.mul_nonneg b0 n0
  have h4 : b * n ≤ 1000000 * 1000000 := Int.mul_le_mul b1 (by omega) n0 (by omega)
  have h5 : 0 ≤ b * n * n := Int.mul_nonneg h3 n0
  have h6 : b * n * n ≤ (1000000 * 1000000) * 1000000 := Int.mul_le_mul h4 (by omega) n0 (by omega)
  omega
/-! ### kinds of values -/
def isInt : V → Bool
  | .int _ => true
  | _ => false
def isIntB : V → Bool
  | .int _ => true
  | .bl _ => true
  | _ => false
def isBl : V → Bool
  | .bl _ => true
  | _ => false
def isStr : V → Bool
  | .str _ => true
  | _ => false
/-- a value of a plain kind: a reference is to a list, a tuple or a dict -/
def Kn (K : PySem.W.Frag) (H : Hp) : V → Prop
  | .ref a => ∃ T, (T = "list" ∨ T = "tuple" ∨ T = "dict") ∧ TyX K H (.ref a) (.type T)
  | .non => True
  | .bl _ => True
  | .int _ => True
  | .str _ => True
  | _ => False
/-- how a value of a plain kind answers to a built-in class -/
theorem kn_ty {K : PySem.W.Frag} {H : Hp} {v : V} (h : Kn K H v) : ∃ T, TyX K H v (.type T) ∧ (T = "list" ∨ T = "tuple" ∨ T = "dict" ∨ T = "NoneType" ∨ T = "bool" ∨ T = "int" ∨ T = "str") ∧
    (isInt v = (T == "int")) ∧ (isBl v = (T == "bool")) ∧ (isStr v = (T == "str")) := by
  cases v with
  | ref a =>
    obtain ⟨T, e, t⟩ := h
    rcases e with rfl | rfl | rfl
    · exact ⟨_, t, by simp, by simp [isInt], by simp [isBl], by simp [isStr]⟩
    · exact ⟨_, t, by simp, by simp [isInt], by simp [isBl], by simp [isStr]⟩
    · exact ⟨_, t, by simp, by simp [isInt], by simp [isBl], by simp [isStr]⟩
  | non => exact ⟨"NoneType", .base .non, by simp, by simp [isInt], by simp [isBl], by simp [isStr]⟩
  | bl b => exact ⟨"bool", .base (.bl b), by simp, by simp [isInt], by simp [isBl], by simp [isStr]⟩
  | int i => exact ⟨"int", .base (.int i), by simp, by simp [isInt], by simp [isBl], by simp [isStr]⟩
  | str x => exact ⟨"str", .base (.str x), by simp, by simp [isInt], by simp [isBl], by simp [isStr]⟩
  | byt _ => exact h.elim
  | flt _ => exact h.elim
  | ty _ => exact h.elim
theorem w_isInt {K : PySem.W.Frag} {H : Hp} {Q : VK} {v : V} (h : Kn K H v) (q : Q (.bl (isIntB v)) H) : rIsi K [v, .ty "int"] H Q := by
  obtain ⟨T, t, e, e1, e2, e3⟩ := kn_ty h
  refine ⟨v, .ty "int", .type T, .type "int", isIntB v, rfl, .ty "int", t, ?_, q⟩
  have q1 : isIntB v = (isInt v || isBl v) := by cases v <;> rfl
  rw [q1, e1, e2]
  rcases e with rfl | rfl | rfl | rfl | rfl | rfl | rfl <;> exact kit_ty (by decide +kernel)
theorem w_isBl {K : PySem.W.Frag} {H : Hp} {Q : VK} {v : V} (h : Kn K H v) (q : Q (.bl (isBl v)) H) : rIsi K [v, .ty "bool"] H Q := by
  obtain ⟨T, t, e, e1, e2, e3⟩ := kn_ty h
  refine ⟨v, .ty "bool", .type T, .type "bool", isBl v, rfl, .ty "bool", t, ?_, q⟩
  rw [e2]
  rcases e with rfl | rfl | rfl | rfl | rfl | rfl | rfl <;> exact kit_ty (by decide +kernel)
theorem w_isStr {K : PySem.W.Frag} {H : Hp} {Q : VK} {v : V} (h : Kn K H v) (q : Q (.bl (isStr v)) H) : rIsi K [v, .ty "str"] H Q := by
  obtain ⟨T, t, e, e1, e2, e3⟩ := kn_ty h
  refine ⟨v, .ty "str", .type T, .type "str", isStr v, rfl, .ty "str", t, ?_, q⟩
  rw [e3]
  rcases e with rfl | rfl | rfl | rfl | rfl | rfl | rfl <;> exact kit_ty (by decide +kernel)

/-! ### a text in a row of texts -/
theorem inV_strs (x : Str) : ∀ ss : List Str, inV (.str x) (ss.map V.str) = ss.contains x
  | [] => rfl
  | s :: ss => by
    have ih := inV_strs x ss
    unfold inV at ih ⊢
    rw [List.map_cons, List.any_cons, ih, List.contains_cons]
    congr 1
    show eqV (.str s) (.str x) = (x == s)
    by_cases h : x = s
    · subst h; simp [eqV]
    · have h2 : ¬ s = x := fun e => h e.symm
      show (s == x) = (x == s)
      rw [beq_eq_false_iff_ne.mpr h, beq_eq_false_iff_ne.mpr h2]
theorem flat_strs : ∀ ss : List Str, (ss.map V.str).all flatV = true
  | [] => rfl
  | s :: ss => by rw [List.map_cons, List.all_cons, flat_strs ss]; rfl
theorem w_inT {K : PySem.W.Frag} {H : Hp} {Q : VK} {p : Addr} {x : Str} {ss : List Str} (s : SqT K H p (ss.map V.str)) (q : Q (.bl (ss.contains x)) H) : rIn K false (.str x) (.ref p) H Q :=
  ⟨p, _, rfl, .inr s, rfl, flat_strs ss, by rw [inV_strs]; exact q⟩
theorem w_notInT {K : PySem.W.Frag} {H : Hp} {Q : VK} {p : Addr} {x : Str} {ss : List Str} (s : SqT K H p (ss.map V.str)) (q : Q (.bl (!ss.contains x)) H) : rIn K true (.str x) (.ref p) H Q :=
  ⟨p, _, rfl, .inr s, rfl, flat_strs ss, by rw [inV_strs]; exact q⟩

/-! ### defs that may be called by their names -/
/-- a def of the text as it stands behind the top, under its name -/
structure DefOk (K : PySem.W.Frag) (mg : Str → Option Value) (x : Str) (st : Stmt) (ps : List Str) : Prop where
  ex : ∃ (f : Addr) (fd : FuncData), Fun K x x st f fd ∧ mg x = some (.ref f) ∧ Binds K fd ps []
structure Can (P : Program) (w : World) (K : PySem.W.Frag) (mg : Str → Option Value) (base : Heap) (CX : CXT) (k : Nat) (x : Str) (ps : List Str) (sp : Sp) : Prop where
  ex : ∃ (f : Addr) (fd : FuncData), FnOk P w K mg base CX k f fd ps sp ∧ mg x = some (.ref f) ∧ PySem.W.keepIn K (.ref f) = true ∧ Binds K fd ps []
theorem DefOk.can {P : Program} {w : World} {K : PySem.W.Frag} {mg : Str → Option Value} {base : Heap} {CX : CXT} {k : Nat} {x : Str} {st : Stmt} {ps : List Str} {sp : Sp} (d : DefOk K mg x st ps)
    (h : ∀ f fd, Fun K x x st f fd → FnOk P w K mg base CX k f fd ps sp) : Can P w K mg base CX k x ps sp := by
  obtain ⟨f, fd, F, m, b⟩ := d.ex
  exact ⟨f, fd, h f fd F, m, F.kp, b⟩
section
variable {X : Cx} {CX : CXT} {k j : Nat} {x : Str} {ps : List Str} {sp : Sp} {E : XK} {p pos : Pos} {e : Expr} {es : List Expr} {t : TA}
theorem pe_can (c : Can X.prog X.w X.K X.mg X.base CX k x ps sp) (hr : Room j X.A) (hk : k ≤ j) (hx : Passes CX X E) (hg : Gl X x) (ha : PA X (e :: es) t) (hdb : (x == ("__debug__" : Str)) = false := by decide)
    (he : starEach (e :: es) X.env = (false, eval e X.env) :: starEach es X.env := by rfl) (hpl : (backTo pos (starEach es X.env)).any (·.1) = false := by rfl) :
    PE X (.Call (.Name x p) (e :: es) [] pos) (tCall sp [] E t) := by
  obtain ⟨f, fd, F, m, kp, b⟩ := c.ex
  exact pe_call F (hr.mono hk) hg m kp b .nil hx ha hdb he hpl
/-- a constant of the text -/
theorem pe_gc {X : Cx} {x : Str} {v : V} {pos : Pos} (hg : Gl X x) (h : ∃ u, X.mg x = some u ∧ RelV v u) (hd : (x == ("__debug__" : Str)) = false := by decide) : PE X (.Name x pos) (tC v) := by
  obtain ⟨u, hm, r⟩ := h
  exact pe_glob hg hm r hd
/-! ### a local name that holds a def -/
def tHeld (P : Program) (w : World) (K : PySem.W.Frag) (mg : Str → Option Value) (base : Heap) (k i : Nat) (t : TA) : TE := fun σ H Q => ∃ f sp, σ[i]? = some (some (.ref f)) ∧ Held P w K mg base k f sp ∧ t σ H fun vs H1 => sp vs H1 Q (fun _ _ _ => False)
theorem pe_held {X : Cx} {k i : Nat} {x : Str} {p pos : Pos} {e : Expr} {es : List Expr} {t : TA} (hr : Room k X.A) (hN : X.N[i]? = some x) (hv : Vis X.env.scope x) (ha : PA X (e :: es) t)
    (hdb : (x == ("__debug__" : Str)) = false := by decide) (hcd : (x == ("__classdict__" : Str)) = false := by decide)
    (he : starEach (e :: es) X.env = (false, eval e X.env) :: starEach es X.env := by rfl) (hpl : (backTo pos (starEach es X.env)).any (·.1) = false := by rfl) : PE X (.Call (.Name x p) (e :: es) [] pos) (tHeld X.prog X.w X.K X.mg X.base k i t) := by
  refine ⟨fun pins s σ H Q I h => ?_⟩
  obtain ⟨f, sp, hs, hS, ht⟩ := h
  exact (pe_callA (p := p) (pos := pos) (S := fun a => if a = f then some sp else none) (fun g sg e => by
    by_cases hg : g = f
    · subst hg; simp at e; subst e; exact hS
    · simp [hg] at e) hr hN hv ha hdb hcd he hpl).run pins s σ H Q I ⟨f, sp, hs, by simp, ht⟩
theorem w_held {P : Program} {w : World} {K : PySem.W.Frag} {mg : Str → Option Value} {base : Heap} {k i : Nat} {t : TA} {σ : L2.St} {H : Hp} {Q : VK} {f : Addr} {sp : Sp} (e : σ[i]? = some (some (.ref f))) (h : Held P w K mg base k f sp)
    (q : t σ H fun vs H1 => sp vs H1 Q (fun _ _ _ => False)) : tHeld P w K mg base k i t σ H Q := ⟨f, sp, e, h, q⟩
end
/-! ### what grows -/
def Grow (H H' : Hp) : Prop := ∀ b o, H b = some o → H' b = some o
theorem Grow.refl (H : Hp) : Grow H H := fun _ _ e => e
theorem Grow.trans {H H1 H2 : Hp} (a : Grow H H1) (b : Grow H1 H2) : Grow H H2 := fun x o e => b x o (a x o e)
theorem Grow.new {H : Hp} {p : Addr} {o : HO} (n : H p = none) : Grow H (upd H p o) := fun b u e => by rw [upd_ne (ne_of_none e n)]; exact e
theorem Grow.ext {c : Addr} {H H' : Hp} (g : Grow H H') : Ext c H H' := fun b o _ e => g b o e
theorem Grow.sqL {K : PySem.W.Frag} {H H' : Hp} {a : Addr} {xs : List V} (g : Grow H H') (h : SqL K H a xs) : SqL K H' a xs := by
  rcases h with (h | ⟨o, h⟩) | h
  · exact .inl (.inl (g _ _ h))
  · exact .inl (.inr ⟨o, g _ _ h⟩)
  · exact .inr h
theorem Grow.sqT {K : PySem.W.Frag} {H H' : Hp} {a : Addr} {xs : List V} (g : Grow H H') (h : SqT K H a xs) : SqT K H' a xs := by
  rcases h with (h | ⟨o, h⟩) | h
  · exact .inl (.inl (g _ _ h))
  · exact .inl (.inr ⟨o, g _ _ h⟩)
  · exact .inr h
theorem Cloud.grow {K : PySem.W.Frag} {H H' : Hp} {c : Addr} {n : Nat} (g : Grow H H') (h : Cloud K H c n) : Cloud K H' c n := by
  obtain ⟨l, cells, rest, h1, h2, h3⟩ := h
  exact ⟨l, cells, rest, g _ _ h1, g.sqL h2, h3⟩
theorem Cloud.new {K : PySem.W.Frag} {H : Hp} {c p : Addr} {n : Nat} {o : HO} (e : H p = none) (h : Cloud K H c n) : Cloud K (upd H p o) c n := h.grow (Grow.new e)
theorem Cloud.some {K : PySem.W.Frag} {H : Hp} {c : Addr} {n : Nat} (h : Cloud K H c n) : ∃ o, H c = some o := by
  obtain ⟨l, cells, rest, h1, _⟩ := h
  exact ⟨_, h1⟩
theorem Cloud.ne {K : PySem.W.Frag} {H : Hp} {c p : Addr} {n : Nat} (h : Cloud K H c n) (e : H p = none) : p ≠ c := by
  obtain ⟨o, q⟩ := h.some
  exact fun z => ne_of_none q e z.symm
/-! ### targets -/
section
variable {K : PySem.W.Frag} {σ : L2.St} {H : Hp} {QG : L2.St → Hp → Prop} {v : V} {vs : List V}
theorem w_gtup {n : Nat} {t : TGs} {a : Addr} (s : SqT K H a vs) (l : vs.length = n) (h : t vs σ H QG) : gTup K n t (.ref a) σ H QG := ⟨a, vs, rfl, s, l, h⟩
theorem w_gcons {t : TG} {u : TGs} (h : t v σ H fun σ' H' => u vs σ' H' QG) : gCons t u (v :: vs) σ H QG := ⟨v, vs, rfl, h⟩
theorem w_gnil (h : QG σ H) : gNil [] σ H QG := ⟨rfl, h⟩
end
theorem w_par {σ : L2.St} {H : Hp} {D : Ends} {i j : Nat} {ta : TA} (h : ta σ H fun vs H1 => ∃ v w, vs = [v, w] ∧ D.nx ((σ.set i (some v)).set j (some w)) H1) : tPar i j ta D σ H := h
theorem w_par2 {v u : V} {R : V → V → Prop} (h : R v u) : ∃ x y, [v, u] = [x, y] ∧ R x y := ⟨v, u, rfl, h⟩
theorem w_inX {K : PySem.W.Frag} {H : Hp} {Q : VK} {p : Addr} {x : V} {vs : List V} (s : SqT K H p vs) (f1 : flatV x = true) (f : vs.all flatV = true) (q : Q (.bl (inV x vs)) H) : rIn K false x (.ref p) H Q := ⟨p, vs, rfl, .inr s, f1, f, q⟩
theorem w_chain {r r' : R2} {ta tb tc : TE} {σ : L2.St} {H : Hp} {Q : VK} (h : ta σ H fun x H1 => tb σ H1 fun y H2 => r x y H2 fun z H3 => ∃ k, z = .bl k ∧ (if k = true then tc σ H3 fun w' H4 => r' y w' H4 Q else Q (.bl false) H3)) : tChain r r' ta tb tc σ H Q := h
theorem w_dnew {σ : L2.St} {H : Hp} {Q : VK} (h : ∀ p, H p = none → Q (.ref p) (upd H p (.dK []))) : tDNewK σ H Q := h
theorem w_callNB {n m : Nat} {sp : Sp} {gV : List V → List V → List V} {E : XK} {t tk : TA} {σ : L2.St} {H : Hp} {Q : VK} (h : t σ H fun vs H1 => tk σ H1 fun zs H2 => vs.length = n ∧ zs.length = m ∧ sp (gV vs zs) H2 Q E) : tCallN n m sp gV E t tk σ H Q := h
end FW

set_option maxRecDepth 100000
set_option maxHeartbeats 4000000
/-! fair weather: exceptions that are kept -/
namespace PySem.W
open PySem PySem.Spec PySem.Calls PyProof.Rows
section
variable {prog : Program} {w : World} {A : Around} {E : Value → Shared → Prop} {s : Shared} {K : Frag} {x D : Addr} {ox : Obj} {od : Option Obj}
theorem fw_findClass (dct : hasDictIn K D = true) (ha : findIn K (.ref D) "__class__" = some (some (.builtin "object.__class__"))) (hn : specialIn K (.builtin "object.__class__") "__get__" = some (some (.builtin "getset_descriptor.__get__")))
    (htk : takesIn K (.builtin "object.__class__") = some true) : findObj K D od "__class__" = some (.bind (.builtin "getset_descriptor.__get__") (.builtin "object.__class__")) := by
  obtain ⟨cd, hc, _⟩ := any_some dct
  unfold findObj
  rw [hc, Option.bind_some, ha, Option.bind_some]
  simp [hn, htk]
/-- the class of an own exception, asked by isinstance: whether it has a dict or not -/
theorem fw_class {Q : Option Value → Shared → Prop} (C : L2.ExcC K D) (X : K.In s.heap) (I : InstAt s.heap x ox D od) (h : Q (some (.ref D)) { s with toks := s.toks + 1 }) : wpAny (model prog w) A (getAttr? (.ref x) "__class__") Q E s := by
  have hf := fw_findClass (od := od) C.hd C.ha C.hn C.ht
  obtain ⟨hp, gs, dr, tk, os⟩ := s
  have l0 := I.type (M := model prog w)
  have l1 := looks_findIn (M := model prog w) X C.hg
  have l2 := looks_findIn (M := model prog w) X C.hk
  have l3 := looks_find (M := model prog w) X I hf
  have ls : Looks (model prog w) hp (isInstance (.ref x) (.type "BaseException")) true := l0.andThen (looks_subIn X C.hs)
  have b0 : (false && onTheHeap (Value.builtin "BaseException.__getattribute__")) = false := rfl
  have b2 : (Value.builtin "BaseException.__getattribute__" == Value.builtin "object.__getattribute__") = false := by decide +kernel
  have b1 : (onTheHeap (Value.ref D) && Value.builtin "BaseException.__getattribute__" == Value.builtin "object.__getattribute__") = false := by rw [b2]; rfl
  unfold getAttr? getAttrBy? getAttrBy
  refine wpAny_bind (wpAny_mkText (wpAny_bind (wpAny_attempt (wpAny_holding (wpAny_bind (l0.at (wpAny_bind (l1.at ?_))))))))
  show wpAny _ _ (if (onTheHeap (Value.ref D) && Value.builtin "BaseException.__getattribute__" == Value.builtin "object.__getattribute__") = true then _ else _) _ _ _
  rw [b1, if_neg Bool.false_ne_true]; unfold getAttrByItsOwn hookBefore
  refine wpAny_bind ?_
  rw [if_pos (show onTheHeap (Value.ref D) = true from rfl)]
  refine l2.at ?_
  refine wpAny_bind (wpAny_attempt (wpAny_holding ?_))
  unfold callGetattribute; rw [b0, if_neg Bool.false_ne_true]; unfold boundAndCalled
  rw [PySem.F.excAttr_ValueError.ga.bind (.ref x)]
  refine wpAny_bind (wpAny_pure ?_)
  show wpAny _ _ (call (.builtin "BaseException.__getattribute__") [.ref x, .str "__class__" tk]) _ _ _
  refine wpAny_call (codeAny_call_builtin PySem.F.excAttr_ValueError.ga.plain PySem.F.entry_bexc_ga ?_)
  refine @check_slot (model prog w) _ _ ⟨hp, gs, dr, tk + 1, os⟩ "BaseException.__getattribute__" "BaseException" "__getattribute__" (.ref x) [.str "__class__" tk] [] _ (by decide +kernel) (by decide +kernel) ls (PySem.F.args_bexc_ga (.ref x) (.str "__class__" tk)) ?_
  unfold Builtin.«object.__getattribute__»
  refine wpAny_bind (wpAny_of_eq (a := ((Value.ref x : Value), [Value.str "__class__" tk])) (by first | rfl | (simp only [slotArgs]; rfl)) ?_)
  refine wpAny_bind (wpAny_pure (wpAny_bind (l0.at (wpAny_bind (l3.at ?_)))))
  show wpAny _ _ (holding [Value.builtin "object.__class__"] (call (.builtin "getset_descriptor.__get__") [.builtin "object.__class__", .ref x, .ref D]) >>= ret) _ _ _
  refine wpAny_bind (wpAny_holding (wpAny_call (class_get (s := ⟨hp, gs, dr, tk + 1, os⟩) (ox := ox) (od := od) X I C.hm ?_)))
  refine wpAny_pure ?_
  show wpAny _ _ (handedOut (.ref D)) _ _ _
  rw [handedOut_of (v := .ref D) rfl]
  first
    | exact wpAny_pure (wpAny_pure h)
    | exact wpAny_pure h
    | exact wpAny_pure (wpAny_bind (wpAny_pure (wpAny_pure h)))
theorem fw_kitx (C : L2.ExcC K D) : KitX K (.ref x) (.ref D) (fun h => InstAt h x ox D od) where
  ty := fun _ _ _ I => I.type
  it := fun _ _ X _ => by
    obtain ⟨cd, hc, _⟩ := any_some C.hd
    unfold clsIn at hc; split at hc
    · rename_i ho
      intro A Q E s k q; unfold isType loadHead
      exact wpAny_bind (wpAny_loadPart (k _ _ (X _ _ ho)) (wpAny_pure q))
    · exact nomatch hc
  ne := fun h tp dd its n sl X htp => (handS_kitx_exc (x := x) (ox := ox) C.hg C.hk C.hs C.hd C.ha C.hn C.ht C.hm).ne h tp dd its n sl X htp
  ca := fun X I k => fw_class C X I k
end
end PySem.W

namespace FW
open PySem L2 PyProof.Rows
/-- an exception that is kept, at a: its class, its dict -/
def ExT (a : Addr) (cls : Value) (d : Option Addr) : HO := .ext fun h => ∃ (oe : Obj) (vs : Array Value), h.get? a = some oe ∧ Zc cls d oe ∧ oe.data = .fields vs
theorem exT_ok {P : Program} {w : World} {H : Hp} {h : Heap} {a : Addr} {cls : Value} {d : Option Addr} {oe : Obj} {vs : Array Value} (e : h.get? a = some oe) (z : Zc cls d oe) (f : oe.data = .fields vs) : ObjOk P w H h a (ExT a cls d) :=
  ⟨⟨oe, vs, e, z, f⟩, ⟨oe, e⟩, fun _ _ ⟨o, v, q, r⟩ k => ⟨o, v, k o q, r⟩⟩
theorem exT_at {P : Program} {w : World} {H : Hp} {h : Heap} {a : Addr} {cls : Value} {d : Option Addr} (ok : HOk P w H h) (e : H a = some (ExT a cls d)) : ∃ (oe : Obj) (vs : Array Value), h.get? a = some oe ∧ Zc cls d oe ∧ oe.data = .fields vs := by
  have x : ObjOk P w H h a (.ext fun h => ∃ (oe : Obj) (vs : Array Value), h.get? a = some oe ∧ Zc cls d oe ∧ oe.data = .fields vs) := ok a _ e
  exact x.1
section
variable {X : Cx} {pins : List (Addr × Obj)} {σ : L2.St} {H : Hp} {sI s' : Shared} {B : Heap} {a : Addr} {cls : Value} {d : Option Addr} {oe : Obj} {vs : Array Value}
/-- an exception has landed, and is kept from now on -/
theorem landT (I : Inv X pins σ H sI) (nb : ∀ b o, sI.heap.get? b = some o → b ∉ frs X.stack → B.get? b = some o) (ba : B.get? a = none) (na : H a = none) (nfr : a ∉ frs X.stack) (st : B.StaysIn s'.heap) (up : sI.heap.UpToSlots s'.heap) (os : s'.os = sI.os)
    (ag : AllBare s'.gens) (e : s'.heap.get? a = some oe) (z : Zc cls d oe) (f : oe.data = .fields vs) : Inv X pins σ (upd H a (ExT a cls d)) s' := by
  have gone : sI.heap.get? a = none := by
    cases q : sI.heap.get? a with
    | none => rfl
    | some o => have := nb a o q nfr; rw [ba] at this; exact nomatch this
  have ne : ∀ b o, sI.heap.get? b = some o → b ≠ a := fun b o q y => by rw [y, gone] at q; exact nomatch q
  have slot : ∀ b ∈ frs X.stack, ∀ o, sI.heap.get? b = some o → ∃ sl, s'.heap.get? b = some { o with slots := sl } := fun b hb o q => by
    obtain ⟨_, o', q', hd⟩ := I.stack.mem hb
    rw [q] at q'; cases q'
    exact up b o q hd
  refine I.call' (ch := []) os ⟨fun b o q _ hb _ => st b o (nb b o q hb), fun b o q _ hb _ => slot b hb o q, fun b o q n _ => by rw [upd_ne (ne b o q)]; exact n, fun b o q _ => ?_, fun b xs q => by rw [upd_ne (ne_of_none q na)]; exact q,
    fun b o u q => by rw [upd_ne (ne_of_none q na)]; exact q, fun b ps q => ⟨#[], by rw [upd_ne (ne_of_none q na), q]; simp⟩⟩ ?_ ag (fun _ y => nomatch y)
  · by_cases hb : b ∈ frs X.stack
    · obtain ⟨sl, y⟩ := slot b hb o q
      exact ⟨_, y⟩
    · exact ⟨o, st b o (nb b o q hb)⟩
  · exact HOk.laidN ((I.inGround nb).kept st) (fun _ _ y => y) na (exT_ok e z f)
/-- into a suite whose exception is kept -/
theorem toSuite (I : Inv X pins σ H sI) : Inv (X.suite a (X.pn ++ pins)) [] σ H sI :=
  ⟨I.ok.suite _ _, I.os, I.bare, I.base, I.loc, I.cell, I.free, I.freeC, fun p hp => by rw [List.append_nil] at hp; exact I.pin p hp, I.hok, I.len⟩
theorem ofSuite {pn' : List (Addr × Obj)} (I : Inv (X.suite a (X.pn ++ pins)) pn' σ H sI) (ok : X.Ok) : Inv X pins σ H sI :=
  ⟨ok, I.os, I.bare, I.base, I.loc, I.cell, I.free, I.freeC, fun p hp => I.pin p (List.mem_append_left _ hp), I.hok, I.len⟩
end
/-- what is wished of an exception by «except c as n: y = n»: it is kept; slot i is n's, slot j is y's -/
def wKeep (K : PySem.W.Frag) (c : Value) (n i j : Nat) (D : Ends) : WX := fun cls d σ H => PySem.W.exmOne K cls c = some true ∧ ∀ a, H a = none → σ.length = n → D.nx (((σ.set i (some (.ref a))).set j (some (.ref a))).set i none) (upd H a (ExT a cls d))
section
variable {X : Cx} {x n y : Str} {c : Value} {i j : Nat} {body : List Stmt} {np py pn' pa pos pos' : Pos} {tb : WX → TS}
theorem ps_try_keep (hs : X.stack = X.env :: X.outer) (hf : X.env.frame = some X.env.locals) (hN : X.N.Nodup) (hi : X.N[i]? = some n) (hln : X.env.kindOf n = some .local) (hj : X.N[j]? = some y) (hly : X.env.kindOf y = some .local) (hij : i ≠ j) (hc : Names X x c)
    (hb : ∀ (W : WX) (pn : List (Addr × Obj)) (xe : Value → Shared → Prop), Takes (X.tr pn xe) W → PassesOwn (model X.prog X.w) X.A X.env xe → PSs (X.tr pn xe) body (tb W))
    (hsw : swapsWith (.Name n pn') (some (.Name y py)) pa.line X.env = pure false := by rfl) (hdn : (n == ("__debug__" : Str)) = false := by decide) (hcn : (n == ("__classdict__" : Str)) = false := by decide) :
    PS X (.Try body [.ExceptHandler (some (.Name x np)) (some n) [.Assign [.Name y py] (.Name n pn') pa] pos'] [] [] pos) (fun D σ H => i < σ.length ∧ tb (wKeep X.K c X.N.length i j D) D σ H) := by
  refine ⟨fun pins s σ H D I h => ?_⟩
  obtain ⟨hlen, h⟩ := h
  have ok := I.ok
  have hfr : X.A.frames = some (X.env :: X.outer) := by rw [ok.frames, hs]
  refine wpAny_Try_except ?_
  refine wpAny_mono ((hb (wKeep X.K c X.N.length i j D) (X.pn ++ pins) _ (fun u s1 xx => ?c1) PassesOwn.looking).run [] s σ H D (I.toTry _) h) (fun f s1 hsp => ?flow) (fun e s1 he => he)
  case flow =>
    cases f with
    | next => obtain ⟨σ1, H1, J, q⟩ := hsp; exact wpAny_execs_nil ⟨σ1, H1, J.ofTry ok, q⟩
    | brk => obtain ⟨σ1, H1, J, q⟩ := hsp; exact ⟨σ1, H1, J.ofTry ok, q⟩
    | cont => obtain ⟨σ1, H1, J, q⟩ := hsp; exact ⟨σ1, H1, J.ofTry ok, q⟩
    | ret u => obtain ⟨v, σ1, H1, J, r, q⟩ := hsp; exact ⟨v, σ1, H1, J.ofTry ok, r, q⟩
  case c1 =>
    obtain ⟨a, B, sI, pins1, σ1, H1, cls, d, rfl, J1, nb, up, sky, na, os, ag, hm, hyes⟩ := xx
    have J : Inv X pins σ1 H1 sI := J1.ofTry ok
    have sky1 : Sky B (X.env :: X.outer) a (Zc cls d) X.env.locals s1.heap := by rw [← hs]; exact sky
    show wpAny (model X.prog X.w) X.A (noteFrame (.ref a) X.env) _ _ _
    refine Sky.land Zc.steady hfr hf sky1 fun h3 fl3 up3 => ?_
    obtain ⟨oe3, vs3, he3, hz3, hd3⟩ := fl3.there
    have notFr : a ∉ frs X.stack := fun hmem => by
      rw [hs] at hmem
      obtain ⟨_, o', e', hnf⟩ := fl3.2.2.1.mem hmem
      rw [he3] at e'; cases e'
      exact hnf _ hd3
    have J3 : Inv X pins σ1 (upd H1 a (ExT a cls d)) { s1 with heap := h3 } := landT J nb fl3.2.1 na notFr fl3.1 (up.trans up3) os ag he3 hz3 hd3
    have S3 : Inv (X.suite a (X.pn ++ pins)) [] σ1 (upd H1 a (ExT a cls d)) { s1 with heap := h3 } := toSuite J3
    refine wpAny_handleBy_cons (codeAny_handlers_test ?_) (by intro q; cases q)
    have lt : PySem.W.Looks (model X.prog X.w) h3 (typeOf (.ref a)) cls := fun A Q E s k q => wpAny_typeOf_ref (k _ _ he3) (by rw [hz3.1]; exact q)
    have lm := PySem.W.exm_one (M := model X.prog X.w) J3.kIn lt hm
    have test : ∀ {Q : Value → Shared → Prop} {E : Value → Shared → Prop}, Q c { s1 with heap := h3 } → wpAny (model X.prog X.w) (X.A.mark (some (.ref a))) (eval (.Name x np) X.env) Q E { s1 with heap := h3 } := fun {Q E} q => by
      obtain ⟨g1, g2, g3 | ⟨g3, g4, g5⟩⟩ := hc
      · exact ld_glob (X := X.suite a (X.pn ++ pins)) S3 g1 g3 q g2
      · exact ld_blt (X := X.suite a (X.pn ++ pins)) S3 g1 g3 g4 q g5 g2
    refine test (lm.here ?_)
    refine codeAny_handlers_suite_as (HandSPX.lands_againZ fl3 fun h4 fl4 up4 => ?_)
    obtain ⟨oe4, vs4, he4, hz4, hd4⟩ := fl4.there
    have J4 : Inv X pins σ1 (upd H1 a (ExT a cls d)) { s1 with heap := h4 } := landT J nb fl4.2.1 na notFr fl4.1 ((up.trans up3).trans up4) os ag he4 hz4 hd4
    refine store_ok (X := X.suite a (X.pn ++ pins)) (v := .ref a) (toSuite J4) hN hi (.inl hln) rfl (fun s5 S5 => ?_) (.inr hln)
    have suite : PSs (X.suite a (X.pn ++ pins)) [.Assign [.Name y py] (.Name n pn') pa] (tAsg (tVar i) (gName j)) :=
      pss_one (ps_set hN hj (.inl hly) (pe_var hi (.inl hln) hdn hcn) hsw (.inr hly))
    refine wpAny_mono (suite.run [] s5 _ _ { nx := fun σ6 H6 => D.nx (σ6.set i none) H6, rt := fun _ _ => False } S5 ?_) (fun f s6 hsp => ?_) (fun _ _ z => z.elim)
    · refine ⟨.ref a, ?_, ?_⟩
      · have : i < σ1.length := by rw [J.len]; rw [I.len] at hlen; exact hlen
        rw [List.getElem?_set_self this]
      · exact hyes a na J.len
    · cases f with
      | next =>
        obtain ⟨σ6, H6, S6, q6⟩ := hsp
        exact gone_ok (ofSuite S6 ok) hN hi hln fun s7 J7 => ⟨_, _, J7, q6⟩
      | brk => obtain ⟨σ6, H6, S6, q6⟩ := hsp; exact q6.elim
      | cont => obtain ⟨σ6, H6, S6, q6⟩ := hsp; exact q6.elim
      | ret u => obtain ⟨v6, σ6, H6, S6, r6, q6⟩ := hsp; exact q6.elim
end

/-- isinstance(e, c), e an exception that is kept -/
def rIsX (K : PySem.W.Frag) : List V → Hp → VK → Prop := fun xs H Q => ∃ (a D : Addr) (d : Option Addr) (c : V) (cv : Value) (b : Bool), xs = [.ref a, c] ∧ H a = some (ExT a (.ref D) d) ∧ ExcC K D ∧
  (d = none ∨ ∃ (dd : Addr) (fs : List (Str × V)), d = some dd ∧ H dd = some (.xd fs)) ∧ ClsV c cv ∧ PySem.W.kitOne K (.ref D) cv = some b ∧ Q (.bl b) H
theorem inst_of {X : Cx} {pins : List (Addr × Obj)} {σ : L2.St} {H : Hp} {s : Shared} {a D : Addr} {d : Option Addr} (I : Inv X pins σ H s) (e : H a = some (ExT a (.ref D) d)) (hd : d = none ∨ ∃ (dd : Addr) (fs : List (Str × V)), d = some dd ∧ H dd = some (.xd fs)) :
    ∃ (ox : Obj) (od : Option Obj), PySem.W.InstAt s.heap a ox D od := by
  obtain ⟨oe, vs, h1, h2, h3⟩ := exT_at I.hok e
  obtain ⟨oc, ob, odt, osl⟩ := oe
  obtain ⟨z1, z2⟩ := h2
  dsimp only at z1 z2 h3
  subst z1 z2 h3
  rcases hd with rfl | ⟨dd, fs, rfl, hx⟩
  · exact ⟨_, none, h1, rfl, rfl, trivial⟩
  · obtain ⟨mA, ⟨o, es, ep, ho, _⟩, _⟩ := (show ObjOk X.prog X.w H s.heap dd (.xd fs) from I.hok dd _ hx)
    exact ⟨_, some o, h1, rfl, rfl, ho⟩
theorem call_isX {X : Cx} : CallR X (.builtin "isinstance") (rIsX X.K) := by
  intro pins s σ H xs us Q I r h
  obtain ⟨a, D, d, c, cv, b, rfl, e, C, hd, k, q1, q⟩ := h
  obtain ⟨u1, u2, rfl, r1, r2⟩ := vals2 r
  cases (show u1 = Value.ref a from r1)
  have e2 := k.eq r2
  subst e2
  obtain ⟨ox, od, J⟩ := inst_of I e hd
  exact PySem.W.kia_one (PySem.W.fw_kitx C) I.kIn J q1 (fun z => nomatch z) fun tk => ⟨.bl b, H, I.tok tk, rfl, q⟩
/-- isinstance of a plain value, or of an exception that is kept -/
def rIsA (K : PySem.W.Frag) : List V → Hp → VK → Prop := fun xs H Q => rIsi K xs H Q ∨ rIsX K xs H Q
theorem call_isA {X : Cx} : CallR X (.builtin "isinstance") (rIsA X.K) := by
  intro pins s σ H xs us Q I r h
  rcases h with h | h
  · exact call_isi pins s σ H xs us Q I r h
  · exact call_isX pins s σ H xs us Q I r h
theorem w_isIntA {K : PySem.W.Frag} {H : Hp} {Q : VK} {v : V} (h : Kn K H v) (q : Q (.bl (isIntB v)) H) : rIsA K [v, .ty "int"] H Q := Or.inl (w_isInt h q)
theorem w_isBlA {K : PySem.W.Frag} {H : Hp} {Q : VK} {v : V} (h : Kn K H v) (q : Q (.bl (isBl v)) H) : rIsA K [v, .ty "bool"] H Q := Or.inl (w_isBl h q)
theorem w_isStrA {K : PySem.W.Frag} {H : Hp} {Q : VK} {v : V} (h : Kn K H v) (q : Q (.bl (isStr v)) H) : rIsA K [v, .ty "str"] H Q := Or.inl (w_isStr h q)
/-- e.f, e an exception that is kept -/
def tXt (K : PySem.W.Frag) (f : Str) (te : TE) : TE := fun σ H Q => te σ H fun x H1 => ∃ (a C dd : Addr) (fs : List (Str × V)) (v : V), x = .ref a ∧ H1 a = some (ExT a (.ref C) (some dd)) ∧ H1 dd = some (.xd fs) ∧ XfC K C ∧
  PySem.W.findIn K (.ref C) f = some none ∧ fs.lookup f = some v ∧ Q v H1
theorem pe_xt {X : Cx} {e : Expr} {te : TE} {pos : Pos} {f : Str} (he : PE X e te) (hb : attributeBase e f X.env (eval e X.env) = eval e X.env := by rfl) : PE X (.Attribute e f pos) (tXt X.K f te) := by
  refine ⟨fun pins s σ H Q I h => attr_of hb (thn (he.run pins s σ H _ I h) fun u s1 ⟨x, H1, I1, rx, a, C, dd, fs, v, ex, ea, ed, T, hno, hl, q⟩ => ?_)⟩
  subst ex
  obtain rfl : u = Value.ref a := rx
  obtain ⟨oe, vs, h1, h2, h3⟩ := exT_at I1.hok ea
  obtain ⟨mA, hns, hr⟩ := (show ObjOk X.prog X.w H1 s1.heap dd (.xd fs) from I1.hok dd _ ed)
  obtain ⟨od, ho, l⟩ := lookIn_ns hns
  obtain ⟨z, hz, rz⟩ := RelO.some_of (v := v) (o := mA f) (by rw [← hl]; exact hr f)
  have J : PySem.W.InstAt s1.heap a oe C (some od) := ⟨h1, h2.1, by unfold PySem.W.notCls; rw [h3] <;> rfl, by rw [h2.2]; exact ho⟩
  exact HandSPX.exc_get I1.kIn J T.ga T.gg T.exC (PySem.W.findObj_own T.hdC hno rfl (by rw [l, hz])) (handed_of rz) ⟨v, H1, I1.tok _, rz, q⟩

/-! ### an own exception of one field, made and raised -/
/-- its __init__: self.f = v -/
def spInit1 (K : PySem.W.Frag) (C : Addr) (f : Str) : Sp := fun vs H Q _ => ∃ (a : Addr) (v : V), vs = [.ref a, v] ∧ OexC K C ∧ PySem.W.findIn K (.ref C) f = some none ∧ H a = some (exo a C none) ∧
  ∀ dx, H dx = none → dx ≠ a → Q .non (upd (upd H dx (exd dx [(f, v)])) a (exo a C (some dx)))
/-- what the text says of such a class -/
structure Exn (P : Program) (w : World) (K : PySem.W.Frag) (mg : Str → Option Value) (base : Heap) (cn f : Str) (C : Addr) : Prop where
  oex : OexC K C
  gC : mg cn = some (.ref C)
  no : PySem.W.findIn K (.ref C) f = some none
  xf : XfC K C
  exc : ExcC K C
  init : ∃ (fI : Addr) (fd : FuncData) (ps : List Str), PySem.W.findIn K (.ref C) "__init__" = some (some (.ref fI)) ∧ PySem.W.typeIn K (.ref fI) = some (.type "function") ∧ FnOk P w K mg base CX0 1 fI fd ps (spInit1 K C f) ∧ Binds K fd ps []
theorem del_upd {H : Hp} {a d : Addr} {o1 o2 o3 o4 : HO} (n : H a = none) (hne : d ≠ a) : upd (del (upd (upd (upd H a o1) d o2) a o3) a) d o4 = upd H d o4 := by
  funext b
  by_cases h1 : b = d
  · subst h1; rw [upd_same, upd_same]
  · rw [upd_ne h1, upd_ne h1]
    by_cases h2 : b = a
    · subst h2; rw [del_same, n]
    · rw [del_ne h2, upd_ne h2, upd_ne h1, upd_ne h2]
def rMk1 (K : PySem.W.Frag) (C : Addr) (f : Str) (Q : XK) : List V → Hp → Prop := fun vs H1 => vs.length ≤ 1000 ∧ ∀ a, H1 a = none → spInit1 K C f (.ref a :: (vs ++ [])) (upd H1 a (exo a C none))
  (fun v H2 => v = .non ∧ ∃ (d : Addr) (fs : List (Str × V)), H2 a = some (exo a C (some d)) ∧ H2 d = some (exd d fs) ∧ H1 d = none ∧ Q (.ref C) (some d) (upd (del H2 a) d (.xd fs))) (fun _ _ _ => False)
theorem w_mk1 {K : PySem.W.Frag} {C : Addr} {f : Str} {Q : XK} {v : V} {H1 : Hp} (T : OexC K C) (no : PySem.W.findIn K (.ref C) f = some none) (q : ∀ d, H1 d = none → Q (.ref C) (some d) (upd H1 d (.xd [(f, v)]))) : rMk1 K C f Q [v] H1 := by
  refine ⟨by simp, fun a na => ⟨a, v, rfl, T, no, upd_same, fun dx n1 n2 => ⟨rfl, dx, [(f, v)], upd_same, ?_, ?_, ?_⟩⟩⟩
  · rw [upd_ne n2, upd_same]
  · rw [upd_ne n2] at n1; exact n1
  · rw [del_upd na n2]; rw [upd_ne n2] at n1; exact q dx n1
def tRaise1 (K : PySem.W.Frag) (C : Addr) (f : Str) (W : WX) (ta : TA) : TS := fun _ σ H => ta σ H (rMk1 K C f fun cls d H' => W cls d σ H')
theorem ps_raise1 {X : Cx} {W : WX} {cn f : Str} {C : Addr} {e : Expr} {ta : TA} {p pos pos2 : Pos} (T : Exn X.prog X.w X.K X.mg X.base cn f C) (hc : X.calm = true) (hr : Room 2 X.A) (tk : Takes X W) (ha : PA X [e] ta) (hg : Gl X cn)
    (hdb : (cn == ("__debug__" : Str)) = false := by decide) (he : starEach (e :: []) X.env = (false, eval e X.env) :: starEach [] X.env := by rfl) (hpl : (backTo pos (starEach [] X.env)).any (·.1) = false := by rfl) :
    PS X (.Raise (some (.Call (.Name cn p) [e] [] pos)) none pos2) (tRaise1 X.K C f W ta) := by
  obtain ⟨fI, fd, ps, iC, tI, F, b⟩ := T.init
  exact ps_raise hc tk (pmk_oex (p := p) (dvs := []) (ds := []) T.oex iC tI F hr b .nil (fun _ _ _ _ _ _ _ z => z.elim) hg T.gC ha hdb he hpl)
theorem w_raise1 {K : PySem.W.Frag} {C : Addr} {f : Str} {W : WX} {ta : TA} {σ : L2.St} {H : Hp} {D : Ends} (h : ta σ H (rMk1 K C f fun cls d H' => W cls d σ H')) : tRaise1 K C f W ta D σ H := h
end FW

set_option maxRecDepth 100000
set_option maxHeartbeats 4000000
/-! fair weather: repr of what a law makes; defs that are promised where no repr is under way -/
namespace FW
open PySem L2 PyProof.Rows
/-- what repr shows of a value -/
def rShow (K : PySem.W.Frag) : List V → Hp → VK → Prop := fun xs H Q =>
  (∃ i, xs = [.int i] ∧ i.natAbs.log2 < 1920 ∧ Q (.str (PyData.shown (.int i))) H) ∨
  (∃ (a : Addr) (d : PyData), xs = [.ref a] ∧ Dp K H (.ref a) d ∧ d.showable = true ∧ d.hasDict = false ∧ d.depth ≤ 60 ∧ d.shown.length ≤ sizeLine ∧ Q (.str d.shown) H)
theorem call_show {X : Cx} (hg : X.A.guards = some []) (hu : X.A.units + 64 < cLine) : CallR X (.builtin "repr") (rShow X.K) := by
  intro pins s σ H xs us Q I r h
  rcases h with ⟨i, rfl, hz, q⟩ | ⟨a, d, rfl, hd, h1, h2, h3, h4, q⟩
  · exact SkE.call_repr_int pins s σ H [.int i] us Q I r ⟨i, rfl, hz, q⟩
  · obtain ⟨u, rfl, e⟩ := vals1 r
    obtain rfl : u = Value.ref a := e
    obtain ⟨as, rd⟩ := Dp.reads I d (.ref a) (.ref a) hd rfl
    exact repr_of_reads' rd h1 (PyData.noDict_hsm h2) hg (by omega) (fun _ _ e => e) (fun h' u tk hk => ⟨.str d.shown, H, I.kept hk, ⟨u, rfl⟩, q⟩) h4
/-- a def's promise, where no repr is under way -/
structure FnG (P : Program) (w : World) (K : PySem.W.Frag) (mg : Str → Option Value) (base : Heap) (CX : CXT) (k : Nat) (f : Addr) (fd : FuncData) (ps : List Str) (sp : Sp) : Prop where
  size : ∀ vs H Q E, sp vs H Q E → vs.length = ps.length
  goes : ∀ (A : Around) (outer : List Env) (s : Shared) (H : Hp) (args : Args) (us : List Value) (vs : List V) (Q : VK) (E : XK), A.guards = some [] → Room k A → Env0 P w K mg base A outer s H → BindsTo s fd args (ps.zip us) → Vals vs us →
    sp vs H Q E → codeAny (model P w) A (.call (.ref f) args) (CR CX outer P w H s Q E) s
section
variable {P : Program} {w : World} {K : PySem.W.Frag} {mg : Str → Option Value} {base : Heap} {CX : CXT}
theorem FnG.of {k : Nat} {f : Addr} {fd : FuncData} {ps : List Str} {sp : Sp} (F : FnOk P w K mg base CX k f fd ps sp) : FnG P w K mg base CX k f fd ps sp :=
  ⟨F.len, fun A outer s H args us vs Q E _ hr e0 hb hv hs => F.run A outer s H args us vs Q E hr e0 hb hv hs⟩
theorem guards_in {A : Around} {env : Env} (h : A.guards = some []) : (A.deeper env).guards = some [] := by
  exact h
theorem fun_okG {x qual : Str} {st : Stmt} {f : Addr} {fd : FuncData} {N ps : List Str} {k : Nat} {sp : Sp} (F : Fun K x qual st f fd) (S : FnScope N ps (defScope st)) (size : ∀ vs H Q E, sp vs H Q E → vs.length = ps.length)
    (walk : ∀ (cdv : Value) (A : Around) (outer : List Env) (s : Shared) (H : Hp) (vs : List V) (Q : VK) (E : XK), (A.deeper (envOfC qual (defScope st) s.heap.objs.size f cdv)).guards = some [] → Room k (A.deeper (envOfC qual (defScope st) s.heap.objs.size f cdv)) →
      (∀ oc od kV doc pm an ct osl, K.lookup f = some ⟨oc, od, .func (PySem.W.fnOf x qual (defArgs st) (defBody st) (defScope st) .none kV doc pm an cdv ct), osl⟩ → sp vs H Q E →
      ∃ t, PSs (cxOf CX P w K mg base N qual (defScope st) f cdv A outer s H E) (defBody st) t ∧ t { nx := fun _ H' => Q .non H', rt := Q } (L2.start N vs) H)) : FnG P w K mg base CX (k + 1) f fd ps sp := by
  obtain ⟨oc, od, kV, doc, pm, an, cdv, ct, osl, rfl, lk, hcd⟩ := F.ex
  exact ⟨size, fun A outer s H args us vs Q E hG hr e0 hb hv hs => LamX.run_ofS lk hcd S hr e0 hb hv (size _ _ _ _ hs) fun hr' => walk cdv A outer s H vs Q E (guards_in hG) hr' oc od kV doc pm an ct osl lk hs⟩
/-- a def under its name that is so promised -/
structure CanG (P : Program) (w : World) (K : PySem.W.Frag) (mg : Str → Option Value) (base : Heap) (CX : CXT) (k : Nat) (x : Str) (ps : List Str) (sp : Sp) : Prop where
  at_ : ∃ (f : Addr) (fd : FuncData), FnG P w K mg base CX k f fd ps sp ∧ mg x = some (.ref f) ∧ PySem.W.keepIn K (.ref f) = true ∧ Binds K fd ps []
theorem CanG.of {k : Nat} {x : Str} {ps : List Str} {sp : Sp} (c : Can P w K mg base CX k x ps sp) : CanG P w K mg base CX k x ps sp := by
  obtain ⟨f, fd, F, m, kp, b⟩ := c.ex
  exact ⟨f, fd, .of F, m, kp, b⟩
theorem canG_of {k : Nat} {x : Str} {st : Stmt} {ps : List Str} {sp : Sp} (d : DefOk K mg x st ps) (h : ∀ f fd, Fun K x x st f fd → FnG P w K mg base CX k f fd ps sp) : CanG P w K mg base CX k x ps sp := by
  obtain ⟨f, fd, F, m, b⟩ := d.ex
  exact ⟨f, fd, h f fd F, m, F.kp, b⟩
end
section
variable {X : Cx} {CX : CXT} {k j : Nat} {x : Str} {ps : List Str} {sp : Sp} {E : XK} {p pos : Pos} {e : Expr} {es : List Expr} {t : TA}
theorem pe_canG (c : CanG X.prog X.w X.K X.mg X.base CX k x ps sp) (hG : X.A.guards = some []) (hr : Room j X.A) (hk : k ≤ j) (hx : Passes CX X E) (hg : Gl X x) (ha : PA X (e :: es) t) (hdb : (x == ("__debug__" : Str)) = false := by decide)
    (he : starEach (e :: es) X.env = (false, eval e X.env) :: starEach es X.env := by rfl) (hpl : (backTo pos (starEach es X.env)).any (·.1) = false := by rfl) :
    PE X (.Call (.Name x p) (e :: es) [] pos) (tCall sp [] E t) := by
  obtain ⟨f, fd, F, m, kp, b⟩ := c.at_
  refine ⟨fun pins s σ H Q I h => wpAny_Call_Name_kw (ld_glob I hg m (PySem.W.callWith_K (h₀ := X.base) I.ok.mod.kin kp (thn (ha.run pos pins s σ H _ I h) fun us s1 y => ?_) he hpl) hdb)⟩
  obtain ⟨vs, H1, J, r, q⟩ := y
  rw [List.append_nil] at q
  have n : us.length = ps.length := by rw [← r.length]; exact F.size _ _ _ _ q
  have bind := b s1 us J.kIn (by rw [List.append_nil]; exact n)
  rw [List.append_nil] at bind
  refine ⟨J.kIn, wpAny_call (codeAny_mono (F.goes X.A X.stack s1 H1 ⟨us, []⟩ us vs Q E hG (hr.mono hk) J.env0 bind r q) fun z s2 hz => ?_)⟩
  match z, hz with
  | .error err, hz => exact hx pins σ H1 s1 err s2 J hz
  | .ok (.ret u), hz => exact J.after hz
  | .ok .next, hz => exact (show False from hz).elim
  | .ok .brk, hz => exact (show False from hz).elim
  | .ok .cont, hz => exact (show False from hz).elim
end
end FW

set_option maxRecDepth 100000
set_option maxHeartbeats 4000000
/-! fair weather: from the promise of a law's def to the row, where no repr is under way -/
namespace FW
open PySem L2 PyProof.Rows LamX
section
variable {P : Program} {w : World} {K : PySem.W.Frag} {mg mb : Str → Option Value} {a : Addr} {cs : List (Addr × Addr)} {vs : List Value} {ns : List Int} {s : Shared}
/-- what stands behind the top, when the law is called -/
structure Ready (K : PySem.W.Frag) (mg mb : Str → Option Value) (a : Addr) (cs : List (Addr × Addr)) (vs : List Value) (ns : List Int) (s : Shared) : Prop where
  kin : K.In s.heap
  glo : s.heap.Ns mainGlobals mg
  blt : s.heap.Ns builtinsNs mb
  same : ∀ x : Str, x ≠ "__name__" → mb x = bootBuiltins x
  lim : s.heap.NoLimit
  gens : s.gens = #[]
  tabs : ∀ p ∈ cs, s.heap.get? p.2 = some { cls := .none, data := .fields #[] }
  off : ∀ p ∈ cs, K.lookup p.2 = none
  heads : ∀ p ∈ cs, PySem.W.CodeHd s.heap p.1 p.2
  bmain : ∃ (bm : Addr) (ob : Obj), mg "__builtins__" = some (.ref bm) ∧ bm ≠ builtinsNs ∧ s.heap.get? bm = some ob ∧ ob.cls = .type "module" ∧ ob.dict = some builtinsNs ∧ ob.data = .plain
  list : s.heap.get? a = some { cls := .type "list", data := .seq vs.toArray }
  nums : IntsAre vs ns
  size : ns.length ≤ sizeLine
/-- what an abstract heap may track then -/
structure Tracks (K : PySem.W.Frag) (a : Addr) (cs : List (Addr × Addr)) (H : Hp) : Prop where
  all : ∀ b u, H b = some u → (b = a ∧ K.lookup a = none ∧ ∃ o xs, u = .frz o (.lst xs)) ∨ ∃ p ∈ cs, b = p.2 ∧ u = .tbl #[]
  tab : ∀ p ∈ cs, H p.2 = some (.tbl #[])
variable {H : Hp}
theorem Ready.lone (R : Ready K mg mb a cs vs ns s) {p : Addr × Addr} (hp : p ∈ cs) : p.2 ≠ a := fun z => by
  have q := R.tabs p hp
  rw [z, R.list] at q
  cases q
/-- an object that is no list and no table is not tracked -/
theorem Ready.other (R : Ready K mg mb a cs vs ns s) (T : Tracks K a cs H) {b : Addr} {o : Obj} (e : s.heap.get? b = some o) (h1 : ∀ us n, o.data ≠ .seq us n) (h2 : o.data ≠ .fields #[]) : H b = none := by
  match q : H b with
  | none => rfl
  | some u =>
    rcases T.all b u q with ⟨rfl, _⟩ | ⟨p, hp, rfl, _⟩
    · rw [R.list] at e; cases e; exact (h1 _ _ rfl).elim
    · rw [R.tabs p hp] at e; cases e; exact (h2 rfl).elim
theorem Ready.under (R : Ready K mg mb a cs vs ns s) (T : Tracks K a cs H) {b : Addr} {m : Str → Option Value} (h : s.heap.Ns b m) : (hidT s.heap H).Ns b m := by
  obtain ⟨o, es, ep, e, d, r⟩ := h
  refine ⟨o, es, ep, hidT_get e (R.other T e (fun us n z => ?_) (fun z => ?_)), d, r⟩ <;> (rw [d] at z; cases z)
theorem Ready.kbase (R : Ready K mg mb a cs vs ns s) (T : Tracks K a cs H) : K.In (hidT s.heap H) := by
  intro b o e
  refine hidT_get (R.kin b o e) ?_
  match q : H b with
  | none => rfl
  | some u =>
    rcases T.all b u q with ⟨rfl, n, _⟩ | ⟨p, hp, rfl, _⟩
    · rw [n] at e; cases e
    · rw [R.off p hp] at e; cases e
theorem Ready.tabB (R : Ready K mg mb a cs vs ns s) (T : Tracks K a cs H) {p : Addr × Addr} (hp : p ∈ cs) : TabB (hidT s.heap H) mg p.1 p.2 := by
  have tb := R.tabs p hp
  constructor
  · obtain ⟨o, us, file, tf, flags, tg, inF, text, tt, e, r1, r2, r3, rest⟩ := R.heads p hp
    refine ⟨o, us, file, tf, flags, tg, inF, text, tt, hidT_get e (R.other T e (fun _ _ z => ?_) (fun z => ?_)), r1, r2, r3, rest⟩ <;> (rw [r2] at z; cases z)
    simp at r3
  · obtain ⟨bm, ob, b1, b2, b3, b4, b5, b6⟩ := R.bmain
    have plain : H bm = none := R.other T b3 (fun _ _ z => by rw [b6] at z; cases z) (fun z => by rw [b6] at z; cases z)
    refine ⟨bm, ob, b1, b2, fun q => ?_, fun q => ?_, hidT_get b3 plain, b4, b5, b6⟩
    · obtain ⟨o, es, ep, e, d, _⟩ := R.glo
      rw [q, e] at b3; cases b3
      rw [d] at b6; cases b6
    · rw [q, tb] at b3; cases b3; cases b6
  · intro z
    obtain ⟨o, es, ep, e, d, _⟩ := R.glo
    rw [z, tb] at e; cases e; cases d
theorem Ready.env (R : Ready K mg mb a cs vs ns s) (T : Tracks K a cs H) (ok : HOk P w H s.heap) : Env0 P w K mg (hidT s.heap H) callerA [] s H where
  frames := rfl
  mod := ⟨R.kbase T, R.under T R.glo, ⟨mb, R.under T R.blt, R.same⟩, by obtain ⟨mc, h1, h2⟩ := R.lim; exact ⟨mc, R.under T h1, h2⟩⟩
  bs := fun b o e => of_hidT e
  bsz := Nat.le_of_eq (hidT_size _ _)
  funs := trivial
  frf := fun b hb => nomatch (show b ∈ ([] : List Addr) from hb)
  hok := ok
  bare := .of_eq R.gens
/-- the law's call, from such a heap -/
theorem Ready.call (R : Ready K mg mb a cs vs ns s) (T : Tracks K a cs H) (ok : HOk P w H s.heap) (sq : SqL K H a (ns.map V.int)) {CX : CXT} {k : Nat} {fa : Addr} {fd : FuncData} {x : Str} {sp : Sp} (hr : Room k callerA)
    (F : ∀ base : Heap, K.In base → base.Ns mainGlobals mg → (∀ p ∈ cs, TabB base mg p.1 p.2) → FnG P w K mg base CX k fa fd [x] sp) (bind : ∀ (s : Shared) (u : Value), BindsTo s fd ⟨[u], []⟩ [(x, u)])
    (hsp : sp [.ref a] H (fun v _ => v = .bl true) fun _ _ _ => False) (hCX : ∀ H e s', CX [] H s (fun _ _ _ => False) e s' → False) :
    codeAny (model P w) callerA (.call (.ref fa) ⟨[.ref a], []⟩) (fun r s' => r = .ok (.ret (.bool true)) ∧ OldK s.heap s'.heap ∧ s'.os = s.os ∧ AllBare s'.gens) s := by
  have G := F _ (R.kbase T) (R.under T R.glo) (fun p hp => R.tabB T hp)
  refine codeAny_mono (G.goes callerA [] s H ⟨[.ref a], []⟩ [.ref a] [.ref a] (fun v _ => v = .bl true) (fun _ _ _ => False) rfl hr (R.env T ok) (bind s (.ref a)) (.cons rfl .nil) hsp) fun z s' hz => ?_
  match z, hz with
  | .error err, hz => exact (hCX H err s' hz).elim
  | .ok .next, hz => exact (show False from hz).elim
  | .ok .brk, hz => exact (show False from hz).elim
  | .ok .cont, hz => exact (show False from hz).elim
  | .ok (.ret u), hz =>
    obtain ⟨v, H', os, bare, un, ok', rv, rfl⟩ := hz
    obtain rfl : u = Value.bool true := rv
    have old : ∀ b o, (∀ p ∈ cs, p.2 ≠ b) → s.heap.get? b = some o → s'.heap.get? b = some o := fun b o nb e => by
      match q : H b with
      | none => exact un.keep b o e q (fun z => nomatch (show b ∈ ([] : List Addr) from z)) (by simp)
      | some u =>
        rcases T.all b u q with ⟨rfl, _, ob, xs, rfl⟩ | ⟨p, hp, e2, _⟩
        · have e1 := (ok b _ q).1
          have e2 := (ok' b _ (un.frzs b ob _ q)).1
          rw [e] at e1; cases e1
          exact e2
        · exact (nb p hp e2.symm).elim
    have more : ∀ p ∈ cs, ∃ m : Array Value, s'.heap.get? p.2 = some { cls := .none, data := .fields m } := fun p hp => by
      obtain ⟨m, q⟩ := un.tbls p.2 #[] (T.tab p hp)
      exact ⟨_, ok' p.2 _ q⟩
    refine ⟨rfl, ⟨fun b o e => ?_, fun b o e => ?_⟩, os, bare⟩
    · by_cases hb : ∃ p ∈ cs, p.2 = b
      · obtain ⟨p, hp, rfl⟩ := hb
        obtain ⟨m, hm⟩ := more p hp
        have tb := R.tabs p hp
        rw [tb] at e; cases e
        exact .inr (.inl ⟨((R.heads p hp).tab tb).isCodeTable, rfl, #[], m, rfl, by rw [Array.empty_append]; exact hm⟩)
      · exact .inl (old b o (fun p hp z => hb ⟨p, hp, z⟩) e)
    · by_cases hb : ∃ p ∈ cs, p.2 = b
      · obtain ⟨p, hp, rfl⟩ := hb
        obtain ⟨m, hm⟩ := more p hp
        exact ⟨_, hm⟩
      · exact ⟨o, old b o (fun p hp z => hb ⟨p, hp, z⟩) e⟩
open Classical in
/-- the heap that tracks the tables, and the script where the text's part of the heap does not hold it -/
noncomputable def H0 (K : PySem.W.Frag) (a : Addr) (cs : List (Addr × Addr)) (vs : List Value) (ns : List Int) : Hp := fun b =>
  if ∃ p ∈ cs, p.2 = b then some (.tbl #[]) else if b = a ∧ K.lookup a = none then some (.frz { cls := .type "list", data := .seq vs.toArray } (.lst (ns.map V.int))) else none
theorem h0_tab {b : Addr} (h : ∃ p ∈ cs, p.2 = b) : H0 K a cs vs ns b = some (.tbl #[]) := by unfold H0; exact if_pos h
theorem h0_list (h : ¬ ∃ p ∈ cs, p.2 = a) (n : K.lookup a = none) : H0 K a cs vs ns a = some (.frz { cls := .type "list", data := .seq vs.toArray } (.lst (ns.map V.int))) := by
  unfold H0; rw [if_neg h]; exact if_pos ⟨rfl, n⟩
theorem Ready.tracks (R : Ready K mg mb a cs vs ns s) : Tracks K a cs (H0 K a cs vs ns) := by
  refine ⟨fun b u e => ?_, fun p hp => h0_tab ⟨p, hp, rfl⟩⟩
  unfold H0 at e
  split at e
  · rename_i h; obtain ⟨p, hp, e2⟩ := h; cases e
    exact .inr ⟨p, hp, e2.symm, rfl⟩
  · split at e
    · rename_i h; cases e
      exact .inl ⟨h.1, h.2, _, _, rfl⟩
    · cases e
theorem Ready.ok0 (R : Ready K mg mb a cs vs ns s) : HOk P w (H0 K a cs vs ns) s.heap := by
  intro b u e
  unfold H0 at e
  split at e
  · rename_i h; obtain ⟨p, hp, rfl⟩ := h; cases e
    exact R.tabs p hp
  · split at e
    · rename_i h; cases e
      obtain ⟨rfl, _⟩ := h
      exact ⟨R.list, by rw [List.length_map]; exact R.size, vs, _, vals_ints R.nums, R.list⟩
    · cases e
theorem Ready.sq0 (R : Ready K mg mb a cs vs ns s) : SqL K (H0 K a cs vs ns) a (ns.map V.int) := by
  have no : ¬ ∃ p ∈ cs, p.2 = a := fun ⟨p, hp, z⟩ => R.lone hp z
  match q : K.lookup a with
  | none => exact .inl (.inr ⟨_, h0_list no q⟩)
  | some o =>
    have e := R.kin a o q
    rw [R.list] at e; cases e
    exact .inr ⟨_, vs.toArray, _, q, rfl, rfl, rfl, by rw [List.size_toArray, R.nums.length]; exact R.size, by simpa using vals_ints R.nums⟩
end
/-- what is known of a law's promise behind the top -/
structure LawG (l : PySem.W.OpenLaw) (w : World) (K : PySem.W.Frag) (k n : Nat) (x : Str) (mg : Str → Option Value) (fa : Addr) (h : Heap) : Prop where
  ex : ∃ (fd : FuncData) (cs : List (Addr × Addr)) (sp : Sp), (∀ p ∈ cs, h.get? p.2 = some { cls := .none, data := .fields #[] }) ∧ (∀ p ∈ cs, K.lookup p.2 = none) ∧ (∀ p ∈ cs, PySem.W.CodeHd h p.1 p.2) ∧ (∀ (s : Shared) (u : Value), BindsTo s fd ⟨[u], []⟩ [(x, u)]) ∧
    (∀ (H : Hp) (a : Addr) (ns : List Int), ns.length ≤ n → (∀ z ∈ ns, Builtin.Int.intBits z ≤ 1048576) → (∀ p ∈ cs, H p.2 = some (.tbl #[])) → SqL K H a (ns.map V.int) → sp [.ref a] H (fun v _ => v = .bl true) fun _ _ _ => False) ∧
    ∀ base : Heap, K.In base → base.Ns mainGlobals mg → (∀ p ∈ cs, TabB base mg p.1 p.2) → FnG l.prog w K mg base L2.CX0 k fa fd [x] sp
theorem walkG {l : PySem.W.OpenLaw} {n k : Nat} {q : Program} {loose : List Str} {XP : (Str → Option Value) → Heap → Prop} {YP : World → Heap → Prop} {d : DefRec} {x : Str} (hn : l.most = some n) (hn2 : n ≤ sizeLine) (hdf : d.params.defaults = []) (hr : Room k callerA)
    (F : ∀ (w : World) (mg : Str → Option Value) (fa : Addr) (h : Heap), YP w h → h.Ns mainGlobals mg → mg d.name = some (.ref fa) → ∃ K : PySem.W.Frag, K.In h ∧ LawG l w K k n x mg fa h) : PySem.W.WalkO q loose XP YP l.row.toRowW d [] (fun f vs => PySem.call f vs) := by
  refine Att.attach_callB hn hdf fun w s₀ s mg mb fa o pm cd doc a vs ns G Y ho hd hcd hmg hobj hints hlen hbits hg => ?_
  obtain ⟨K, KX, ⟨fd, cs, sp, hT, nT, C, hb, hsp, hF⟩⟩ := F w mg fa s.heap Y G.T.g hmg
  have R : Ready K mg mb a cs vs ns s := ⟨KX, G.T.g, G.T.b, G.T.builtins, G.T.nolimit, hg, hT, nT, C, G.T.bmain, hobj, hints, Nat.le_trans hlen hn2⟩
  exact R.call R.tracks R.ok0 R.sq0 hr hF hb (hsp _ a ns hlen hbits R.tracks.tab R.sq0) fun H e s' z => z
end FW

set_option maxRecDepth 100000
set_option maxHeartbeats 4000000
/-! fair weather: what the laws have in common -/
namespace FW
open PySem L2 PyProof.Rows
/-! ### kinds of values, carried on -/
theorem TyX.grow {K : PySem.W.Frag} {c : Addr} {H H' : Hp} {a : Addr} {t : Value} (e : Ext c H H') (n : a ≠ c) (h : TyX K H (.ref a) t) : TyX K H' (.ref a) t := by
  cases h with
  | base b =>
    refine .base ?_
    cases b with
    | lst h => exact .lst (e _ _ n h)
    | frz h => exact .frz (e _ _ n h)
    | tup h => exact .tup (e _ _ n h)
    | dK h => exact .dK (e _ _ n h)
    | dT h => exact .dT (e _ _ n h)
    | ins h a1 a2 a3 a4 a5 => exact .ins (e _ _ n h) a1 a2 a3 a4 a5
  | set h => exact .set (e _ _ n h)
  | kList h k => exact .kList h k
  | kTuple h k => exact .kTuple h k
  | kDict h k => exact .kDict h k
  | fTuple h => exact .fTuple (e _ _ n h)
  | fDict h => exact .fDict (e _ _ n h)
theorem Kn.ext {K : PySem.W.Frag} {c : Addr} {H H' : Hp} {v : V} (e : Ext c H H') (n : v ≠ .ref c) (h : Kn K H v) : Kn K H' v := by
  cases v with
  | ref a =>
    obtain ⟨T, hT, t⟩ := h
    exact ⟨T, hT, TyX.grow e (fun z => n (by rw [z])) t⟩
  | _ => exact h
theorem kn_lst {K : PySem.W.Frag} {H : Hp} {p : Addr} {xs : List V} (e : H p = some (.lst xs)) : Kn K H (.ref p) := ⟨"list", .inl rfl, .base (.lst e)⟩
theorem kn_tup {K : PySem.W.Frag} {H : Hp} {p : Addr} {xs : List V} (e : H p = some (.tup xs)) : Kn K H (.ref p) := ⟨"tuple", .inr (.inl rfl), .base (.tup e)⟩
theorem kn_dK {K : PySem.W.Frag} {H : Hp} {p : Addr} {xs : List (Key × V)} (e : H p = some (.dK xs)) : Kn K H (.ref p) := ⟨"dict", .inr (.inr rfl), .base (.dK e)⟩
/-! ### a def whose code object is known -/
structure DefOkC (K : PySem.W.Frag) (mg : Str → Option Value) (x : Str) (st : Stmt) (ps : List Str) (c : Addr) : Prop where
  ex : ∃ (f : Addr) (fd : FuncData), Fun K x x st f fd ∧ mg x = some (.ref f) ∧ Binds K fd ps [] ∧ fd.code = .ref c
section
variable {P : Program} {w : World} {K : PySem.W.Frag} {mg : Str → Option Value} {base : Heap} {CX : CXT} {k : Nat} {x : Str} {st : Stmt} {ps N : List Str} {sp : Sp} {c : Addr}
theorem DefOkC.can (d : DefOkC K mg x st ps c) (h : ∀ f fd, Fun K x x st f fd → fd.code = .ref c → FnOk P w K mg base CX k f fd ps sp) : Can P w K mg base CX k x ps sp := by
  obtain ⟨f, fd, F, m, b, e⟩ := d.ex
  exact ⟨f, fd, h f fd F e, m, F.kp, b⟩
theorem fun_okC {f : Addr} {fd : FuncData} (F : Fun K x x st f fd) (hc : fd.code = .ref c) (S : FnScope N ps (defScope st)) (len : ∀ vs H Q E, sp vs H Q E → vs.length = ps.length)
    (walk : ∀ (A : Around) (outer : List Env) (s : Shared) (H : Hp) (vs : List V) (Q : VK) (E : XK), Room k (A.deeper (envOfC x (defScope st) s.heap.objs.size f (.ref c))) → sp vs H Q E →
      ∃ t, PSs (cxOf CX P w K mg base N x (defScope st) f (.ref c) A outer s H E) (defBody st) t ∧ t { nx := fun _ H' => Q .non H', rt := Q } (L2.start N vs) H) : FnOk P w K mg base CX (k + 1) f fd ps sp := by
  obtain ⟨oc, od, kV, doc, pm, an, cdv, ct, osl, rfl, lk, hcd⟩ := F.ex
  obtain rfl : cdv = .ref c := hc
  exact fn_of lk hcd S len walk
end
/-! ### what a lambda leaves as it was, tables of code objects -/
section
variable {K : PySem.W.Frag} {H H' : Hp} {c : Addr} {n : Nat} {T : List (Addr × Str)}
theorem ExtN.sqL {a : Addr} {xs : List V} (e : LamX.ExtN H H') (h : SqL K H a xs) : SqL K H' a xs := by
  rcases h with (h | ⟨o, h⟩) | h
  · exact .inl (.inl (e _ _ h nofun))
  · exact .inl (.inr ⟨o, e _ _ h nofun⟩)
  · exact .inr h
theorem ExtN.cloud (e : LamX.ExtN H H') (h : Cloud K H c n) : Cloud K H' c n := by
  obtain ⟨l, cells, rest, h1, h2, h3⟩ := h
  exact ⟨l, cells, rest, e _ _ h1 nofun, ExtN.sqL e h2, h3⟩
theorem ExtN.kn {v : V} (e : LamX.ExtN H H') (h : Kn K H v) : Kn K H' v := by
  cases v with
  | ref a =>
    obtain ⟨S, hS, t⟩ := h
    refine ⟨S, hS, ?_⟩
    cases t with
    | base b =>
      refine .base ?_
      cases b with
      | lst h => exact .lst (e _ _ h nofun)
      | frz h => exact .frz (e _ _ h nofun)
      | tup h => exact .tup (e _ _ h nofun)
      | dK h => exact .dK (e _ _ h nofun)
      | dT h => exact .dT (e _ _ h nofun)
    | set h => exact .set (e _ _ h nofun)
    | kList h k => exact .kList h k
    | kTuple h k => exact .kTuple h k
    | kDict h k => exact .kDict h k
    | fTuple h => exact .fTuple (e _ _ h nofun)
    | fDict h => exact .fDict (e _ _ h nofun)
  | _ => exact h
theorem tabs_ext (t : LamX.Tabs T H) (h : Cloud K H c n) (e : Ext c H H') : LamX.Tabs T H' := by
  obtain ⟨l, cells, rest, h1, _, _⟩ := h
  intro p hp
  obtain ⟨ps, t1, t2, t3⟩ := t p hp
  refine ⟨ps, e _ _ (fun z => by rw [z, h1] at t1; cases t1) t1, t2, fun pos cv hcv => ?_⟩
  obtain ⟨d, e1, e2⟩ := t3 pos cv hcv
  exact ⟨d, e1, e _ _ (fun z => by rw [z, h1] at e2; exact nomatch (show HO.lst _ = HO.ext _ from Option.some.inj e2)) e2⟩
end
/-- one value of two, by a test -/
theorem w_ifM {c : Bool} {Q : VK} {H : Hp} {x y : V} {A B : Prop} (ha : Q x H → A) (hb : Q y H → B) (h : Q (if c = true then x else y) H) : if c = true then A else B := by
  cases c with
  | true => exact ha h
  | false => exact hb h
theorem w_ifCC {c : Bool} {Q : VK} {σ : L2.St} {H : Hp} {x y : V} (h : Q (if c = true then x else y) H) : if c = true then tC x σ H Q else tC y σ H Q := by
  cases c with
  | true => exact h
  | false => exact h
theorem w_ifVC {c : Bool} {Q : VK} {σ : L2.St} {H : Hp} {i : Nat} {x y : V} (e : σ[i]? = some (some x)) (h : Q (if c = true then x else y) H) : if c = true then tVar i σ H Q else tC y σ H Q := by
  cases c with
  | true => exact ⟨x, e, h⟩
  | false => exact h
theorem Kn.grow {K : PySem.W.Frag} {H H' : Hp} {v : V} (g : Grow H H') (h : Kn K H v) : Kn K H' v := ExtN.kn (LamX.ExtN.of g) h
theorem w_neSelf {x : V} {H : Hp} {Q : VK} (s : scal x x = true) (q : Q (.bl false) H) : rNe x x H Q := ⟨s, by simp only [decide_true, Bool.not_true]; exact q⟩
theorem w_eqSelf {x : V} {H : Hp} {Q : VK} (s : scal x x = true) (q : Q (.bl true) H) : rEq x x H Q := ⟨s, by simp only [decide_true]; exact q⟩
/-! ### what repr shows of rows -/
theorem text_le (b : Nat) : ∀ (ts : List Str) (k : Nat) (acc : Str), (∀ t ∈ ts, t.length ≤ b) → (textFrom k acc ts).length ≤ acc.length + (b + 2) * ts.length
  | [], k, acc, _ => by show acc.length ≤ _; omega
  | t :: r, k, acc, h => by
    have ih := text_le b r (k + 1) (acc ++ (if k > 0 then ", " else "" : String) ++ t) (fun x hx => h x (List.mem_cons_of_mem _ hx))
    have ht := h t (List.mem_cons_self ..)
    have hs : ((if k > 0 then ", " else "" : String) : Str).length ≤ 2 := by split <;> decide
    show (textFrom (k + 1) (acc ++ (if k > 0 then ", " else "" : String) ++ t) r).length ≤ _
    rw [Str.length_append, Str.length_append] at ih
    rw [List.length_cons, Nat.mul_add]
    omega
theorem shownAll_ints : ∀ ns : List Int, PyData.shownAll (ns.map PyData.int) = ns.map fun n => PyData.shown (.int n)
  | [] => rfl
  | n :: ns => by show _ :: PyData.shownAll (ns.map PyData.int) = _; rw [shownAll_ints ns]; rfl
theorem showable_ints : ∀ ns : List Int, (∀ n ∈ ns, n.natAbs.log2 < 1920) → PyData.showableAll (ns.map PyData.int) = true
  | [], _ => rfl
  | n :: ns, h => by
    show (PyData.showable (.int n) && PyData.showableAll (ns.map PyData.int)) = true
    rw [showable_ints ns fun m hm => h m (List.mem_cons_of_mem _ hm), Bool.and_true]
    exact decide_eq_true (h n (List.mem_cons_self ..))
theorem noDict_ints : ∀ ns : List Int, PyData.hasDictAll (ns.map PyData.int) = false
  | [] => rfl
  | n :: ns => by show (PyData.hasDict (.int n) || PyData.hasDictAll (ns.map PyData.int)) = false; rw [noDict_ints ns]; rfl
theorem shown_ints {ns : List Int} (h : ∀ n ∈ ns, n.natAbs.log2 < 1920) (hl : ns.length ≤ 1000) : (PyData.shown (.list (ns.map PyData.int))).length ≤ sizeLine := by
  show (listText (PyData.shownAll (ns.map PyData.int))).length ≤ _
  rw [shownAll_ints, sizeLine_eq]
  unfold listText
  rw [Str.length_append]
  have z := text_le 1921 (ns.map fun n => PyData.shown (.int n)) 0 "[" (fun t ht => by
    obtain ⟨n, hn, rfl⟩ := List.mem_map.mp ht
    exact int_text_len_1921 (h n hn))
  rw [List.length_map] at z
  have e1 : (("[" : String) : Str).length = 1 := by decide
  have e2 : (("]" : String) : Str).length = 1 := by decide
  rw [e1] at z
  rw [e2]
  omega
theorem w_showI {K : PySem.W.Frag} {i : Int} {H : Hp} {Q : VK} (h : i.natAbs.log2 < 1920) (q : Q (.str (PyData.shown (.int i))) H) : rShow K [.int i] H Q := .inl ⟨i, rfl, h, q⟩
theorem w_showN {K : PySem.W.Frag} {a : Addr} {ns : List Int} {H : Hp} {Q : VK} (sq : SqL K H a (ns.map V.int)) (h : ∀ n ∈ ns, n.natAbs.log2 < 1920) (hl : ns.length ≤ 1000) (q : Q (.str (PyData.shown (.list (ns.map PyData.int)))) H) : rShow K [.ref a] H Q :=
  .inr ⟨a, .list (ns.map PyData.int), rfl, .lst sq (dpAll_ints K H ns), showable_ints ns h, noDict_ints ns, by have := depthAll_ints ns; simp only [PyData.depth]; omega, shown_ints h hl, q⟩
theorem dpAll_strs (K : PySem.W.Frag) (H : Hp) : ∀ ss : List Str, DpAll K H (ss.map V.str) (ss.map PyData.str)
  | [] => .nil
  | s :: ss => .cons (.str s) (dpAll_strs K H ss)
theorem w_showS {K : PySem.W.Frag} {a : Addr} {ss : List Str} {H : Hp} {Q : VK} (sq : SqT K H a (ss.map V.str)) (h : (PyData.tuple (ss.map PyData.str)).showable = true ∧ (PyData.tuple (ss.map PyData.str)).hasDict = false ∧ (PyData.tuple (ss.map PyData.str)).depth ≤ 60 ∧ (PyData.tuple (ss.map PyData.str)).shown.length ≤ sizeLine)
    (q : Q (.str (PyData.shown (.tuple (ss.map PyData.str)))) H) : rShow K [.ref a] H Q := .inr ⟨a, .tuple (ss.map PyData.str), rfl, .tup sq (dpAll_strs K H ss), h.1, h.2.1, h.2.2.1, h.2.2.2, q⟩
/-! ### calls by keywords alone -/
structure CanW (P : Program) (w : World) (K : PySem.W.Frag) (mg : Str → Option Value) (base : Heap) (CX : CXT) (k : Nat) (x : Str) (ks : List Str) (gV : List V → List V → List V) (sp : Sp) : Prop where
  at_ : ∃ (f : Addr) (fd : FuncData) (ps : List Str) (g : List Value → List Value → List Value), FnOk P w K mg base CX k f fd ps sp ∧ mg x = some (.ref f) ∧ PySem.W.keepIn K (.ref f) = true ∧ KBn K fd ps 0 ks g gV
theorem canW_of {P : Program} {w : World} {K : PySem.W.Frag} {mg : Str → Option Value} {base : Heap} {CX : CXT} {k : Nat} {x : Str} {st : Stmt} {ps ks : List Str} {sp : Sp} (π : {α : Type} → List α → List α) (d : DefOk K mg x st ps) (h : ∀ f fd, Fun K x x st f fd → FnOk P w K mg base CX k f fd ps sp)
    (rel : ∀ {zs : List V} {ws : List Value}, Vals zs ws → Vals (π zs) (π ws))
    (bind : ∀ (kV doc pm : Value) (an : Option Addr) (cdv ct : Value) (ws : List Value), ws.length = ks.length → bindArgs (PySem.W.fnOf x x (defArgs st) (defBody st) (defScope st) .none kV doc pm an cdv ct) ⟨[], ks.zip ws⟩ = pure (ps.zip (π ws))) :
    CanW P w K mg base CX k x ks (fun _ zs => π zs) sp := by
  obtain ⟨f, fd, F, m, _⟩ := d.ex
  have G := h f fd F
  have kp := F.kp
  obtain ⟨oc, od, kV, doc, pm, an, cdv, ct, osl, rfl, lk, hcd⟩ := F.ex
  refine ⟨f, _, ps, fun _ ws => π ws, G, m, kp, ⟨fun s us ws _ l1 l2 => ?_, fun _ r => rel r⟩⟩
  cases us with
  | nil => exact .of_eq (bind kV doc pm an cdv ct ws l2)
  | cons _ _ => cases l1
theorem pe_canW {X : Cx} {CX : CXT} {k j : Nat} {x : Str} {ks : List Str} {gV : List V → List V → List V} {sp : Sp} {E : XK} {p pos : Pos} {kws : List Keyword} {tk : TA} (c : CanW X.prog X.w X.K X.mg X.base CX k x ks gV sp) (hr : Room j X.A) (hk : k ≤ j) (hx : Passes CX X E) (hg : Gl X x) (hkw : PK X kws tk)
    (hall : (backToKw pos (keywordEach kws X.env)).all (·.1.isSome) = true := by rfl) (hks : (backToKw pos (keywordEach kws X.env)).filterMap (·.1) = ks := by rfl) (hdb : (x == ("__debug__" : Str)) = false := by decide)
    (hpl : ((backTo pos (starEach [] X.env)).any (·.1) || (backToKw pos (keywordEach kws X.env)).any (·.1.isNone)) = false := by rfl) : PE X (.Call (.Name x p) [] kws pos) (tCallN 0 ks.length sp gV E tNil tk) := by
  obtain ⟨f, fd, ps, g, F, m, kp, b⟩ := c.at_
  refine ⟨fun pins s σ H Q I h => wpAny_Call_Name_kw (ld_glob I hg m (PySem.W.callWith_KW0 (h₀ := X.base) I.ok.mod.kin kp hall (thn (hkw.run pos pins s σ H _ I h) fun ws s2 y => ?_) hpl) hdb)⟩
  obtain ⟨zs, H2, J, rz, l1, l2, q⟩ := y
  refine ⟨J.kIn, ?_⟩
  rw [hks]
  exact run_fnN (us := []) (vs := []) F (hr.mono hk) b hx J .nil rz l1 l2 q
theorem w_callN {n m : Nat} {sp : Sp} {gV : List V → List V → List V} {E : XK} {t tk : TA} {σ : L2.St} {H : Hp} {Q : VK} (h : t σ H fun vs H1 => tk σ H1 fun zs H2 => vs.length = n ∧ zs.length = m ∧ sp (gV vs zs) H2 Q E) : tCallN n m sp gV E t tk σ H Q := h
/-- one way or its opposite -/
theorem w_negV {c : Bool} {Q : VK} {σ : L2.St} {H : Hp} {i : Nat} {a : Int} (e : σ[i]? = some (some (.int a))) (h : Q (.int (if c = true then -a else a)) H) : if c = true then tUn (rU fun i => .int (-i)) (tVar i) σ H Q else tVar i σ H Q := by
  cases c with
  | true => exact ⟨_, e, a, rfl, h⟩
  | false => exact ⟨_, e, h⟩
/-! ### comprehensions: a value made of each item, the heap growing -/
section
variable {K : PySem.W.Frag} {te : TE} {i : Nat} {σ : L2.St} {H1 : Hp} {Q : VK} {a : Addr}
theorem pe_lc1 {X : Cx} {x : Str} {i : Nat} {elt tg iter : Expr} {ifs : List Expr} {scope : Scope} {pos : Pos} {wi : TI} {g : TG} {tt : TT} {te : TE} (hc : X.calm = true) (hN : X.N.Nodup) (hi : PI X tg iter wi) (ok : BlkOk X.N X.env.scope scope [(x, i)])
    (hg : ∀ (s : Shared) (H : Hp) (C : Addr) (cl : List (Str × Addr)) (fp : List Addr), PG (X.blk s H scope (compEnvC scope cl C X.env) fp) tg g) (ht : ∀ (s : Shared) (H : Hp) (C : Addr) (cl : List (Str × Addr)) (fp : List Addr), PTs (X.blk s H scope (compEnvC scope cl C X.env) fp) ifs tt)
    (he : ∀ (s : Shared) (H : Hp) (C : Addr) (cl : List (Str × Addr)) (fp : List Addr), PE (X.blk s H scope (compEnvC scope cl C X.env) fp) elt te) (hs : ∀ x, foldedSetIterable iter X.env x = pure x := by intro _; rfl) : PE X (.ListComp elt [⟨tg, iter, ifs, 0⟩] scope pos) (tLc wi g tt te [i]) :=
  pe_lc (own := [(x, i)]) hc hN hi ok hg ht he hs
theorem ps_setLc1 {X : Cx} {k i : Nat} {x y : Str} {py : Pos} {elt tg iter : Expr} {ifs : List Expr} {scope : Scope} {pos spos : Pos} {wi : TI} {g : TG} {tt : TT} {te : TE} (hc : X.calm = true) (hN : X.N.Nodup) (hy : X.N[i]? = some y) (hyl : X.env.scope.names.lookup y = some .local)
    (hsw : swapsWith (.ListComp elt [⟨tg, iter, ifs, 0⟩] scope pos) (some (.Name y py)) spos.line X.env = pure true) (hi : PI X tg iter wi) (ok : BlkOk X.N X.env.scope scope [(x, k)])
    (hg : ∀ (s : Shared) (H : Hp) (C : Addr) (cl : List (Str × Addr)) (fp : List Addr), PG (X.blk s H scope (compEnvC scope cl C X.env) fp) tg g) (ht : ∀ (s : Shared) (H : Hp) (C : Addr) (cl : List (Str × Addr)) (fp : List Addr), PTs (X.blk s H scope (compEnvC scope cl C X.env) fp) ifs tt)
    (he : ∀ (s : Shared) (H : Hp) (C : Addr) (cl : List (Str × Addr)) (fp : List Addr), PE (X.blk s H scope (compEnvC scope cl C X.env) fp) elt te) (hs : ∀ x, foldedSetIterable iter X.env x = pure x := by intro _; rfl) :
    PS X (.Assign [.Name y py] (.ListComp elt [⟨tg, iter, ifs, 0⟩] scope pos) spos) (tAsg (tLc wi g tt te [k]) (gName i)) := ps_setLc (own := [(x, k)]) hc hN hy hyl hsw hi ok hg ht he hs
/-- a turn: of the j-th item the j-th value is made -/
def Turns (te : TE) (i : Nat) (σ : L2.St) (H1 : Hp) (xs ys : List V) : Prop := ∀ (j : Nat) (x y : V) (H' : Hp) (R : VK), xs[j]? = some x → ys[j]? = some y → Grow H1 H' → (∀ H2, Grow H' H2 → R y H2) → te ((wipe σ [i]).set i (some x)) H' R
theorem lc_turn {xs ys : List V} {D : Addr} (hw : ∀ x, wipe ((wipe σ [i]).set i (some x)) [i] = wipe σ [i]) (hl : ys.length = xs.length) (hs : xs.length < sizeLine) (turn : Turns te i σ H1 xs ys) (nD : H1 D = none)
    (j : Nat) (x : V) (H' : Hp) (ex : xs[j]? = some x) (p : H' D = some (.lst (ys.take j)) ∧ Grow H1 H') :
    gName i x (wipe σ [i]) H' fun σ2 H2 => wipe σ2 [i] = wipe σ [i] ∧ tYes σ2 H2 fun b H3 => if b = true then te σ2 H3 fun y H4 => ∃ acc, H4 D = some (.lst acc) ∧ acc.length < sizeLine ∧
      (upd H4 D (.lst (acc ++ [y])) D = some (.lst (ys.take (j + 1))) ∧ Grow H1 (upd H4 D (.lst (acc ++ [y])))) else (H3 D = some (.lst (ys.take (j + 1))) ∧ Grow H1 H3) := by
  refine ⟨hw x, ?_⟩
  unfold tYes
  refine w_yes ?_
  have hj : j < ys.length := by rw [hl]; exact (List.getElem?_eq_some_iff.mp ex).1
  refine turn j x ys[j] H' _ ex (by simp [hj]) p.2 fun H2 g => ⟨ys.take j, g _ _ p.1, by rw [List.length_take]; omega, ?_, fun b o e => ?_⟩
  · rw [upd_same, List.take_succ_eq_append_getElem hj]
  · rw [upd_ne (ne_of_none e nD)]; exact g _ _ (p.2 _ _ e)
theorem lcL {Qd : Addr → Hp → Prop} {xs ys : List V} (hw : ∀ x, wipe ((wipe σ [i]).set i (some x)) [i] = wipe σ [i]) (hl : ys.length = xs.length) (hs : xs.length < sizeLine) (sq : SqL K H1 a xs) (turn : Turns te i σ H1 xs ys)
    (done : ∀ D H', H1 D = none → H' D = some (.lst ys) → Grow H1 H' → Qd D H') (D : Addr) (nD : H1 D = none) :
    ∃ W : Nat → Nat → Hp → Prop, (∃ m, W 0 m (upd H1 D (.lst []))) ∧ ∀ j m H, W j m H →
      ((Itl K a).stop j H ∧ Qd D H) ∨ ((Itl K a).go j H ∧ ∃ Nx : Hp → Prop, (∀ H', Nx H' → ∃ m', m' < m ∧ W (j + 1) m' H') ∧ ∀ x H', (Itl K a).yld j H x H' → gName i x (wipe σ [i]) H' fun σ2 H2 => wipe σ2 [i] = wipe σ [i] ∧ tYes σ2 H2 fun b H3 =>
        if b = true then te σ2 H3 fun y H4 => ∃ acc, H4 D = some (.lst acc) ∧ acc.length < sizeLine ∧ Nx (upd H4 D (.lst (acc ++ [y]))) else Nx H3) :=
  lc_list (xs := xs) (fun j H' => H' D = some (.lst (ys.take j)) ∧ Grow H1 H') ⟨upd_same, Grow.new nD⟩ (fun j H' _ p => p.2.sqL sq) (lc_turn hw hl hs turn nD) (fun H' p => done D H' nD (by rw [← hl, List.take_length] at p; exact p.1) p.2)
theorem lcT {Qd : Addr → Hp → Prop} {xs ys : List V} (hw : ∀ x, wipe ((wipe σ [i]).set i (some x)) [i] = wipe σ [i]) (hl : ys.length = xs.length) (hs : xs.length < sizeLine) (sq : SqT K H1 a xs) (turn : Turns te i σ H1 xs ys)
    (done : ∀ D H', H1 D = none → H' D = some (.lst ys) → Grow H1 H' → Qd D H') (D : Addr) (nD : H1 D = none) :
    ∃ W : Nat → Nat → Hp → Prop, (∃ m, W 0 m (upd H1 D (.lst []))) ∧ ∀ j m H, W j m H →
      ((Itt K a).stop j H ∧ Qd D H) ∨ ((Itt K a).go j H ∧ ∃ Nx : Hp → Prop, (∀ H', Nx H' → ∃ m', m' < m ∧ W (j + 1) m' H') ∧ ∀ x H', (Itt K a).yld j H x H' → gName i x (wipe σ [i]) H' fun σ2 H2 => wipe σ2 [i] = wipe σ [i] ∧ tYes σ2 H2 fun b H3 =>
        if b = true then te σ2 H3 fun y H4 => ∃ acc, H4 D = some (.lst acc) ∧ acc.length < sizeLine ∧ Nx (upd H4 D (.lst (acc ++ [y]))) else Nx H3) :=
  lc_tup (xs := xs) (fun j H' => H' D = some (.lst (ys.take j)) ∧ Grow H1 H') ⟨upd_same, Grow.new nD⟩ (fun j H' _ p => p.2.sqT sq) (lc_turn hw hl hs turn nD) (fun H' p => done D H' nD (by rw [← hl, List.take_length] at p; exact p.1) p.2)
end
/-- a part of a list of ints -/
theorem cut_ints (ns : List Int) (lo hi : Option Int) : ∃ ms : List Int, cutV (ns.map V.int) lo hi = ms.map V.int ∧ ms.length ≤ ns.length := by
  refine ⟨(ns.drop (HT.sIx (ns.map V.int).length 0 lo)).take (HT.sIx (ns.map V.int).length (ns.map V.int).length hi - HT.sIx (ns.map V.int).length 0 lo), ?_, ?_⟩
  · unfold cutV
    rw [List.map_take, List.map_drop]
  · rw [List.length_take, List.length_drop]; omega
/-! ### promises that all laws have -/
/-- the cloud of a script -/
def spBegin (K : PySem.W.Frag) : Sp := fun vs H Q _ => ∃ (a : Addr) (ns : List Int), vs = [.ref a] ∧ SqL K H a (ns.map V.int) ∧ ns.length ≤ 63 ∧ ∀ c H', H c = none → Grow H H' → Cloud K H' c 0 → Q (.ref c) H'
/-- one of some -/
def spOneOf (K : PySem.W.Frag) : Sp := fun vs H Q _ => ∃ (c : Addr) (n : Nat) (p : Addr) (xs : List V), vs = [.ref c, .ref p] ∧ Cloud K H c n ∧ n < 999990 ∧ SqL K H p xs ∧ p ≠ c ∧ 0 < xs.length ∧ xs.length < 1000000 ∧
  ∀ (x : V) (n' : Nat) (H' : Hp), x ∈ xs → n' ≤ n + 1 → Cloud K H' c n' → Ext c H H' → Q x H'
end FW

set_option maxRecDepth 100000
set_option maxHeartbeats 4000000
/-! fair weather: a lambda with one parameter that has a default, handed to a def -/
namespace FW
open PySem PySem.Spec PyProof.Rows L2 LamX
/-- its names: one parameter p, captured ones, globals; N: the names of the def that makes it -/
structure LamP (N : List Str) (sc scope : Scope) (p : Str) : Prop where
  kind : scope.kind = .function
  co : scope.isCoroutine = false
  gen : scope.isGenerator = false
  par : scope.names.lookup p = some .local
  nocell : ∀ z ∈ scope.names, z.2 ≠ .cell
  apart : ∀ z ∈ scope.names, z.2 = .local → z.1 ∉ N
  up : ∀ z ∈ scope.names, z.2 = .free → sc.names.lookup z.1 = some .cell ∨ sc.names.lookup z.1 = some .free
def lamPB (N : List Str) (sc scope : Scope) (p : Str) : Bool :=
  decide (scope.kind = .function) && (!scope.isCoroutine && (!scope.isGenerator && (decide (scope.names.lookup p = some .local) && scope.names.all fun z =>
    !decide (z.2 = .cell) && ((!decide (z.2 = .local) || !decide (z.1 ∈ N)) && (!decide (z.2 = .free) || (decide (sc.names.lookup z.1 = some .cell) || decide (sc.names.lookup z.1 = some .free)))))))
theorem lamP_by {N : List Str} {sc scope : Scope} {p : Str} (h : lamPB N sc scope p = true) : LamP N sc scope p := by
  unfold lamPB at h
  simp only [Bool.and_eq_true, Bool.or_eq_true, Bool.not_eq_true', decide_eq_true_eq, decide_eq_false_iff_not, List.all_eq_true] at h
  obtain ⟨k1, k2, k3, k4, k5⟩ := h
  refine ⟨k1, k2, k3, k4, fun z hz => (k5 z hz).1, fun z hz e => ?_, fun z hz e => ?_⟩
  · rcases (k5 z hz).2.1 with q | q
    · exact absurd e q
    · exact q
  · rcases (k5 z hz).2.2 with q | q
    · exact absurd e q
    · exact q
section
variable {X : Cx} {pins : List (Addr × Obj)} {σ : L2.St} {H HZ : Hp} {s s1 : Shared} {scope : Scope} {p : Str}
theorem LamP.cells (L : LamP X.N X.env.scope scope p) (ok : X.Ok) : ∀ z ∈ scope.names, z.2 = .free → ∃ c, X.env.cells.lookup z.1 = some c := fun z hz e => by
  rcases L.up z hz e with q | q
  · exact ok.has _ (.inl q)
  · exact ok.has _ (.inr q)
/-- its body begins -/
theorem startP {A : Around} {outer : List Env} {E : XK} {f c' : Addr} {g : Heap} {tk : Nat} {u : Value} (I : Inv X pins σ H s) (L : LamP X.N X.env.scope scope p) (en : Env0 X.prog X.w X.K X.mg X.base A outer s1 HZ) (calm : A.handled = none)
    (un : Un (frs X.stack) [] H HZ s.heap s1.heap) (ns : g.Ns s1.heap.objs.size fun y => ([(p, u)] : List (Str × Value)).reverse.lookup y) (kp : ∀ b o, s1.heap.get? b = some o → g.get? b = some o) :
    Inv (lamCx X A outer s1 HZ E scope f c') [] σ HZ { s1 with heap := g, toks := tk } := by
  have has := L.cells I.ok
  have mine : ∀ {y c}, (cloFrom X.env.cells scope.names []).lookup y = some c → X.env.cells.lookup y = some c := fun {y c} e => by
    rcases cloFrom_mem (PySem.mem_of_lookup e) with hm | ⟨m1, m2⟩
    · cases hm
    · obtain ⟨d, hd⟩ := has _ m1 rfl
      have hd' : X.env.cells.lookup y = some d := hd
      obtain rfl : c = d := by rw [m2, hd'] <;> rfl
      exact hd'
  have there : ∀ {y}, scope.names.lookup y = some .free → ∃ c, (cloFrom X.env.cells scope.names []).lookup y = some c := fun {y} hl =>
    mem_lookup (cloFrom_has (cells := X.env.cells) (acc := []) (show (y, NameKind.free) ∈ scope.names from PySem.mem_of_lookup hl))
  have still : ∀ {c : Addr} {v : Option Value}, H c = none → s.heap.IsCell c v → g.IsCell c v := fun {c v} n ⟨o, ho, hv⟩ => by
    obtain ⟨sl, q⟩ := un.any ho n (by simp)
    exact ⟨_, kp _ _ q, hv⟩
  have none_ : ∀ b : Addr, b ∉ (lamCx X A outer s1 HZ E scope f c').ex := fun b z => absurd (show b ∈ ([] : List Addr) from z) (by simp)
  have okL : (lamCx X A outer s1 HZ E scope f c').Ok := by
    refine ⟨en.mod, L.kind, rfl, rfl, Nat.le_refl _, ?i1, ?i2, ?i3, fun _ => calm, Around.frames_deeper en.frames, .inr ⟨rfl, rfl⟩, ?i4, en.bs, en.bsz, ?i5, ?i6, en.funs, en.frf⟩
    case i1 => exact fun y z c e1 e2 => I.ok.inj y z c (mine e1) (mine e2)
    case i2 =>
      intro y hy
      rcases (show scope.names.lookup y = some .cell ∨ scope.names.lookup y = some .free from hy) with q | q
      · exact absurd rfl (L.nocell _ (PySem.mem_of_lookup q))
      · exact there q
    case i3 => exact fun y c z _ => nomatch (show false = true from z)
    case i4 => exact fun b z => absurd z (none_ b)
    case i5 => exact fun b _ _ => none_ b
    case i6 => exact fun b z => absurd z (none_ b)
  refine ⟨okL, rfl, en.bare, Un.kept kp, ⟨_, ns, ?j1⟩, ?j2, en.hok.fresh (Nat.le_refl _), ?j3, ?j4, en.hok.kept kp, I.len⟩
  case j1 =>
    intro i y v e1 e2 e3
    rcases (show Vis scope y from e3) with q | q | q
    · exact absurd (List.mem_of_getElem? (show X.N[i]? = some y from e1)) (L.apart _ (PySem.mem_of_lookup q) rfl)
    · exact absurd rfl (L.nocell _ (PySem.mem_of_lookup q))
    · obtain ⟨m, hn, hl⟩ := I.loc
      have up := L.up _ (PySem.mem_of_lookup q) rfl
      obtain ⟨u', r, w'⟩ := hl i y v e1 e2 (up.elim (fun k => .inr (.inl k)) (fun k => .inr (.inr k)))
      obtain ⟨d, hd⟩ := there q
      refine ⟨u', r, .inr ⟨.inr q, d, hd, ?_⟩⟩
      have md := mine hd
      rcases w' with ⟨kl, _⟩ | ⟨_, d2, ed, hc⟩
      · have kl' : X.env.scope.names.lookup y = some .local := kl
        rcases up with k | k <;> rw [show X.env.scope.names.lookup y = _ from k] at kl' <;> cases kl'
      · rw [md] at ed; cases ed
        exact still (I.freeC y _ md) hc
  case j2 =>
    intro y c e
    obtain ⟨v, hv⟩ := I.cell y c (mine e)
    exact ⟨v, still (I.freeC y c (mine e)) hv⟩
  case j3 =>
    intro y c e
    obtain ⟨v, o, ho, hv⟩ := I.cell y c (mine e)
    exact un.free c o ho (I.freeC y c (mine e)) (by simp)
  case j4 => exact fun q hq => absurd (show q ∈ ([] : List (Addr × Obj)) ++ [] from hq) (by simp)
end
abbrev lamPF (q : Str) (params : Arguments) (body : Expr) (scope : Scope) (cl : List (Str × Addr)) (t : Addr) (doc pm cv ct : Value) : FuncData := PySem.W.kdv_fn "<lambda>" q params (.expr body) scope cl (.ref t) doc pm cv ct
section
variable {X : Cx} {pins : List (Addr × Obj)} {σ : L2.St} {H : Hp} {s : Shared}
/-- it is made: a tuple of its default, a code object that is new or found in the table, the def itself -/
theorem makeP {T : List (Addr × Str)} {c P : Addr} {params : Arguments} {body d0 : Expr} {v0 : V} {scope : Scope} {pos : Pos} {Q : Value → Shared → Prop} (I : Inv X pins σ H s) (TB : TabB X.base X.mg c P) (hcode : X.env.code = .ref c)
    (hm : (P, X.env.qual ++ "<lambda>") ∈ T) (hu : ∀ b ∈ T, b.1 = P → b.2 = X.env.qual ++ "<lambda>") (hT : Tabs T H) (hd : params.defaults = [d0]) (hk : params.kw_defaults = []) (he : PE X d0 (tC v0)) (cells : ∀ z ∈ scope.names, z.2 = .free → ∃ c, X.env.cells.lookup z.1 = some c)
    (go : ∀ (f t c' : Addr) (u pm ctv doc : Value) (H1 : Hp) (s' : Shared), Inv X pins σ H1 s' → ExtN H H1 → Tabs T H1 →
      s'.heap.get? f = some ⟨.type "function", none, .func (lamPF (X.env.qual ++ "<lambda>") params body scope (cloFrom X.env.cells scope.names []) t doc pm (.ref c') ctv), #[]⟩ → s'.heap.get? t = some (PySem.W.kdv_tup [u]) →
      H1 f = none → f ∉ frs X.stack → H1 t = none → t ∉ frs X.stack → H1 c' = some (CodeO c' (X.env.qual ++ "<lambda>")) → Q (.ref f) s') :
    wpAny (model X.prog X.w) X.A (eval (.Lambda params body scope pos) X.env) Q X.xe s := by
  obtain ⟨ps, hP, ht, ha⟩ := hT _ hm
  refine PySem.W.kdv_lam (by rw [hd]; rfl) hk ?_
  rw [hd]
  refine PySem.W.kdv_all1 (thn (he.run pins s σ H (fun _ K1 => K1 = H) I rfl) fun u sa ⟨va, Ha, Ia, _, ea⟩ => ?_)
  subst ea
  refine PySem.W.kdv_all0 ?_
  rw [makeFunction_eq]
  simp only [List.zip_nil_right, List.filterMap_nil, List.isEmpty_nil, List.isEmpty_cons, if_true, pure_bind, Bool.false_eq_true, if_false]
  refine wpAny_bind (wpAny_newTextTuple ?_)
  have nt : Ha sa.heap.objs.size = none := Ia.hok.fresh (Nat.le_refl _)
  have off : ∀ f, sa.heap.objs.size ≤ f → f ∉ frs X.stack := fun f hf z => by
    rcases List.mem_cons.mp (Ia.stkSub _ z) with e | e
    · have lt := Ia.lt
      rw [← e] at lt
      exact Nat.lt_irrefl _ (Nat.lt_of_lt_of_le lt hf)
    · exact Ia.nofs hf e
  have offt := off _ (Nat.le_refl _)
  have Ib : Inv X pins σ Ha { sa with heap := sa.heap.push (PySem.W.kdv_tup [u]) } := Ia.kept fun b o e => Heap.get?_push_of_some _ e
  have tt : (sa.heap.push (PySem.W.kdv_tup [u])).get? sa.heap.objs.size = some (PySem.W.kdv_tup [u]) := Heap.get?_push_size _ rfl
  have grown : sa.heap.objs.size ≤ (sa.heap.push (PySem.W.kdv_tup [u])).objs.size := by rw [Heap.size_push]; omega
  have less : sa.heap.objs.size < (sa.heap.push (PySem.W.kdv_tup [u])).objs.size := by rw [Heap.size_push]; omega
  revert tt Ib grown less
  generalize sa.heap.push (PySem.W.kdv_tup [u]) = hb
  intro Ib tt grown less
  generalize hsb : ({ sa with heap := hb } : Shared) = sb at Ib ⊢
  have hbs : sb.heap = hb := by rw [← hsb]
  rw [← hbs] at tt grown less
  have bt : sb.heap.BuiltinsAt X.mg P := TB.bm.keeps Ib.bk
  have pt : sb.heap.get? P = some { cls := .none, data := .fields ps } := Ib.hok P _ hP
  cases found : codeAmong pos ps.toList with
  | none =>
    refine PySem.W.kdv_makeTail (mg := X.mg) (c := c) (P := P) (ps := ps) (closure_ok cells) Ib.ok.glob (Ib.mod.glob.keeps Ib.bk) hcode (TB.code.keeps Ib.bk) pt ht found TB.gP bt fun c' ctv doc hc tk keep ge lt rec_ tab => ?_
    obtain ⟨c2, oc, vs, tq, ec, hoc, hdc, hv⟩ := rec_
    cases ec
    have szs : sb.heap.objs.size ≤ hc.objs.size := Nat.le_trans ge (Nat.le_of_lt lt)
    have nC : Ha c' = none := Ib.hok.fresh ge
    have If := inv_table (t' := tk) (more := #[rawInt pos.line, rawInt pos.col, .ref c']) (h' := hc.push (PySem.W.kdv_obj "<lambda>" (X.env.qual ++ "<lambda>") params (.expr body) scope (cloFrom X.env.cells scope.names []) (.ref sa.heap.objs.size) doc ((X.mg "__name__").getD .none) c' ctv)) Ib hP
      (fun b o nb e => Heap.get?_push_of_some _ (keep b o nb e)) (Heap.get?_push_of_some _ tab) ge ⟨oc, vs, tq, Heap.get?_push_of_some _ hoc, hdc, hv⟩
    have eN : ExtN Ha (upd (upd Ha P (.tbl (ps ++ #[rawInt pos.line, rawInt pos.col, .ref c']))) c' (CodeO c' (X.env.qual ++ "<lambda>"))) := fun b o e n => by
      have n1 : b ≠ c' := ne_of_none e nC
      have n2 : b ≠ P := fun z => n ps (Option.some.inj (e.symm.trans (by rw [z]; exact hP)))
      rw [upd_ne n1, upd_ne n2]
      exact e
    have asL : (ps ++ #[rawInt pos.line, rawInt pos.col, .ref c']).toList = ps.toList ++ [rawInt pos.line, rawInt pos.col, .ref c'] := by simp
    have tP : sa.heap.objs.size ≠ P := fun z => by rw [← z, nt] at hP; cases hP
    have tC' : sa.heap.objs.size ≠ c' := Nat.ne_of_lt (Nat.lt_of_lt_of_le less ge)
    refine go hc.objs.size sa.heap.objs.size c' u ((X.mg "__name__").getD .none) ctv doc _ _ If eN ?t1 (Heap.get?_push_size _ rfl) (Heap.get?_push_of_some _ (keep _ _ tP tt)) ?t2 (off _ (Nat.le_trans grown szs)) ?t3 offt upd_same
    case t1 =>
      intro b hb'
      by_cases same : b.1 = P
      · rw [hu b hb' same, same]
        refine ⟨_, by rw [upd_ne (ne_of_none hP nC), upd_same], by rw [asL]; exact PySem.TriplesOk_snoc _ _ _ _ ht, fun pq cv hcv => ?_⟩
        rw [asL] at hcv
        rcases among_app _ ht hcv with z | z
        · obtain ⟨c0, e1, e2⟩ := ha pq cv z
          exact ⟨c0, e1, eN _ _ e2 codeO_ne⟩
        · exact ⟨c', z, upd_same⟩
      · obtain ⟨qs, a1, a2, a3⟩ := hT b hb'
        refine ⟨qs, ?_, a2, fun pq cv hcv => ?_⟩
        · rw [upd_ne (ne_of_none a1 nC), upd_ne same]; exact a1
        · obtain ⟨c0, e1, e2⟩ := a3 pq cv hcv
          exact ⟨c0, e1, eN _ _ e2 codeO_ne⟩
    case t2 =>
      have m1 : hc.objs.size ≠ c' := Nat.ne_of_gt lt
      have m2 : hc.objs.size ≠ P := Nat.ne_of_gt (Nat.lt_of_lt_of_le (Heap.lt_size pt) szs)
      rw [upd_ne m1, upd_ne m2]
      exact Ib.hok.fresh szs
    case t3 =>
      rw [upd_ne tC', upd_ne tP]
      exact nt
  | some cv =>
    obtain ⟨c', ec, hco⟩ := ha pos cv found
    subst ec
    refine PySem.W.kdv_makeTailHit (mg := X.mg) (c := c) (P := P) (ps := ps) (closure_ok cells) Ib.ok.glob (Ib.mod.glob.keeps Ib.bk) hcode (TB.code.keeps Ib.bk) pt ht found bt fun ctv doc hc tk keep szs => ?_
    have If : Inv X pins σ Ha { sb with heap := hc.push ⟨.type "function", none, .func (lamPF (X.env.qual ++ "<lambda>") params body scope (cloFrom X.env.cells scope.names []) sa.heap.objs.size doc ((X.mg "__name__").getD .none) (.ref c') ctv), #[]⟩, toks := tk } :=
      Ib.kept fun b o e => Heap.get?_push_of_some _ (keep b o e)
    exact go hc.objs.size sa.heap.objs.size c' u ((X.mg "__name__").getD .none) ctv doc Ha _ If (ExtN.refl Ha) hT (Heap.get?_push_size _ rfl) (Heap.get?_push_of_some _ (keep _ _ tt)) (Ib.hok.fresh szs) (off _ (Nat.le_trans grown szs)) nt offt hco
end
section
variable {X : Cx} {pins : List (Addr × Obj)} {σ : L2.St} {H : Hp} {s : Shared}
/-- it is called, in the def that got it -/
theorem actP {CXg : CXT} {Eg : XK} {Ng : List Str} {qg : Str} {sg : Scope} {g f t c' : Addr} {cdg pm ctv doc u : Value} {params : Arguments} {body : Expr} {scope : Scope} {k i : Nat} {a p : Str} {pn : List (Addr × Obj)} {xe : Value → Shared → Prop} {W : WX} {E : XK} {tb : TE} {q1 q2 : Pos}
    (I : Inv X pins σ H s) (L : LamP X.N X.env.scope scope p) (hf : s.heap.get? f = some ⟨.type "function", none, .func (lamPF (X.env.qual ++ "<lambda>") params body scope (cloFrom X.env.cells scope.names []) t doc pm (.ref c') ctv), #[]⟩)
    (ht : s.heap.get? t = some (PySem.W.kdv_tup [u])) (nf : H f = none) (rf : f ∉ frs X.stack) (nt : H t = none) (rt : t ∉ frs X.stack)
    (bind : ∀ z : Shared, z.heap.get? t = some (PySem.W.kdv_tup [u]) → BindsTo z (lamPF (X.env.qual ++ "<lambda>") params body scope (cloFrom X.env.cells scope.names []) t doc pm (.ref c') ctv) ⟨[], []⟩ [(p, u)])
    (tk : Takes ((cxOf CXg X.prog X.w X.K X.mg X.base Ng qg sg g cdg X.A X.stack s H Eg).tr pn xe) W) (hW : ∀ cls d σ' H', E cls d H' → W cls d σ' H') (hr : Room (k + 1) (X.A.deeper (envOfC qg sg s.heap.objs.size g cdg)))
    (inner : ∀ (A : Around) (outer : List Env) (s : Shared) (H : Hp), Room k (A.deeper (lamEnv X scope s.heap.objs.size f c')) → PE (lamCx X A outer s H E scope f c') body tb)
    (hN : Ng[i]? = some a) (hv : Vis sg a) (hd : (a == ("__debug__" : Str)) = false := by decide) (hcd : (a == ("__classdict__" : Str)) = false := by decide) :
    PE ((cxOf CXg X.prog X.w X.K X.mg X.base Ng qg sg g cdg X.A X.stack s H Eg).tr pn xe) (.Call (.Name a q1) [] [] q2)
      (fun σZ HZ Q => σZ[i]? = some (some (.ref f)) ∧ HZ c' = some (CodeO c' (X.env.qual ++ "<lambda>")) ∧ tb σ HZ Q) := by
  refine ⟨fun pinsZ sZ σZ HZ Q IZ ⟨hs, hc, hq⟩ => ?_⟩
  refine wpAny_Call_Name_kw (thn ((pe_var (pos := q1) (i := i) hN hv hd hcd).run pinsZ sZ σZ HZ (fun v K1 => v = .ref f ∧ K1 = HZ) IZ ⟨.ref f, hs, rfl, rfl⟩) fun uf sa ⟨v, Ha, Ia, ra, ev, eH⟩ => ?_)
  subst ev eH
  obtain rfl : uf = Value.ref f := ra
  have nob : ∀ b : Addr, b ∉ ([] : List Addr) := fun b z => nomatch z
  have fa := Ia.base.keep f _ hf nf rf (nob f)
  have ta := Ia.base.keep t _ ht nt rt (nob t)
  refine PySem.W.callWith_F0 ⟨_, _, _, _, fa⟩ ?_
  have un : Un (frs X.stack) [] H Ha s.heap sa.heap := Ia.base
  obtain ⟨⟨oc, vs, tq, hoc, hdc, hvc⟩, _, _⟩ := Ia.hok c' _ hc
  have runs : codeAny (model X.prog X.w) (X.A.deeper (envOfC qg sg s.heap.objs.size g cdg)) (.call (.ref f) ⟨[], []⟩) (CR (L2.CX X.prog X.w) (envOfC qg sg s.heap.objs.size g cdg :: X.stack) X.prog X.w Ha sa Q E) sa := by
    refine PySem.W.kla_callFunE hr.depth fa rfl L.co L.gen rfl ⟨c', oc, vs, tq, rfl, hoc, hdc, hvc⟩ (bind sa ta _ _ _ _ ?_)
    refine wpAny_newFunctionEnv L.nocell ?b1 (fun hz ns sb => ⟨Ia.nolimit.fresh _ sb, ?b2⟩) L.kind
    case b1 =>
      intro y hy
      rw [List.mem_singleton.mp hy]
      exact L.par
    case b2 =>
      show codeAny _ _ (.expr body (lamEnv X scope sa.heap.objs.size f c')) _ _
      have kp : ∀ b o, sa.heap.get? b = some o → hz.get? b = some o := fun b o e => sb.extBut b o (Nat.ne_of_lt (Heap.lt_size e)) (Heap.get?_push_of_some _ e)
      have J : Inv (lamCx X (X.A.deeper (envOfC qg sg s.heap.objs.size g cdg)) (envOfC qg sg s.heap.objs.size g cdg :: X.stack) sa Ha E scope f c') [] σ Ha { sa with heap := hz, toks := sa.toks + ([(p, u)] : List (Str × Value)).length } :=
        startP I L Ia.env0 hr.hd un ns kp
      refine PySem.W.kla_codeExpr (wpAny_mono ((inner _ _ sa Ha (hr.deeper _)).run [] _ _ Ha Q J hq) ?b3 fun _ _ z => z)
      case b3 => exact fun v s' ⟨w', H', J', rv, q⟩ => ⟨w', H', J'.os, J'.bare, J'.base, J'.hok, rv, q⟩
  have out : Passes (L2.CX X.prog X.w) ((cxOf CXg X.prog X.w X.K X.mg X.base Ng qg sg g cdg X.A X.stack s H Eg).tr pn xe) E := passes_call tk hW
  refine wpAny_call (codeAny_mono runs fun r s' z => ?_)
  match r, z with
  | .error e, z => exact out pinsZ σZ Ha sa e s' Ia z
  | .ok (.ret _), z => exact Ia.after z
  | .ok .next, z => exact z.elim
  | .ok .brk, z => exact z.elim
  | .ok .cont, z => exact z.elim
/-- x(lambda p=d: body) -/
theorem pe_lamcallP {T : List (Addr × Str)} {TT : (XK → Hp → VK → Prop) → Hp → VK → Prop} {x a p : Str} {g c P : Addr} {k : Nat} {pg : Arguments} {bg : List Stmt} {sg : Scope} {dV kV doc pm cdv ct oc : Value} {an od : Option Addr} {osl : Array (Option Value)} {Ng : List Str}
    {params : Arguments} {body d0 : Expr} {v0 : V} {scope : Scope} {t : XK → TE} {q1 q2 q3 : Pos} (hg : Gl X x) (hm : X.mg x = some (.ref g)) (hk : PySem.W.keepIn X.K (.ref g) = true)
    (lk : X.K.lookup g = some ⟨oc, od, .func (PySem.W.fnOf x x pg bg sg dV kV doc pm an cdv ct), osl⟩) (hcg : PySem.W.codeIn X.K cdv x = true) (hb : L2.Binds X.K (PySem.W.fnOf x x pg bg sg dV kV doc pm an cdv ct) [a] []) (Sg : FnScope Ng [a] sg) (hNg : Ng[0]? = some a) (hva : Vis sg a)
    (hG : GivesTo X Ng x sg g cdv bg a (X.env.qual ++ "<lambda>") TT) (TB : TabB X.base X.mg c P) (hcode : X.env.code = .ref c) (hmT : (P, X.env.qual ++ "<lambda>") ∈ T) (hu : ∀ b ∈ T, b.1 = P → b.2 = X.env.qual ++ "<lambda>") (hr : Room (k + 2) X.A)
    (L : LamP X.N X.env.scope scope p) (hd : params.defaults = [d0]) (hkd : params.kw_defaults = []) (he : PE X d0 (tC v0))
    (bind : ∀ (q : Str) (cl : List (Str × Addr)) (t : Addr) (u doc pm cv ctv : Value) (z : Shared), z.heap.get? t = some (PySem.W.kdv_tup [u]) → BindsTo z (lamPF q params body scope cl t doc pm cv ctv) ⟨[], []⟩ [(p, u)])
    (inner : ∀ (A : Around) (outer : List Env) (s : Shared) (H : Hp) (E : XK) (f c' : Addr), Room k (A.deeper (lamEnv X scope s.heap.objs.size f c')) → PE (lamCx X A outer s H E scope f c') body (t E))
    (n1 : (x == ("__debug__" : Str)) = false := by decide) (n2 : (a == ("__debug__" : Str)) = false := by decide) (n3 : (a == ("__classdict__" : Str)) = false := by decide) :
    PE X (.Call (.Name x q1) [.Lambda params body scope q2] [] q3) (tLam T TT t) := by
  refine ⟨fun pins s σ H Q I ⟨hT, h⟩ => ?_⟩
  refine wpAny_Call_Name_kw (ld_glob I hg hm (PySem.W.callWith_K (h₀ := X.base) I.ok.mod.kin hk ?_ (by rfl) (by rfl)) n1)
  show wpAny _ _ (spliced ((false, eval (.Lambda params body scope q2) X.env) :: backTo q3 (starEach [] X.env))) _ _ s
  refine Calls.spliced_cons (makeP I TB hcode hmT hu hT hd hkd he (L.cells I.ok) fun f t1 c' u pm' ctv doc' H1 s' J eN T1 hf ht nf rf nt rt hco => ?_)
  refine Calls.spliced_nil ⟨J.kIn, ?_⟩
  have runs : codeAny (model X.prog X.w) X.A (.call (.ref g) ⟨[.ref f], []⟩) (CR C8.CX0 X.stack X.prog X.w H1 s' Q C8.E0) s' := by
    refine run_ofS (N := Ng) (ps := [a]) (us := [.ref f]) (vs := [.ref f]) lk hcg Sg hr J.env0 (hb s' [.ref f] J.kIn rfl) (.cons rfl .nil) rfl fun hr' => ?_
    obtain ⟨td, hp, hq⟩ := hG f c' s' H1 Q (fun E H' Q' => t E σ H' Q') (fun W pn xe E p1 p2 tk hW => actP (i := 0) J L hf ht nf rf nt rt (fun z => bind _ _ _ _ _ _ _ _ z) tk hW hr' (fun A outer s H hr2 => inner A outer s H E f c' hr2) hNg hva n2 n3) hco (h H1 eN T1)
    exact ⟨td, hp.nox, hq⟩
  refine wpAny_call (codeAny_mono runs fun r s2 z => ?_)
  match r, z with
  | .error e, z => exact (show False from z).elim
  | .ok (.ret _), z => exact J.after z
  | .ok .next, z => exact z.elim
  | .ok .brk, z => exact z.elim
  | .ok .cont, z => exact z.elim
end
end FW

set_option maxRecDepth 100000
set_option maxHeartbeats 4000000
/-! fair weather: isinstance of rows of classes, repr of rows with nothing in them, comprehensions over ranges, draws in them -/
namespace FW
open PySem L2 PyProof.Rows
/-! ### isinstance(e, (c1, ..)) -/
/-- e an exception that is kept -/
def rIsXT (K : PySem.W.Frag) : List V → Hp → VK → Prop := fun xs H Q => ∃ (a tp D : Addr) (d : Option Addr) (cs : List V) (us : List Value) (b : Bool), xs = [.ref a, .ref tp] ∧ H tp = some (.tup cs) ∧ Paired ClsV cs us ∧ H a = some (ExT a (.ref D) d) ∧ ExcC K D ∧
  (d = none ∨ ∃ (dd : Addr) (fs : List (Str × V)), d = some dd ∧ H dd = some (.xd fs)) ∧ PySem.W.kitAny K (.ref D) us = some b ∧ Q (.bl b) H
theorem call_isXT {X : Cx} : CallR X (.builtin "isinstance") (rIsXT X.K) := by
  intro pins s σ H xs us Q I r h
  obtain ⟨a, tp, D, d, cs, ws, b, rfl, hT, pc, e, C, hd, q1, q⟩ := h
  obtain ⟨u1, u2, rfl, r1, r2⟩ := vals2 r
  cases (show u1 = Value.ref a from r1)
  cases (show u2 = Value.ref tp from r2)
  obtain ⟨ox, od, J⟩ := inst_of I e hd
  obtain ⟨_, its, rv, ob, k1, k2, n, k3⟩ := (show ObjOk X.prog X.w H s.heap tp (.tup cs) from I.hok tp _ hT)
  obtain rfl := ClsV.all pc rv
  obtain ⟨oc, odd, dt, sl⟩ := ob
  simp only at k2 k3
  subst k2 k3
  exact PySem.W.kia_tup (PySem.W.fw_kitx C) I.kIn J k1 q1 (fun z => nomatch z) fun tk => ⟨.bl b, H, I.tok tk, rfl, q⟩
def rIsAT (K : PySem.W.Frag) : List V → Hp → VK → Prop := fun xs H Q => rIsiT K xs H Q ∨ rIsXT K xs H Q
theorem call_isAT {X : Cx} : CallR X (.builtin "isinstance") (rIsAT X.K) := by
  intro pins s σ H xs us Q I r h
  rcases h with h | h
  · exact call_isiT pins s σ H xs us Q I r h
  · exact call_isXT pins s σ H xs us Q I r h
/-! ### repr where there may be nothing -/
def rShowA (K : PySem.W.Frag) : List V → Hp → VK → Prop := fun xs H Q => rShow K xs H Q ∨ (xs = [.non] ∧ Q (.str "None") H) ∨ ∃ b, xs = [.bl b] ∧ Q (.str (if b = true then "True" else "False")) H
theorem call_showA {X : Cx} (hg : X.A.guards = some []) (hu : X.A.units + 64 < cLine) : CallR X (.builtin "repr") (rShowA X.K) := by
  intro pins s σ H xs us Q I r h
  rcases h with h | ⟨rfl, q⟩ | ⟨b, rfl, q⟩
  · exact call_show hg hu pins s σ H xs us Q I r h
  · obtain ⟨u, rfl, e⟩ := vals1 r
    obtain rfl : u = Value.none := e
    exact PySem.P.repr_of_none ⟨.str _, H, I.tok _, ⟨_, rfl⟩, q⟩
  · obtain ⟨u, rfl, e⟩ := vals1 r
    obtain rfl : u = Value.bool b := e
    refine PySem.P.repr_of_bool ⟨.str _, H, I.tok _, ⟨_, rfl⟩, ?_⟩
    cases b <;> exact q
def vo : Option Int → V
  | none => .non
  | some n => .int n
def po : Option Int → PyData
  | none => .none
  | some n => .int n
theorem dpAll_os (K : PySem.W.Frag) (H : Hp) : ∀ os : List (Option Int), DpAll K H (os.map vo) (os.map po)
  | [] => .nil
  | none :: os => .cons .non (dpAll_os K H os)
  | some n :: os => .cons (.int n) (dpAll_os K H os)
theorem os_depth : ∀ os : List (Option Int), PyData.depthAll (os.map po) = 0
  | [] => rfl
  | none :: os => by simp only [List.map, po, PyData.depthAll, PyData.depth, os_depth os, Nat.max_self]
  | some n :: os => by simp only [List.map, po, PyData.depthAll, PyData.depth, os_depth os, Nat.max_self]
theorem os_noDict : ∀ os : List (Option Int), PyData.hasDictAll (os.map po) = false
  | [] => rfl
  | none :: os => by show (PyData.hasDict .none || PyData.hasDictAll (os.map po)) = false; rw [os_noDict os]; rfl
  | some n :: os => by show (PyData.hasDict (.int n) || PyData.hasDictAll (os.map po)) = false; rw [os_noDict os]; rfl
/-- small ones -/
def SmO (o : Option Int) : Prop := ∀ n, o = some n → n.natAbs.log2 < 1920
theorem os_show : ∀ os : List (Option Int), (∀ o ∈ os, SmO o) → PyData.showableAll (os.map po) = true
  | [], _ => rfl
  | none :: os, h => by
    show (PyData.showable .none && PyData.showableAll (os.map po)) = true
    rw [os_show os fun m hm => h m (List.mem_cons_of_mem _ hm), Bool.and_true]; rfl
  | some n :: os, h => by
    show (PyData.showable (.int n) && PyData.showableAll (os.map po)) = true
    rw [os_show os fun m hm => h m (List.mem_cons_of_mem _ hm), Bool.and_true]
    exact decide_eq_true (h _ (List.mem_cons_self ..) n rfl)
theorem os_shownAll : ∀ os : List (Option Int), PyData.shownAll (os.map po) = os.map fun o => PyData.shown (po o)
  | [] => rfl
  | o :: os => by show _ :: PyData.shownAll (os.map po) = _; rw [os_shownAll os]; rfl
theorem os_text {o : Option Int} (h : SmO o) : (PyData.shown (po o)).length ≤ 1921 := by
  cases o with
  | none => decide
  | some n => exact int_text_len_1921 (h n rfl)
theorem os_shown {os : List (Option Int)} (h : ∀ o ∈ os, SmO o) (hl : os.length ≤ 1000) : (PyData.shown (.list (os.map po))).length ≤ sizeLine := by
  show (listText (PyData.shownAll (os.map po))).length ≤ _
  rw [os_shownAll, sizeLine_eq]
  unfold listText
  rw [Str.length_append]
  have z := text_le 1921 (os.map fun o => PyData.shown (po o)) 0 "[" (fun t ht => by
    obtain ⟨o, ho, rfl⟩ := List.mem_map.mp ht
    exact os_text (h o ho))
  rw [List.length_map] at z
  have a1 : (("[" : String) : Str).length = 1 := by decide
  have a2 : (("]" : String) : Str).length = 1 := by decide
  rw [a1] at z
  rw [a2]
  omega
theorem w_showO {K : PySem.W.Frag} {a : Addr} {os : List (Option Int)} {H : Hp} {Q : VK} (sq : SqL K H a (os.map vo)) (h : ∀ o ∈ os, SmO o) (hl : os.length ≤ 1000) (q : Q (.str (PyData.shown (.list (os.map po)))) H) : rShow K [.ref a] H Q :=
  .inr ⟨a, .list (os.map po), rfl, .lst sq (dpAll_os K H os), os_show os h, os_noDict os, by have := os_depth os; simp only [PyData.depth]; omega, os_shown h hl, q⟩
theorem w_showo {K : PySem.W.Frag} {o : Option Int} {H : Hp} {Q : VK} (h : SmO o) (q : Q (.str (PyData.shown (po o))) H) : rShowA K [vo o] H Q := by
  cases o with
  | none => exact .inr (.inl ⟨rfl, q⟩)
  | some n => exact .inl (.inl ⟨n, rfl, h n rfl, q⟩)
/-! ### comprehensions over a range -/
section
variable {te : TE} {i : Nat} {σ : L2.St} {H1 : Hp}
/-- a turn: of the number j the j-th value is made -/
def TurnsR (te : TE) (i : Nat) (σ : L2.St) (H1 : Hp) (n : Nat) (ys : List V) : Prop := ∀ (j : Nat) (y : V) (H' : Hp) (R : VK), j < n → ys[j]? = some y → Grow H1 H' → (∀ H2, Grow H' H2 → R y H2) → te ((wipe σ [i]).set i (some (.int (0 + (j : Int))))) H' R
theorem lcR {Qd : Addr → Hp → Prop} {n : Nat} {ys : List V} (hw : ∀ x, wipe ((wipe σ [i]).set i (some x)) [i] = wipe σ [i]) (hl : ys.length = n) (hs : n < sizeLine) (turn : TurnsR te i σ H1 n ys)
    (done : ∀ D H', H1 D = none → H' D = some (.lst ys) → Grow H1 H' → Qd D H') (D : Addr) (nD : H1 D = none) :
    ∃ W : Nat → Nat → Hp → Prop, (∃ m, W 0 m (upd H1 D (.lst []))) ∧ ∀ j m H, W j m H →
      ((Itr 0 n).stop j H ∧ Qd D H) ∨ ((Itr 0 n).go j H ∧ ∃ Nx : Hp → Prop, (∀ H', Nx H' → ∃ m', m' < m ∧ W (j + 1) m' H') ∧ ∀ x H', (Itr 0 n).yld j H x H' → gName i x (wipe σ [i]) H' fun σ2 H2 => wipe σ2 [i] = wipe σ [i] ∧ tYes σ2 H2 fun b H3 =>
        if b = true then te σ2 H3 fun y H4 => ∃ acc, H4 D = some (.lst acc) ∧ acc.length < sizeLine ∧ Nx (upd H4 D (.lst (acc ++ [y]))) else Nx H3) := by
  refine lc_range (lo := 0) (n := n) (fun j H' => H' D = some (.lst (ys.take j)) ∧ Grow H1 H') ⟨upd_same, Grow.new nD⟩ (fun j H' hj p => ?_) (fun H' p => done D H' nD (by rw [← hl, List.take_length] at p; exact p.1) p.2)
  refine ⟨hw _, ?_⟩
  unfold tYes
  refine w_yes ?_
  have hj' : j < ys.length := by rw [hl]; exact hj
  refine turn j ys[j] H' _ hj (by simp [hj']) p.2 fun H2 g => ⟨ys.take j, g _ _ p.1, by rw [List.length_take]; omega, ?_, fun b o e => ?_⟩
  · rw [upd_same, List.take_succ_eq_append_getElem hj']
  · rw [upd_ne (ne_of_none e nD)]; exact g _ _ (p.2 _ _ e)
end
/-! ### draws, the place of the cells being told -/
def spDropL (K : PySem.W.Frag) : Sp := fun vs H Q _ => ∃ (c l : Addr) (n : Nat) (cells : List Int) (rest many : Int), vs = [.ref c, .int many] ∧ H c = some (.lst [.ref l, .int n, .int rest]) ∧ SqL K H l (cells.map V.int) ∧ l ≠ c ∧ n < 1000000 ∧ 0 < many ∧ many < 1073741824 ∧
  ∀ (r rest' : Int) (n' : Nat) (H' : Hp), 0 ≤ r → r < many → n' ≤ n + 1 → H' c = some (.lst [.ref l, .int n', .int rest']) → Ext c H H' → Q (.int r) H'
theorem dropL {K : PySem.W.Frag} (vs : List V) (H : Hp) (Q : VK) (E : XK) (h : spDrop K vs H Q E) : spDropL K vs H Q E := by
  obtain ⟨c, n, many, rfl, ⟨l, cells, rest, h1, h2, h3⟩, hn, m0, m1, k⟩ := h
  exact ⟨c, l, n, cells, rest, many, rfl, h1, h2, h3, hn, m0, m1, fun r rest' n' H' r0 r1 hn' hc he => k r n' H' r0 r1 hn' ⟨l, cells, rest', hc, he.sqL h3 h2, h3⟩ he⟩
/-- [draw(many) for _ in range(n)] -/
theorem lcDraw {K : PySem.W.Frag} {te : TE} {i : Nat} {σ : L2.St} {H1 : Hp} {Qd : Addr → Hp → Prop} {n n0 : Nat} {c : Addr} {many : Int} {E : XK} (hw : ∀ x, wipe ((wipe σ [i]).set i (some x)) [i] = wipe σ [i]) (hs : n < 100000) (hn0 : n0 < 850000) (m0 : 0 < many) (m1 : many < 1073741824)
    (hte : ∀ (x : V) (H : Hp) (R : VK), spDropL K [.ref c, .int many] H R E → te ((wipe σ [i]).set i (some x)) H R) (hc : Cloud K H1 c n0)
    (done : ∀ D H' (ns : List Int) (m : Nat), H1 D = none → H' D = some (.lst (ns.map V.int)) → ns.length = n → (∀ z ∈ ns, 0 ≤ z ∧ z < many) → Cloud K H' c m → m ≤ n0 + n → Ext c H1 H' → Qd D H') (D : Addr) (nD : H1 D = none) :
    ∃ W : Nat → Nat → Hp → Prop, (∃ m, W 0 m (upd H1 D (.lst []))) ∧ ∀ j m H, W j m H →
      ((Itr 0 n).stop j H ∧ Qd D H) ∨ ((Itr 0 n).go j H ∧ ∃ Nx : Hp → Prop, (∀ H', Nx H' → ∃ m', m' < m ∧ W (j + 1) m' H') ∧ ∀ x H', (Itr 0 n).yld j H x H' → gName i x (wipe σ [i]) H' fun σ2 H2 => wipe σ2 [i] = wipe σ [i] ∧ tYes σ2 H2 fun b H3 =>
        if b = true then te σ2 H3 fun y H4 => ∃ acc, H4 D = some (.lst acc) ∧ acc.length < sizeLine ∧ Nx (upd H4 D (.lst (acc ++ [y]))) else Nx H3) := by
  obtain ⟨l, cells, rest, h1, h2, h3⟩ := hc
  have cD : D ≠ c := Ne.symm (ne_of_none h1 nD)
  refine lc_range (lo := 0) (n := n) (fun j H' => ∃ (ns : List Int) (m : Nat) (r : Int), H' D = some (.lst (ns.map V.int)) ∧ ns.length = j ∧ (∀ z ∈ ns, 0 ≤ z ∧ z < many) ∧ H' c = some (.lst [.ref l, .int m, .int r]) ∧ m ≤ n0 + j ∧ Ext c H1 H')
    ⟨[], n0, rest, upd_same, rfl, (fun z hz => nomatch hz), (by rw [upd_ne (Ne.symm cD)]; exact h1), by omega, Ext.new nD⟩ (fun j H' hj p => ?_) (fun H' p => ?_)
  · obtain ⟨ns, m, r, p1, p2, p3, p4, p5, p6⟩ := p
    refine ⟨hw _, ?_⟩
    unfold tYes
    refine w_yes (hte _ H' _ ⟨c, l, m, cells, r, many, rfl, p4, p6.sqL h3 h2, h3, by omega, m0, m1, fun z r' m' H4 z0 z1 hm' hc' he' => ?_⟩)
    refine ⟨ns.map V.int, he' _ _ cD p1, by rw [List.length_map, sizeLine_eq]; omega, ns ++ [z], m', r', ?_, ?_, ?_, ?_, by omega, ?_⟩
    · rw [upd_same, List.map_append]; rfl
    · rw [List.length_append]; simp [p2]
    · intro y hy
      rcases List.mem_append.mp hy with hy | hy
      · exact p3 y hy
      · rw [List.mem_singleton.mp hy]; exact ⟨z0, z1⟩
    · rw [upd_ne (Ne.symm cD)]; exact hc'
    · intro b o nb e
      rw [upd_ne (ne_of_none e nD)]
      exact he' _ _ nb (p6 _ _ nb e)
  · obtain ⟨ns, m, r, p1, p2, p3, p4, p5, p6⟩ := p
    exact done D H' ns m nD p1 p2 p3 ⟨l, cells, r, p4, p6.sqL h3 h2, h3⟩ p5 p6
end FW

set_option maxRecDepth 100000
set_option maxHeartbeats 4000000
/-! fair weather: what stands behind the top, by names -/
namespace FW
open PySem L2 PyProof.Rows
/-- a def of the top, no defaults -/
def dTop (x : Str) (st : Stmt) : He.DefD := ⟨(x, none), x, x, defArgs st, defBody st, defScope st, [], []⟩
/-- a method of a class of the top -/
def dIn (c m : Str) (st : Stmt) : He.DefD := ⟨(c, some m), m, c ++ "." ++ m, defArgs st, defBody st, defScope st, [], []⟩
theorem fun_of {K : PySem.W.Frag} {x qual : Str} {st : Stmt} {f : Addr} {fd : FuncData} (F : FunD K x qual (defArgs st) (defBody st) (defScope st) [] [] f fd) : Fun K x qual st f fd := by
  obtain ⟨oc, od, dV, kV, doc, pm, an, cdv, ct, osl, rfl, lk, hcd, hD, hK⟩ := F.ex
  have e : dV = .none := by
    rcases hD with ⟨_, e⟩ | ⟨e, _⟩
    · exact e
    · exact absurd rfl e
  subst e
  exact ⟨⟨oc, od, kV, doc, pm, an, cdv, ct, osl, rfl, lk, hcd⟩, F.kp⟩
/-! ### an own exception of one field -/
def oexB (K : PySem.W.Frag) (C : Addr) : Bool := match K.lookup C with
  | some ⟨.type t, _, .cls cd, sl⟩ => t == "type" && (cd.hasDict && (!cd.hasDel && (match cd.mro, sl.toList with
    | .ref c :: bm, [_, _, _, _, some (.builtin n), _] => c == C && (n == "ValueError.__new__" && PySem.HandSPX.refsVE bm)
    | _, _ => false)))
  | _ => false
theorem oexB_ok {K : PySem.W.Frag} {C : Addr} (h : oexB K C = true) : ∃ nm q N bs bm sn sub ab col dd k0 k1 k2 k3 k5, K.lookup C = some (excClassObj nm q C N bs bm true sn sub ab col dd k0 k1 k2 k3 k5 "ValueError.__new__") ∧ PySem.HandSPX.refsVE bm = true := by
  unfold oexB at h
  split at h
  · rename_i t dd cd sl ho
    simp only [Bool.and_eq_true, beq_iff_eq, Bool.not_eq_true'] at h
    obtain ⟨rfl, h1, h2, h3⟩ := h
    split at h3
    · rename_i c bm k0 k1 k2 k3 n k5 hm hs
      simp only [Bool.and_eq_true, beq_iff_eq] at h3
      obtain ⟨rfl, rfl, h4⟩ := h3
      obtain ⟨nm, bs, mro, ns, qn, hd, sn, sub, ab, col, del⟩ := cd
      dsimp only at hm h1 h2
      subst hm h1 h2
      have hsl : sl = #[k0, k1, k2, k3, some (.builtin "ValueError.__new__"), k5] := by
        obtain ⟨l⟩ := sl
        simp only at hs
        rw [hs]
      subst hsl
      exact ⟨nm, qn, ns, bs, bm, sn, sub, ab, col, dd, k0, k1, k2, k3, k5, ho, h4⟩
    · cases h3
  · cases h
def exnB (K : PySem.W.Frag) (x f : Str) : Bool :=
  oexB K (He.ga K x) && (decide (PySem.W.findIn K (.ref (He.ga K x)) "__setattr__" = some (some (.builtin "object.__setattr__"))) && (decide (PySem.W.typeIn K (.ref (He.ga K x)) = some (.type "type")) && (PySem.W.keepIn K (.ref (He.ga K x)) &&
  (decide (PySem.W.findIn K (.ref (He.ga K x)) f = some none) && (xfB K (He.ga K x) && (decide (PySem.W.findIn K (.ref (He.ga K x)) "__class__" = some (some (.builtin "object.__class__"))) &&
  (decide (PySem.W.specialIn K (.builtin "object.__class__") "__get__" = some (some (.builtin "getset_descriptor.__get__"))) && (decide (PySem.W.takesIn K (.builtin "object.__class__") = some true) && (decide (PySem.W.mroIn K (He.ga K x) (.type "object") = some true) &&
  (decide (PySem.W.findIn K (.ref (He.ga K x)) "__init__" = some (some (.ref (He.ma K (He.ga K x) "__init__")))) && decide (PySem.W.typeIn K (.ref (He.ma K (He.ga K x) "__init__")) = some (.type "function"))))))))))))
theorem exnB_ok {P : Program} {w : World} {K : PySem.W.Frag} {mg : Str → Option Value} {base : Heap} {x f : Str} (h : exnB K x f = true) (g : mg x = some (.ref (He.ga K x)))
    (init : ∃ (fd : FuncData) (ps : List Str), FnOk P w K mg base CX0 1 (He.ma K (He.ga K x) "__init__") fd ps (spInit1 K (He.ga K x) f) ∧ Binds K fd ps []) : Exn P w K mg base x f (He.ga K x) := by
  unfold exnB at h
  simp only [Bool.and_eq_true, decide_eq_true_eq] at h
  obtain ⟨h1, h2, h3, h4, h5, h6, h7, h8, h9, h10, h11, h12⟩ := h
  have xf := xfB_ok h6
  obtain ⟨fd, ps, F, b⟩ := init
  exact ⟨⟨oexB_ok h1, h2, xf.exC, h3, h4⟩, g, h5, xf, ⟨xf.ga, xf.gg, xf.exC, xf.hdC, h7, h8, h9, h10⟩, ⟨_, fd, ps, h11, h12, F, b⟩⟩
/-! ### the facts, one by one -/
section
variable {K : PySem.W.Frag} {h : Heap} {mg : Str → Option Value} {fa : List He.Fa} {fn : List He.DefD}
theorem glo_at (X : K.In h) (G : h.Ns mainGlobals mg) (c : He.SaysD fa fn K) (i : Nat) {x : Str} (e : fa[i]? = some (.glo x)) : mg x = some (.ref (He.ga K x)) := He.glo_ok X G (c.fact i e)
theorem free_at (X : K.In h) (G : h.Ns mainGlobals mg) (c : He.SaysD fa fn K) (i : Nat) {x : Str} (e : fa[i]? = some (.free x)) : mg x = none := He.free_ok X G (c.fact i e)
theorem int_at (X : K.In h) (G : h.Ns mainGlobals mg) (c : He.SaysD fa fn K) (i : Nat) {x : Str} {n : Int} (e : fa[i]? = some (.int x n)) : ∃ u, mg x = some u ∧ RelV (.int n) u := by
  obtain ⟨t, q⟩ := He.int_ok X G (c.fact i e)
  exact ⟨_, q, t, rfl⟩
theorem fun_at (c : He.SaysD fa fn K) (i : Nat) {x : Str} {st : Stmt} (e : fn[i]? = some (dTop x st)) : ∃ fd, Fun K x x st (He.ga K x) fd := by
  obtain ⟨fd, F⟩ := c.def_ i e
  exact ⟨fd, fun_of F⟩
theorem defOk_of (c : He.SaysD fa fn K) (i : Nat) {x : Str} {st : Stmt} {ps : List Str} (e : fn[i]? = some (dTop x st)) (g : mg x = some (.ref (He.ga K x)))
    (b : ∀ (kV doc pm : Value) (an : Option Addr) (cdv ct : Value) (us : List Value), us.length = ps.length → bindArgs (PySem.W.fnOf x x (defArgs st) (defBody st) (defScope st) .none kV doc pm an cdv ct) ⟨us, []⟩ = pure (ps.zip us)) : DefOk K mg x st ps := by
  obtain ⟨fd, F⟩ := fun_at c i e
  exact ⟨_, fd, F, g, F.binds b⟩
theorem defOkC_of (c : He.SaysD fa fn K) (i : Nat) {x : Str} {st : Stmt} {ps : List Str} (e : fn[i]? = some (dTop x st)) (g : mg x = some (.ref (He.ga K x)))
    (b : ∀ (kV doc pm : Value) (an : Option Addr) (cdv ct : Value) (us : List Value), us.length = ps.length → bindArgs (PySem.W.fnOf x x (defArgs st) (defBody st) (defScope st) .none kV doc pm an cdv ct) ⟨us, []⟩ = pure (ps.zip us)) : DefOkC K mg x st ps (He.codeOf K (x, none)) := by
  obtain ⟨fd, F⟩ := fun_at c i e
  have F2 := F
  obtain ⟨oc, od, kV, doc, pm, an, cdv, ct, osl, rfl, lk, hcd⟩ := F2.ex
  obtain ⟨cc, rfl⟩ := He.codeIn_ref hcd
  exact ⟨_, _, F, g, F.binds b, by rw [He.codeOf_eq (p := (x, none)) lk rfl]⟩
theorem kdct_of {w : World} {a : Addr} {es : Array DictEntry} {n : Nat} {kvs : List (Str × He.Dv)} (d : KDict K w a es n) (v : He.valsB K a kvs = true) {q : Str × He.Dv} (hq : q ∈ kvs) : KDct K w a q.1 (q.2.v K) := by
  obtain ⟨u, e1, e2⟩ := He.valsB_ok v hq
  exact ⟨es, n, u, d.at_, d.lit, e1, e2⟩
theorem init1_ok {P : Program} {w : World} {base : Heap} {qual f : Str} {st : Stmt} {a C : Addr} {fd : FuncData} {p : Str} (F : Fun K "__init__" qual st a fd) (S : FnScope [("self" : Str), p] [("self" : Str), p] (defScope st))
    (body : ∀ X : Cx, X.N = [("self" : Str), p] → X.env.scope = defScope st → PSs X (defBody st) (tOst X.K f (tVar 0) (tVar 1))) : FnOk P w K mg base CX0 1 a fd [("self" : Str), p] (spInit1 K C f) := by
  refine F.ok S (fun vs H Q E h => ?_) (fun cdv A outer s H vs Q E hr h => ⟨_, body _ rfl rfl, ?_⟩)
  · obtain ⟨a, v, rfl, _⟩ := h; rfl
  · obtain ⟨a, v, rfl, T, no, ha, k⟩ := h
    exact ⟨v, rfl, .ref a, rfl, a, C, rfl, T, no, .inl ⟨ha, fun dx n1 n2 => k dx n1 n2⟩⟩
end
end FW

set_option maxRecDepth 100000
set_option maxHeartbeats 4000000
namespace K35
open PySem L2 FW
def top (i : Nat) : Stmt := PySem.Challenge.pw_fairweather_k35_letters_wanted.main.body.getD i (.Pass ⟨0, 0, 0, 0⟩)
local macro_rules | `(tactic| walk_at "side") => `(tactic| first
  | omega
  | exact ⟨by omega, by omega⟩
  | exact Or.inl ⟨by omega, by omega⟩
  | exact Or.inr ⟨by omega, by omega⟩
  | exact ⟨by omega, by omega, by omega⟩
  | exact ⟨by decide, by decide, by decide⟩
  | (refine mix2 ?_ ?_ ?_ ?_ ?_ ?_ ?_ ?_ ?_ ?_ <;> omega))
local macro_rules | `(tactic| walk_at "hp") => `(tactic| first
  | assumption | exact upd_same
  | (refine' rd_new ?n ?q; (case n => assumption); (case q => walk_at "hp"))
  | (refine' rd_ne ?n ?q; (case n => first | assumption | (apply Ne.symm; assumption)); (case q => walk_at "hp")))
local macro_rules | `(tactic| walk_at "sq") => `(tactic| first
  | assumption
  | (with_reducible apply SqL.of; walk_at "hp") | (with_reducible apply SqT.of; walk_at "hp")
  | ((with_reducible refine' sqL_new ?n ?q); (case n => assumption); (case q => walk_at "sq"))
  | ((with_reducible refine' sqT_new ?n ?q); (case n => assumption); (case q => walk_at "sq"))
  | ((with_reducible refine' sqL_ne ?n ?q); (case n => first | assumption | (apply Ne.symm; assumption)); (case q => walk_at "sq"))
  | ((with_reducible refine' sqT_ne ?n ?q); (case n => first | assumption | (apply Ne.symm; assumption)); (case q => walk_at "sq"))
  | ((with_reducible refine' Ext.sqL ?e ?n ?q); (case e => assumption); (case n => first | assumption | (apply Ne.symm; assumption)); (case q => walk_at "sq"))
  | ((with_reducible refine' Ext.sqT ?e ?n ?q); (case e => assumption); (case n => first | assumption | (apply Ne.symm; assumption)); (case q => walk_at "sq"))
  | ((with_reducible refine' Grow.sqL ?e ?q); (case e => assumption); (case q => walk_at "sq"))
  | ((with_reducible refine' Grow.sqT ?e ?q); (case e => assumption); (case q => walk_at "sq")))
local macro_rules | `(tactic| walk_at "sqs") => `(tactic| first | assumption | (exact ‹∀ H, SqT _ H _ _› _) | (apply SqT.of; walk_at "hp"))
local macro_rules | `(tactic| walk_at "kn") => `(tactic| first | assumption | exact True.intro)
local macro_rules | `(tactic| walk_at "fw") => `(tactic| with_reducible first
  | refine w_seq ?_ | refine w_asg ?_ | refine w_ret ?_ | refine w_drop ?_ | refine w_next ?_ | refine w_c ?_ | refine w_op ?_ | refine w_un ?_
  | refine w_test ?_ | refine w_B ?_ | refine w_bl ?_ | refine w_not ?_ | refine w_and ?_ | refine w_or ?_ | refine w_andV ?_ | refine w_orV ?_ | refine w_notV ?_
  | refine w_if ?_ | refine w_ifE ?_ | refine w_yes ?_ | refine w_no ?_ | refine w_rfl ?_ | refine w_tr ?_ | refine w_nyes ?_ | refine w_nno ?_ | refine w_T ?_ | refine w_F ?_ | refine w_nil ?_ | refine w_cons ?_ | refine w_cb ?_ | refine w_call ?_ | refine w_lst ?_ | refine w_tup ?_
  | refine w_I0 ?_ | refine w_U ?_ | refine w_int ?_ | refine w_intB ?_ | refine w_abs ?_ | refine w_raise1 ?_ | refine w_sub ?_ | refine w_gcons ?_ | refine w_gnil ?_ | refine w_par ?_ | refine w_chain ?_ | refine w_callNB ?_)
local macro_rules | `(tactic| walk_at "fwv") => `(tactic| first
  | ((with_reducible refine' w_var ?e ?_); (case e => rfl))
  | ((with_reducible refine' w_I ?e ?_); (case e => walk_at "side"))
  | ((with_reducible refine' w_ixL ?s ?e ?_); (case s => walk_at "sq"); (case e => rfl))
  | ((with_reducible refine' w_lenL ?s ?_); (case s => walk_at "sq"); try simp only [List.length_map, List.length_cons, List.length_nil])
  | ((with_reducible refine' w_setL ?e ?f ?_); (case e => walk_at "hp"); (case f => rfl); try simp only [Int.reduceToNat, List.set_cons_zero, List.set_cons_succ, upd_upd])
  | ((with_reducible refine' w_gtup ?s ?l ?_); (case s => walk_at "sq"); (case l => rfl))
  | ((with_reducible refine' w_eq ?e ?_); (case e => rfl))
  | ((with_reducible refine' w_ne ?e ?_); (case e => rfl))
  | ((with_reducible refine' w_mk1 ?o ?n ?_); (case o => apply Exn.oex; assumption); (case n => apply Exn.no; assumption); intro _ _)
  | ((with_reducible refine w_dnew ?_); intro _ _)
  | ((with_reducible refine' w_inT (ss := ?ss) ?s ?_); (case s => walk_at "sqs"))
  | ((with_reducible refine' w_notInT (ss := ?ss) ?s ?_); (case s => walk_at "sqs"))
  | ((with_reducible refine' w_inX ?s ?f ?g ?_); (case s => walk_at "sqs"); (case f => rfl); (case g => rfl))
  | ((with_reducible refine' w_isIntA ?k ?_); (case k => walk_at "kn"))
  | ((with_reducible refine' w_isBlA ?k ?_); (case k => walk_at "kn"))
  | ((with_reducible refine' w_isStrA ?k ?_); (case k => walk_at "kn"))
  | ((with_reducible refine w_par2 ?_); simp only [List.set_cons_zero, List.set_cons_succ])
  | ((with_reducible refine w_name ?_); simp only [List.set_cons_zero, List.set_cons_succ]))
local macro_rules | `(tactic| walk_at "size") => `(tactic| first | (show _ ≤ sizeLine; decide) | (simp only [List.length_cons, List.length_nil]; decide))
local macro_rules | `(tactic| walk_at "mk") => `(tactic| ((with_reducible refine' w_made ?n ?_); (case n => walk_at "size"); intro _ _))
local macro_rules | `(tactic| walk_at "ev") => `(tactic| simp only [reduceCtorEq, V.int.injEq, V.bl.injEq, V.str.injEq, V.ref.injEq, List.append_nil, List.cons_append, List.nil_append, decide_true, decide_false, Bool.not_true, Bool.not_false])
local macro_rules | `(tactic| walk_at "go") => `(tactic| repeat (first | walk_at "fw" | walk_at "fwv" | walk_at "mk" | (dsimp only) | walk_at "ev"))
local macro_rules | `(tactic| walk_at "br") => `(tactic| first | refine w_iteN (fun _ => ?_) (fun _ => ?_) | refine w_iteD (fun _ => ?_) (fun _ => ?_) | refine w_ite (fun _ => ?_) (fun _ => ?_))
local macro_rules | `(tactic| walk_at "fork") => `(tactic| (first | refine w_iteN (fun hx => ?_) (fun hx => ?_) | refine w_iteD (fun hx => ?_) (fun hx => ?_) | refine w_ite (fun hx => ?_) (fun hx => ?_)) <;> first | (exact absurd hx (by decide +kernel)) | skip)
local macro_rules | `(tactic| walk_at "gr") => `(tactic| repeat' (first | exact Grow.refl _ | assumption | refine Grow.trans ?_ (Grow.new (by assumption))))

/-! ### the mathematics -/
def within (v lo hi : V) : Bool := match v with
  | .int i => (match lo with | .int l => decide (l ≤ i) | _ => true) && (match hi with | .int h => decide (i ≤ h) | _ => true)
  | _ => false
/-- d is not above c -/
def notAbove (d c : V) : Bool := match d, c with
  | .int m, .int n => decide (m ≤ n)
  | _, _ => false
/-- what is told of a call that is refused: whether it is a Misfit, and the part -/
def badW (a b c d : V) : Option (Bool × Str) :=
  if within a (.int 0) .non = false then some (false, "done") else if within b (.int 0) (.int 1) = false then some (false, "has") else
  if within c (.int 0) (.int 63) = false then some (false, "number") else if within d (.int 2) (.int 64) = false then some (false, "m") else
  if notAbove d c = true then some (true, "number") else none
/-- how a letter is used -/
def wantV (a b c d : Int) : V := if c = a % d ∧ b = 0 then .int 0 else if c = (a + 1) % d then .int 1 else .non
/-! ### what the text says -/
abbrev s_is_integer : Stmt := top 1
def N_is_integer : List Str := ["value"]
theorem sc_is_integer : FnScope N_is_integer ["value"] (defScope s_is_integer) := ⟨rfl, rfl, rfl, by decide +kernel, rfl, by decide +kernel, by decide +kernel⟩
abbrev s_is_within : Stmt := top 2
def N_is_within : List Str := ["value", "least", "most"]
theorem sc_is_within : FnScope N_is_within ["value", "least", "most"] (defScope s_is_within) := ⟨rfl, rfl, rfl, by decide +kernel, rfl, by decide +kernel, by decide +kernel⟩
abbrev s_check_numbers : Stmt := top 10
def N_check_numbers : List Str := ["m"]
theorem sc_check_numbers : FnScope N_check_numbers ["m"] (defScope s_check_numbers) := ⟨rfl, rfl, rfl, by decide +kernel, rfl, by decide +kernel, by decide +kernel⟩
abbrev s_is_wanted : Stmt := top 13
def N_is_wanted : List Str := ["done", "has", "number", "m"]
theorem sc_is_wanted : FnScope N_is_wanted ["done", "has", "number", "m"] (defScope s_is_wanted) := ⟨rfl, rfl, rfl, by decide +kernel, rfl, by decide +kernel, by decide +kernel⟩
/-! ### promises -/
def spIsInteger (K : PySem.W.Frag) : Sp := fun vs H Q _ => ∃ v, vs = [v] ∧ Kn K H v ∧ Q (.bl (isInt v)) H
def OrN (v : V) : Prop := v = .non ∨ ∃ i, v = .int i
def spWithin (K : PySem.W.Frag) : Sp := fun vs H Q _ => ∃ v lo hi, vs = [v, lo, hi] ∧ Kn K H v ∧ OrN lo ∧ OrN hi ∧ Q (.bl (within v lo hi)) H
def spNumbers (K : PySem.W.Frag) (C : Addr) : Sp := fun vs H Q E => ∃ v, vs = [v] ∧ Kn K H v ∧ (within v (.int 2) (.int 64) = true → Q .non H) ∧ (within v (.int 2) (.int 64) = false → ∀ d, H d = none → E (.ref C) (some d) (upd H d (.xd [("part", .str "m")])))
def spWanted (K : PySem.W.Frag) (CN CM : Addr) : Sp := fun vs H Q E => ∃ a b c d, vs = [a, b, c, d] ∧ Kn K H a ∧ Kn K H b ∧ Kn K H c ∧ Kn K H d ∧
  (badW a b c d = none → ∀ i j k l, a = .int i → b = .int j → c = .int k → d = .int l → Q (wantV i j k l) H) ∧
  (∀ m p, badW a b c d = some (m, p) → ∀ x, H x = none → E (.ref (if m = true then CM else CN)) (some x) (upd H x (.xd [("part", .str p)])))
structure Txt (P : Program) (w : World) (K : PySem.W.Frag) (mg : Str → Option Value) (base : Heap) where
  cBadNumber : Addr
  cMisfit : Addr
  b_int : mg "int" = none
  b_bool : mg "bool" = none
  b_len : mg "len" = none
  b_abs : mg "abs" = none
  b_isinstance : mg "isinstance" = none
  g_LEAST_NUMBERS : ∃ u, mg "LEAST_NUMBERS" = some u ∧ RelV (.int 2) u
  g_MOST_NUMBERS : ∃ u, mg "MOST_NUMBERS" = some u ∧ RelV (.int 64) u
  x_BadNumber : Exn P w K mg base "BadNumber" "part" cBadNumber
  x_Misfit : Exn P w K mg base "Misfit" "part" cMisfit
  d_is_integer : DefOk K mg "is_integer" s_is_integer ["value"]
  d_is_within : DefOk K mg "is_within" s_is_within ["value", "least", "most"]
  d_check_numbers : DefOk K mg "check_numbers" s_check_numbers ["m"]
  d_is_wanted : DefOk K mg "is_wanted" s_is_wanted ["done", "has", "number", "m"]
section
variable {P : Program} {w : World} {K : PySem.W.Frag} {mg : Str → Option Value} {base : Heap}
theorem ok_is_integer {f : Addr} {fd : FuncData} (T : Txt P w K mg base) (F : Fun K "is_integer" "is_integer" s_is_integer f fd) : FnOk P w K mg base CX0 1 f fd ["value"] (spIsInteger K) := by
  refine F.ok sc_is_integer (fun vs H Q E h => ?_) (fun cdv A outer s H vs Q E hr h => ?_)
  · obtain ⟨v, rfl, _⟩ := h; rfl
  · obtain ⟨v, rfl, kn, k⟩ := h
    refine ⟨_, (pss_one (ps_ret (pe_and (pe_callB call_isA (by rfl) T.b_isinstance (by decide +kernel) (pa_cons (pv 0) (pa_cons (pe_bltn (v := .ty "int") (u := .type "int") rfl T.b_int (by decide +kernel) rfl) pa_nil))) (pe_one (pe_not (pe_callB call_isA (by rfl) T.b_isinstance (by decide +kernel) (pa_cons (pv 0) (pa_cons (pe_bltn (v := .ty "bool") (u := .type "bool") rfl T.b_bool (by decide +kernel) rfl) pa_nil)))))))), ?_⟩
    rw [show L2.start N_is_integer [v] = [some v] from rfl]; try dsimp only [cxOf]
    walk_at "go"
    walk_at "br"
    · walk_at "go"
      cases v <;> simp_all [isIntB, isBl, isInt]
    · cases v <;> simp_all [isIntB, isBl, isInt]
theorem c_is_integer (T : Txt P w K mg base) : Can P w K mg base CX0 1 "is_integer" ["value"] (spIsInteger K) := T.d_is_integer.can fun f fd F => ok_is_integer T F
theorem ok_is_within {f : Addr} {fd : FuncData} (T : Txt P w K mg base) (F : Fun K "is_within" "is_within" s_is_within f fd) : FnOk P w K mg base CX0 2 f fd ["value", "least", "most"] (spWithin K) := by
  refine F.ok sc_is_within (fun vs H Q E h => ?_) (fun cdv A outer s H vs Q E hr h => ?_)
  · obtain ⟨v, lo, hi, rfl, _⟩ := h; rfl
  · obtain ⟨v, lo, hi, rfl, kn, hlo, hhi, k⟩ := h
    refine ⟨_, (pss_cons (ps_if (pt_not (pt_val (pe_can (E := E0) (c_is_integer T) hr (by decide) pass0 rfl (pa_cons (pv 0) pa_nil))))
 (pss_one (ps_ret pe_bl))
 pss_nil)
 (pss_cons (ps_if (PW.pt (pw_and (pt_cmpR op_notN (pv 1) pe_non (nomark _)) (pw_and1 (pt_cmpR op_lt (pv 0) (pv 1) (nomark _)))))
 (pss_one (ps_ret pe_bl))
 pss_nil)
 (pss_one (ps_ret (pe_or (pe_cmpR op_isN (pv 2) pe_non (nomark _)) (pe_one (pe_cmpR op_le (pv 0) (pv 2) (nomark _)))))))), ?_⟩
    rw [show L2.start N_is_within [(v), (lo), (hi)] = [some (v), some (lo), some (hi)] from rfl]; try dsimp only [cxOf]
    walk_at "go"
    refine ⟨v, rfl, kn, ?_⟩
    walk_at "go"
    cases hv : isInt v with
    | false =>
      walk_at "go"
      have e : within v lo hi = false := by cases v <;> first | rfl | cases hv
      rw [← e]; exact k
    | true =>
      obtain ⟨i, rfl⟩ : ∃ i, v = .int i := by cases v <;> first | exact ⟨_, rfl⟩ | cases hv
      rcases hlo with rfl | ⟨l, rfl⟩ <;> rcases hhi with rfl | ⟨u, rfl⟩
      · walk_at "go"; exact k
      · walk_at "go"; simp only [within, Bool.true_and] at k; exact k
      · walk_at "go"; refine w_iteD (fun h => ?_) (fun h => ?_)
        · walk_at "go"; simp only [within, Bool.and_true, decide_eq_false (show ¬ l ≤ i by omega)] at k; exact k
        · walk_at "go"; simp only [within, Bool.and_true, decide_eq_true (show l ≤ i by omega)] at k; exact k
      · walk_at "go"; refine w_iteD (fun h => ?_) (fun h => ?_)
        · walk_at "go"; simp only [within, decide_eq_false (show ¬ l ≤ i by omega), Bool.false_and] at k; exact k
        · walk_at "go"; simp only [within, decide_eq_true (show l ≤ i by omega), Bool.true_and] at k; exact k
theorem c_is_within (T : Txt P w K mg base) : Can P w K mg base CX0 2 "is_within" ["value", "least", "most"] (spWithin K) := T.d_is_within.can fun f fd F => ok_is_within T F
theorem ok_check_numbers {f : Addr} {fd : FuncData} (T : Txt P w K mg base) (F : Fun K "check_numbers" "check_numbers" s_check_numbers f fd) : FnOk P w K mg base (L2.CX P w) 3 f fd ["m"] (spNumbers K T.cBadNumber) := by
  refine F.okX sc_check_numbers (fun vs H Q E h => ?_) (fun cdv A outer s H vs Q E hr h => ?_)
  · obtain ⟨v, rfl, _⟩ := h; rfl
  · obtain ⟨v, rfl, kn, k1, k2⟩ := h
    have xN := T.x_BadNumber
    refine ⟨_, (pss_one (ps_if (pt_not (pt_val (pe_can (E := E0) (c_is_within T) hr (by decide) pass0 rfl (pa_cons (pv 0) (pa_cons (pe_gc rfl T.g_LEAST_NUMBERS) (pa_cons (pe_gc rfl T.g_MOST_NUMBERS) pa_nil))))))
 (pss_one (ps_raise1 T.x_BadNumber rfl (hr.mono (by decide)) (takes_of rfl rfl rfl rfl) (pa_cons pe_str pa_nil) rfl))
 pss_nil)), ?_⟩
    rw [show L2.start N_check_numbers [(v)] = [some (v)] from rfl]; try dsimp only [cxOf]
    walk_at "go"
    refine ⟨v, _, _, rfl, kn, .inr ⟨_, rfl⟩, .inr ⟨_, rfl⟩, ?_⟩
    walk_at "go"
    cases hv : within v (.int 2) (.int 64) with
    | false =>
      walk_at "go"
      exact k2 hv _ ‹_›
    | true =>
      walk_at "go"
      exact k1 hv
theorem c_check_numbers (T : Txt P w K mg base) : Can P w K mg base (L2.CX P w) 3 "check_numbers" ["m"] (spNumbers K T.cBadNumber) := T.d_check_numbers.can fun f fd F => ok_check_numbers T F
theorem in_int {v lo hi : V} (h : within v lo hi = true) : ∃ i, v = .int i := by cases v <;> first | exact ⟨_, rfl⟩ | cases h
theorem ok_is_wanted {f : Addr} {fd : FuncData} (T : Txt P w K mg base) (F : Fun K "is_wanted" "is_wanted" s_is_wanted f fd) : FnOk P w K mg base (L2.CX P w) 4 f fd ["done", "has", "number", "m"] (spWanted K T.cBadNumber T.cMisfit) := by
  refine F.okX sc_is_wanted (fun vs H Q E h => ?_) (fun cdv A outer s H vs Q E hr h => ?_)
  · obtain ⟨a, b, c, d, rfl, _⟩ := h; rfl
  · obtain ⟨a, b, c, d, rfl, ka, kb, kc, kd, k1, k2⟩ := h
    have xN := T.x_BadNumber
    have xM := T.x_Misfit
    refine ⟨_, (pss_cons (ps_if (pt_not (pt_val (pe_can (E := E0) (c_is_within T) hr (by decide) pass0 rfl (pa_cons (pv 0) (pa_cons pe_int (pa_cons pe_non pa_nil))))))
 (pss_one (ps_raise1 T.x_BadNumber rfl (hr.mono (by decide)) (takes_of rfl rfl rfl rfl) (pa_cons pe_str pa_nil) rfl))
 pss_nil)
 (pss_cons (ps_if (pt_not (pt_val (pe_can (E := E0) (c_is_within T) hr (by decide) pass0 rfl (pa_cons (pv 1) (pa_cons pe_int (pa_cons pe_int pa_nil))))))
 (pss_one (ps_raise1 T.x_BadNumber rfl (hr.mono (by decide)) (takes_of rfl rfl rfl rfl) (pa_cons pe_str pa_nil) rfl))
 pss_nil)
 (pss_cons (ps_if (pt_not (pt_val (pe_can (E := E0) (c_is_within T) hr (by decide) pass0 rfl (pa_cons (pv 2) (pa_cons pe_int (pa_cons (pe_op op_sub (pe_gc rfl T.g_MOST_NUMBERS) pe_int) pa_nil))))))
 (pss_one (ps_raise1 T.x_BadNumber rfl (hr.mono (by decide)) (takes_of rfl rfl rfl rfl) (pa_cons pe_str pa_nil) rfl))
 pss_nil)
 (pss_cons (ps_expr (pe_can (E := E) (c_check_numbers T) hr (by decide) (passes_call (takes_of rfl rfl rfl rfl) (fun _ _ _ _ h => h)) rfl (pa_cons (pv 3) pa_nil)))
 (pss_cons (ps_if (pt_cmpR op_ge (pv 2) (pv 3) (nomark _))
 (pss_one (ps_raise1 T.x_Misfit rfl (hr.mono (by decide)) (takes_of rfl rfl rfl rfl) (pa_cons pe_str pa_nil) rfl))
 pss_nil)
 (pss_cons (ps_if (PW.pt (pw_and (pt_cmpR op_eq (pv 2) (pe_op op_mod (pv 0) (pv 3)) (nomark _)) (pw_and1 (pt_cmpR op_eq (pv 1) pe_int (nomark _)))))
 (pss_one (ps_ret pe_int))
 pss_nil)
 (pss_one (ps_ret (pe_ifExp (pt_cmpR op_eq (pv 2) (pe_op op_mod (pe_op op_add (pv 0) pe_int) (pv 3)) (nomark _)) pe_int pe_non))))))))), ?_⟩
    rw [show L2.start N_is_wanted [(a), (b), (c), (d)] = [some (a), some (b), some (c), some (d)] from rfl]; try dsimp only [cxOf]
    walk_at "go"
    refine ⟨a, _, _, rfl, ka, .inr ⟨_, rfl⟩, .inl rfl, ?_⟩
    walk_at "go"
    cases h0 : within a (.int 0) .non with
    | false =>
      walk_at "go"
      exact k2 false "done" (by unfold badW; rw [h0]; rfl) _ ‹_›
    | true =>
      walk_at "go"
      refine ⟨b, _, _, rfl, kb, .inr ⟨_, rfl⟩, .inr ⟨_, rfl⟩, ?_⟩
      walk_at "go"
      cases h1 : within b (.int 0) (.int 1) with
      | false =>
        walk_at "go"
        exact k2 false "has" (by unfold badW; rw [h0, h1]; rfl) _ ‹_›
      | true =>
        walk_at "go"
        refine ⟨c, _, _, rfl, kc, .inr ⟨_, rfl⟩, .inr ⟨_, rfl⟩, ?_⟩
        walk_at "go"
        cases h2 : within c (.int 0) (.int 63) with
        | false =>
          have h2' : within c (.int 0) (.int (64 - 1)) = false := h2
          rw [h2']
          walk_at "go"
          exact k2 false "number" (by unfold badW; rw [h0, h1, h2]; rfl) _ ‹_›
        | true =>
          have h2' : within c (.int 0) (.int (64 - 1)) = true := h2
          rw [h2']
          walk_at "go"
          refine ⟨d, rfl, kd, fun h3 => ?_, fun h3 x nx => k2 false "m" (by unfold badW; rw [h0, h1, h2, h3]; rfl) x nx⟩
          obtain ⟨i, rfl⟩ := in_int h0
          obtain ⟨j, rfl⟩ := in_int h1
          obtain ⟨n, rfl⟩ := in_int h2
          obtain ⟨m, rfl⟩ := in_int h3
          have m2 : 2 ≤ m := by unfold within at h3; simp at h3; omega
          walk_at "go"
          refine w_iteD (fun h4 => ?_) (fun h4 => ?_)
          · walk_at "go"
            exact k2 true "number" (by unfold badW; rw [h0, h1, h2, h3]; rw [show notAbove (.int m) (.int n) = true from decide_eq_true h4]; rfl) _ ‹_›
          · walk_at "go"
            have k3 := k1 (by unfold badW; rw [h0, h1, h2, h3]; rw [show notAbove (.int m) (.int n) = false from decide_eq_false h4]; rfl) i j n m rfl rfl rfl rfl
            unfold wantV at k3
            refine w_iteD (fun h5 => ?_) (fun h5 => ?_)
            case' refine_1 =>
              walk_at "go"
              refine w_iteD (fun h6 => ?_) (fun h6 => ?_)
              case' refine_1 =>
                walk_at "go"
                rw [if_pos ⟨h5, h6⟩] at k3; exact k3
              rw [if_neg (fun z => h6 z.2)] at k3
            case' refine_2 => rw [if_neg (fun z => h5 z.1)] at k3
            all_goals
              walk_at "go"
              refine w_iteD (fun h7 => ?_) (fun h7 => ?_)
              · walk_at "go"; rw [if_pos h7] at k3; exact k3
              · walk_at "go"; rw [if_neg h7] at k3; exact k3
theorem c_is_wanted (T : Txt P w K mg base) : Can P w K mg base (L2.CX P w) 4 "is_wanted" ["done", "has", "number", "m"] (spWanted K T.cBadNumber T.cMisfit) := T.d_is_wanted.can fun f fd F => ok_is_wanted T F
end
end K35

set_option maxRecDepth 100000
set_option maxHeartbeats 4000000
namespace K35
open PySem L2 FW PyProof.Rows
local macro_rules | `(tactic| walk_at "side") => `(tactic| first
  | omega
  | exact ⟨by omega, by omega⟩
  | exact Or.inl ⟨by omega, by omega⟩
  | exact Or.inr ⟨by omega, by omega⟩
  | exact ⟨by omega, by omega, by omega⟩
  | exact ⟨by decide, by decide, by decide⟩
  | (refine mix2 ?_ ?_ ?_ ?_ ?_ ?_ ?_ ?_ ?_ ?_ <;> omega))
local macro_rules | `(tactic| walk_at "hp") => `(tactic| first
  | assumption | exact upd_same
  | (refine' rd_new ?n ?q; (case n => assumption); (case q => walk_at "hp"))
  | (refine' rd_ne ?n ?q; (case n => first | assumption | (apply Ne.symm; assumption)); (case q => walk_at "hp")))
local macro_rules | `(tactic| walk_at "sq") => `(tactic| first
  | assumption
  | (with_reducible apply SqL.of; walk_at "hp") | (with_reducible apply SqT.of; walk_at "hp")
  | ((with_reducible refine' sqL_new ?n ?q); (case n => assumption); (case q => walk_at "sq"))
  | ((with_reducible refine' sqT_new ?n ?q); (case n => assumption); (case q => walk_at "sq"))
  | ((with_reducible refine' sqL_ne ?n ?q); (case n => first | assumption | (apply Ne.symm; assumption)); (case q => walk_at "sq"))
  | ((with_reducible refine' sqT_ne ?n ?q); (case n => first | assumption | (apply Ne.symm; assumption)); (case q => walk_at "sq"))
  | ((with_reducible refine' Ext.sqL ?e ?n ?q); (case e => assumption); (case n => first | assumption | (apply Ne.symm; assumption)); (case q => walk_at "sq"))
  | ((with_reducible refine' Ext.sqT ?e ?n ?q); (case e => assumption); (case n => first | assumption | (apply Ne.symm; assumption)); (case q => walk_at "sq"))
  | ((with_reducible refine' Grow.sqL ?e ?q); (case e => assumption); (case q => walk_at "sq"))
  | ((with_reducible refine' Grow.sqT ?e ?q); (case e => assumption); (case q => walk_at "sq")))
local macro_rules | `(tactic| walk_at "sqs") => `(tactic| first | assumption | (exact ‹∀ H, SqT _ H _ _› _) | (apply SqT.of; walk_at "hp"))
local macro_rules | `(tactic| walk_at "kn") => `(tactic| first | assumption | exact True.intro)
local macro_rules | `(tactic| walk_at "fw") => `(tactic| with_reducible first
  | refine w_seq ?_ | refine w_asg ?_ | refine w_ret ?_ | refine w_drop ?_ | refine w_next ?_ | refine w_c ?_ | refine w_op ?_ | refine w_un ?_
  | refine w_test ?_ | refine w_B ?_ | refine w_bl ?_ | refine w_not ?_ | refine w_and ?_ | refine w_or ?_ | refine w_andV ?_ | refine w_orV ?_ | refine w_notV ?_
  | refine w_if ?_ | refine w_ifE ?_ | refine w_yes ?_ | refine w_no ?_ | refine w_rfl ?_ | refine w_tr ?_ | refine w_nyes ?_ | refine w_nno ?_ | refine w_T ?_ | refine w_F ?_ | refine w_nil ?_ | refine w_cons ?_ | refine w_cb ?_ | refine w_call ?_ | refine w_lst ?_ | refine w_tup ?_
  | refine w_I0 ?_ | refine w_U ?_ | refine w_int ?_ | refine w_intB ?_ | refine w_abs ?_ | refine w_raise1 ?_ | refine w_sub ?_ | refine w_gcons ?_ | refine w_gnil ?_ | refine w_par ?_ | refine w_chain ?_ | refine w_callNB ?_)
local macro_rules | `(tactic| walk_at "fwv") => `(tactic| first
  | ((with_reducible refine' w_var ?e ?_); (case e => rfl))
  | ((with_reducible refine' w_I ?e ?_); (case e => walk_at "side"))
  | ((with_reducible refine' w_ixL ?s ?e ?_); (case s => walk_at "sq"); (case e => rfl))
  | ((with_reducible refine' w_lenL ?s ?_); (case s => walk_at "sq"); try simp only [List.length_map, List.length_cons, List.length_nil])
  | ((with_reducible refine' w_setL ?e ?f ?_); (case e => walk_at "hp"); (case f => rfl); try simp only [Int.reduceToNat, List.set_cons_zero, List.set_cons_succ, upd_upd])
  | ((with_reducible refine' w_gtup ?s ?l ?_); (case s => walk_at "sq"); (case l => rfl))
  | ((with_reducible refine' w_eq ?e ?_); (case e => rfl))
  | ((with_reducible refine' w_ne ?e ?_); (case e => rfl))
  | ((with_reducible refine' w_mk1 ?o ?n ?_); (case o => apply Exn.oex; assumption); (case n => apply Exn.no; assumption); intro _ _)
  | ((with_reducible refine w_dnew ?_); intro _ _)
  | ((with_reducible refine' w_inT (ss := ?ss) ?s ?_); (case s => walk_at "sqs"))
  | ((with_reducible refine' w_notInT (ss := ?ss) ?s ?_); (case s => walk_at "sqs"))
  | ((with_reducible refine' w_inX ?s ?f ?g ?_); (case s => walk_at "sqs"); (case f => rfl); (case g => rfl))
  | ((with_reducible refine' w_isIntA ?k ?_); (case k => walk_at "kn"))
  | ((with_reducible refine' w_isBlA ?k ?_); (case k => walk_at "kn"))
  | ((with_reducible refine' w_isStrA ?k ?_); (case k => walk_at "kn"))
  | ((with_reducible refine w_par2 ?_); simp only [List.set_cons_zero, List.set_cons_succ])
  | ((with_reducible refine w_name ?_); simp only [List.set_cons_zero, List.set_cons_succ]))
local macro_rules | `(tactic| walk_at "size") => `(tactic| first | (show _ ≤ sizeLine; decide) | (simp only [List.length_cons, List.length_nil]; decide))
local macro_rules | `(tactic| walk_at "mk") => `(tactic| ((with_reducible refine' w_made ?n ?_); (case n => walk_at "size"); intro _ _))
local macro_rules | `(tactic| walk_at "ev") => `(tactic| simp only [reduceCtorEq, V.int.injEq, V.bl.injEq, V.str.injEq, V.ref.injEq, List.append_nil, List.cons_append, List.nil_append, decide_true, decide_false, Bool.not_true, Bool.not_false])
local macro_rules | `(tactic| walk_at "go") => `(tactic| repeat (first | walk_at "fw" | walk_at "fwv" | walk_at "mk" | (dsimp only) | walk_at "ev"))
local macro_rules | `(tactic| walk_at "br") => `(tactic| first | refine w_iteN (fun _ => ?_) (fun _ => ?_) | refine w_iteD (fun _ => ?_) (fun _ => ?_) | refine w_ite (fun _ => ?_) (fun _ => ?_))
local macro_rules | `(tactic| walk_at "fork") => `(tactic| (first | refine w_iteN (fun hx => ?_) (fun hx => ?_) | refine w_iteD (fun hx => ?_) (fun hx => ?_) | refine w_ite (fun hx => ?_) (fun hx => ?_)) <;> first | (exact absurd hx (by decide +kernel)) | skip)
local macro_rules | `(tactic| walk_at "gr") => `(tactic| repeat' (first | exact Grow.refl _ | assumption | refine Grow.trans ?_ (Grow.new (by assumption))))

abbrev s__law_pen : Stmt := top 15
def N__law_pen : List Str := ["_law_script", "_law_cell"]
theorem sc__law_pen : FnScope N__law_pen ["_law_script"] (defScope s__law_pen) := ⟨rfl, rfl, rfl, by decide +kernel, rfl, by decide +kernel, by decide +kernel⟩
abbrev s__law_draw : Stmt := top 16
def N__law_draw : List Str := ["_law_pen_here", "_law_many", "_law_rest", "_law_at", "_law_cell", "_law_mixed"]
theorem sc__law_draw : FnScope N__law_draw ["_law_pen_here", "_law_many"] (defScope s__law_draw) := ⟨rfl, rfl, rfl, by decide +kernel, rfl, by decide +kernel, by decide +kernel⟩
abbrev s__law_one_of : Stmt := top 17
def N__law_one_of : List Str := ["_law_pen_here", "_law_some"]
theorem sc__law_one_of : FnScope N__law_one_of ["_law_pen_here", "_law_some"] (defScope s__law_one_of) := ⟨rfl, rfl, rfl, by decide +kernel, rfl, by decide +kernel, by decide +kernel⟩
abbrev s__law_all_right : Stmt := top 18
def N__law_all_right : List Str := ["_law_pen_here", "_law_m", "_law_done", "_law_has", "_law_told", "_law_due", "_law_number"]
theorem sc__law_all_right : FnScope N__law_all_right ["_law_pen_here"] (defScope s__law_all_right) := ⟨rfl, rfl, rfl, by decide +kernel, rfl, by decide +kernel, by decide +kernel⟩
abbrev s__law_elder_right : Stmt := top 19
def N__law_elder_right : List Str := ["_law_pen_here", "_law_late", "_law_least", "_law_m", "_law_done", "_law_turn"]
theorem sc__law_elder_right : FnScope N__law_elder_right ["_law_pen_here"] (defScope s__law_elder_right) := ⟨rfl, rfl, rfl, by decide +kernel, rfl, by decide +kernel, by decide +kernel⟩
abbrev s__law_heard : Stmt := top 20
def N__law_heard : List Str := ["_law_ask", "_law_caught", "error"]
theorem sc__law_heard : FnScope N__law_heard ["_law_ask"] (defScope s__law_heard) := ⟨rfl, rfl, rfl, by decide +kernel, rfl, by decide +kernel, by decide +kernel⟩
abbrev s__law_refused_right : Stmt := top 21
def N__law_refused_right : List Str := ["_law_pen_here", "_law_heard_here", "_law_due", "_law_both", "_law_low", "_law_odd"]
theorem sc__law_refused_right : FnScope N__law_refused_right ["_law_pen_here"] (defScope s__law_refused_right) := ⟨rfl, rfl, rfl, by decide +kernel, rfl, by decide +kernel, by decide +kernel⟩
abbrev s_law : Stmt := top 22
def N_law : List Str := ["_law_script", "_law_pen_here", "_law_turn"]
theorem sc_law : FnScope N_law ["_law_script"] (defScope s_law) := ⟨rfl, rfl, rfl, by decide +kernel, rfl, by decide +kernel, by decide +kernel⟩
def rows8 : List Int := [0, 1, 2, 3, 4, 5, 6, 7]
structure TxtL (P : Program) (w : World) (K : PySem.W.Frag) (mg : Str → Option Value) (base : Heap) extends Txt P w K mg base where
  b_range : mg "range" = none
  b_repr : mg "repr" = none
  b_min : mg "min" = none
  b_sum : mg "sum" = none
  aRows : Addr
  cWeather : Addr
  cR : Addr
  pR : Addr
  tR : LamX.TabB base mg cR pR
  g_ROWS : mg "ROWS" = some (.ref aRows)
  k_ROWS : ∀ H, SqT K H aRows (rows8.map V.int)
  g_Weather : mg "WeatherError" = some (.ref cWeather)
  e_BadNumber : PySem.W.exmOne K (.ref cBadNumber) (.ref cWeather) = some true
  e_Misfit : PySem.W.exmOne K (.ref cMisfit) (.ref cWeather) = some true
  n_both : PySem.W.kitAny K (.type "NoneType") [.ref cBadNumber, .ref cMisfit] = some false
  i_BadNumber : PySem.W.kitAny K (.ref cBadNumber) [.ref cBadNumber, .ref cMisfit] = some true
  i_Misfit : PySem.W.kitAny K (.ref cMisfit) [.ref cBadNumber, .ref cMisfit] = some true
  i_other : PySem.W.kitOne K (.ref cMisfit) (.ref cBadNumber) = some false
  d__law_pen : DefOk K mg "_law_pen" s__law_pen ["_law_script"]
  d__law_draw : DefOk K mg "_law_draw" s__law_draw ["_law_pen_here", "_law_many"]
  d__law_one_of : DefOk K mg "_law_one_of" s__law_one_of ["_law_pen_here", "_law_some"]
  d__law_all_right : DefOk K mg "_law_all_right" s__law_all_right ["_law_pen_here"]
  d__law_elder_right : DefOk K mg "_law_elder_right" s__law_elder_right ["_law_pen_here"]
  d__law_heard : DefOk K mg "_law_heard" s__law_heard ["_law_ask"]
  d__law_refused_right : DefOkC K mg "_law_refused_right" s__law_refused_right ["_law_pen_here"] cR
section
variable {P : Program} {w : World} {K : PySem.W.Frag} {mg : Str → Option Value} {base : Heap}
theorem ok__law_draw {f : Addr} {fd : FuncData} (T : TxtL P w K mg base) (F : Fun K "_law_draw" "_law_draw" s__law_draw f fd) : FnOk P w K mg base CX0 1 f fd ["_law_pen_here", "_law_many"] (spDropL K) := by
  refine F.ok sc__law_draw (fun vs H Q E h => ?_) (fun cdv A outer s H vs Q E hr h => ?_)
  · obtain ⟨c, l, n, cells, rest, many, rfl, _⟩ := h
    rfl
  · obtain ⟨c, l, n, cells, rest, many, rfl, hc, hl, hne, hn, hm0, hm1, k⟩ := h
    refine ⟨_, (pss_cons (ps_set (i := 2) sc__law_draw.nd rfl (Or.inl rfl) (pe_callTy call_intA (by rfl) T.b_int (by decide +kernel) (pa_cons (pe_ix ix_list (pv 0) pe_int (fun _ _ => rfl)) pa_nil)))
 (pss_cons (ps_if (pt_cmpR op_gt (pv 2) pe_int (nomark _))
 (pss_cons (ps_asg (pe_op op_fdiv (pv 2) (pv 1)) (pg_sub (pv 0) pe_int set_list))
 (pss_one (ps_ret (pe_op op_mod (pv 2) (pv 1)))))
 pss_nil)
 (pss_cons (ps_set (i := 3) sc__law_draw.nd rfl (Or.inl rfl) (pe_ix ix_list (pv 0) pe_int (fun _ _ => rfl)))
 (pss_cons (ps_asg (pe_op op_add (pv 3) pe_int) (pg_sub (pv 0) pe_int set_list))
 (pss_cons (ps_set (i := 4) sc__law_draw.nd rfl (Or.inl rfl) (pe_op op_add (pe_op op_mul pe_int (pv 3)) pe_int))
 (pss_cons (ps_if (pt_cmpR (op_neD hr.units) (pe_ix ix_list (pv 0) pe_int (fun _ _ => rfl)) (pe_lst pa_nil) (nomark _))
 (pss_one (ps_set (i := 4) sc__law_draw.nd rfl (Or.inl rfl) (pe_ix ix_list (pe_ix ix_list (pv 0) pe_int (fun _ _ => rfl)) (pe_op op_mod (pe_callTy call_intA (by rfl) T.b_int (by decide +kernel) (pa_cons (pv 3) pa_nil)) (pe_callB call_lenA (by rfl) T.b_len (by decide +kernel) (pa_cons (pe_ix ix_list (pv 0) pe_int (fun _ _ => rfl)) pa_nil))) (fun _ _ => rfl))))
 pss_nil)
 (pss_cons (ps_if (PW.pt (pw_and (pt_cmpR op_lt (pv 3) (pe_callB call_lenA (by rfl) T.b_len (by decide +kernel) (pa_cons (pe_ix ix_list (pv 0) pe_int (fun _ _ => rfl)) pa_nil)) (nomark _)) (pw_and1 (pt_cmpR op_ge (pe_callB call_absA (by rfl) T.b_abs (by decide +kernel) (pa_cons (pv 4) pa_nil)) (pe_op op_pow pe_int pe_int) (nomark _)))))
 (pss_cons (ps_set (i := 2) sc__law_draw.nd rfl (Or.inl rfl) (pe_op op_add (pe_op op_mul pe_int (pe_op op_sub (pe_callB call_absA (by rfl) T.b_abs (by decide +kernel) (pa_cons (pv 4) pa_nil)) (pe_op op_pow pe_int pe_int))) (pe_callTy call_intA (by rfl) T.b_int (by decide +kernel) (pa_cons (pe_cmpR op_lt (pv 4) pe_int (nomark _)) pa_nil))))
 (pss_cons (ps_asg (pe_op op_fdiv (pv 2) (pv 1)) (pg_sub (pv 0) pe_int set_list))
 (pss_one (ps_ret (pe_op op_mod (pv 2) (pv 1))))))
 pss_nil)
 (pss_cons (ps_set (i := 5) sc__law_draw.nd rfl (Or.inl rfl) (pe_op op_mod (pe_callTy call_intA (by rfl) T.b_int (by decide +kernel) (pa_cons (pe_op op_pow (pe_op op_add (pe_op op_add (pe_op op_mod (pe_callTy call_intA (by rfl) T.b_int (by decide +kernel) (pa_cons (pv 4) pa_nil)) pe_int) (pe_op op_mul pe_int (pv 3))) pe_int) pe_int) pa_nil)) pe_int))
 (pss_cons (ps_set (i := 5) sc__law_draw.nd rfl (Or.inl rfl) (pe_op op_mod (pe_callTy call_intA (by rfl) T.b_int (by decide +kernel) (pa_cons (pe_op op_pow (pe_op op_add (pe_op op_add (pe_op op_mul (pv 5) (pe_op op_add (pe_op op_mul pe_int (pv 3)) pe_int)) (pe_op op_mul (pe_op op_mul pe_int (pv 3)) (pv 3))) pe_int) pe_int) pa_nil)) pe_int))
 (pss_one (ps_ret (pe_op op_mod (pe_callTy call_intA (by rfl) T.b_int (by decide +kernel) (pa_cons (pe_op op_fdiv (pv 5) pe_int) pa_nil)) (pv 1))))))))))))), ?_⟩
    rw [show L2.start N__law_draw [(V.ref c), (V.int many)] = [some (V.ref c), some (V.int many), none, none, none, none] from rfl]; try dsimp only [cxOf]
    walk_at "go"
    refine w_ite (fun h1 => ?_) (fun h1 => ?_)
    · walk_at "go"
      exact k _ _ n _ (Int.emod_nonneg _ (by omega)) (Int.emod_lt_of_pos _ hm0) (by omega) upd_same Ext.upd
    · walk_at "go"
      rename_i p hp
      have hlc : SqL K (upd (upd H c (.lst [.ref l, .int (n + 1), .int rest])) p (.lst [])) l (cells.map V.int) := sqL_new hp (sqL_ne hne hl)
      refine w_neNil hlc (SqL.of upd_same) ?_
      have e1 : ((n : Int) + 1) = ((n + 1 : Nat) : Int) := by omega
      have hnc : c ≠ p := ne_of_none upd_same hp
      have ext1 : Ext c H (upd (upd H c (.lst [.ref l, .int (n + 1), .int rest])) p (.lst [])) := Ext.upd.trans (Ext.new hp)
      walk_at "go"
      refine w_ite (fun h2 => ?a1) (fun h2 => ?a2)
      case' a1 =>
        walk_at "go"
        have hpos : (0 : Int) < (cells.length : Int) := by
          cases cells with
          | nil => simp at h2
          | cons a r => simp only [List.length_cons]; omega
        refine w_I hpos ?_
        obtain ⟨z, _, hz⟩ := atI_map (ns := cells) (i := (n : Int) % (cells.length : Int)) (Int.emod_nonneg _ (by omega)) (Int.emod_lt_of_pos _ hpos)
        refine w_ixL hlc hz ?_
      case' a2 => generalize (71023 * (n : Int) + 4217) = z
      all_goals
        walk_at "go"
        refine w_ite (fun h3 => ?_) (fun h3 => ?_)
        · walk_at "go"
          refine w_ite (fun h4 => ?_) (fun h4 => ?_)
          · walk_at "go"
            exact k _ _ (n + 1) _ (Int.emod_nonneg _ (by omega)) (Int.emod_lt_of_pos _ hm0) (by omega) (by rw [← e1]; exact upd_same) (ext1.trans Ext.upd)
          · walk_at "go"
            exact k _ _ (n + 1) _ (Int.emod_nonneg _ (by omega)) (Int.emod_lt_of_pos _ hm0) (by omega) (by rw [← e1]; exact rd_new hp upd_same) ext1
        · walk_at "go"
          exact k _ _ (n + 1) _ (Int.emod_nonneg _ (by omega)) (Int.emod_lt_of_pos _ hm0) (by omega) (by rw [← e1]; exact rd_new hp upd_same) ext1
theorem c__law_drawL (T : TxtL P w K mg base) : Can P w K mg base CX0 1 "_law_draw" ["_law_pen_here", "_law_many"] (spDropL K) := T.d__law_draw.can fun f fd F => ok__law_draw T F
theorem c__law_draw (T : TxtL P w K mg base) : Can P w K mg base CX0 1 "_law_draw" ["_law_pen_here", "_law_many"] (spDrop K) := T.d__law_draw.can fun f fd F => (ok__law_draw T F).imp dropL
theorem ok__law_pen {f : Addr} {fd : FuncData} (T : TxtL P w K mg base) (F : Fun K "_law_pen" "_law_pen" s__law_pen f fd) : FnOk P w K mg base CX0 1 f fd ["_law_script"] (spBegin K) := by
  refine F.ok sc__law_pen (fun vs H Q E h => ?_) (fun cdv A outer s H vs Q E hr h => ?_)
  · obtain ⟨a, ns, rfl, _⟩ := h; rfl
  · obtain ⟨a, ns, rfl, hs, hn, k⟩ := h
    refine ⟨_, (pss_one (ps_ret (pe_lst (pa_cons (pe_lc1 (x := "_law_cell") (i := 1) (g := gName 1) (tt := tYes) rfl sc__law_pen.nd (pi_list (pe_slice sl_list (pv 0) po_none (po_some pe_int))) (blkOk_by (N := N__law_pen) (sc := defScope s__law_pen) (by decide +kernel)) (fun _ _ _ _ _ => pg_name (i := 1) sc__law_pen.nd rfl (Or.inl rfl)) (fun _ _ _ _ _ => pts_nil) (fun _ _ _ _ _ => (pe_callTy call_intA (by rfl) T.b_int (by decide +kernel) (pa_cons (pv 1) pa_nil)))) (pa_cons pe_int (pa_cons pe_int pa_nil)))))), ?_⟩
    rw [show L2.start N__law_pen [(V.ref a)] = [some (V.ref a), none] from rfl]; try dsimp only [cxOf]
    walk_at "go"
    obtain ⟨ms, ec, hm⟩ := cut_ints ns none (some 63)
    refine ⟨.ref a, rfl, 63, rfl, a, _, rfl, hs, fun p np => ⟨p, rfl, ⟨_, SqL.of upd_same⟩, ?_⟩⟩
    rw [ec]
    dsimp only
    refine lcL (σ := [some (V.ref a), none]) (i := 1) (xs := ms.map V.int) (ys := ms.map V.int) (by intro _; rfl) rfl (by rw [List.length_map]; exact small1000 (by omega)) (SqL.of upd_same) (fun j x y H' R ex ey g r => ?_) (fun D H' nD eD g => ?_)
    · rw [ex] at ey; cases ey
      rw [List.getElem?_map] at ex
      obtain ⟨z, hz⟩ : ∃ z, x = V.int z := by
        cases e : ms[j]? with
        | none => rw [e] at ex; cases ex
        | some z => rw [e] at ex; exact ⟨z, (Option.some.inj ex).symm⟩
      subst hz
      walk_at "go"
      exact r _ (Grow.refl _)
    · walk_at "go"
      rename_i c hc
      have g0 : Grow H H' := (Grow.new np).trans g
      have nc : H c = none := by
        cases e : H c with
        | none => rfl
        | some o => rw [g0 _ _ e] at hc; cases hc
      refine k c _ nc (g0.trans (Grow.new hc)) ⟨D, ms, 0, upd_same, sqL_new hc (SqL.of eD), ne_of_none eD hc⟩
theorem c__law_pen (T : TxtL P w K mg base) : Can P w K mg base CX0 1 "_law_pen" ["_law_script"] (spBegin K) := T.d__law_pen.can fun f fd F => ok__law_pen T F
theorem ok__law_one_of {f : Addr} {fd : FuncData} (T : TxtL P w K mg base) (F : Fun K "_law_one_of" "_law_one_of" s__law_one_of f fd) : FnOk P w K mg base CX0 2 f fd ["_law_pen_here", "_law_some"] (spOneOf K) := by
  refine F.ok sc__law_one_of (fun vs H Q E h => ?_) (fun cdv A outer s H vs Q E hr h => ?_)
  · obtain ⟨c, n, p, xs, rfl, _⟩ := h; rfl
  · obtain ⟨c, n, p, xs, rfl, hc, hn, hs, np, h0, h1, k⟩ := h
    refine ⟨_, (pss_one (ps_ret (pe_ix ix_list (pv 1) (pe_can (E := E0) (c__law_draw T) hr (by decide) pass0 rfl (pa_cons (pv 0) (pa_cons (pe_callB call_lenA (by rfl) T.b_len (by decide +kernel) (pa_cons (pv 1) pa_nil)) pa_nil))) (fun _ _ => rfl)))), ?_⟩
    rw [show L2.start N__law_one_of [(V.ref c), (V.ref p)] = [some (V.ref c), some (V.ref p)] from rfl]; try dsimp only [cxOf]
    walk_at "go"
    refine ⟨c, n, xs.length, rfl, hc, by omega, by omega, by omega, fun r n' H' r0 r1 hn' hc' he => ?_⟩
    walk_at "go"
    obtain ⟨j, rfl⟩ : ∃ j : Nat, r = (j : Int) := ⟨r.toNat, by omega⟩
    have hj : j < xs.length := by omega
    obtain ⟨x, hx⟩ : ∃ x, xs[j]? = some x := ⟨xs[j], by simp [hj]⟩
    refine w_ixL (he.sqL np hs) (at_of rfl hx) ?_
    exact k x n' H' (List.mem_of_getElem? hx) hn' hc' he
theorem c__law_one_of (T : TxtL P w K mg base) : Can P w K mg base CX0 2 "_law_one_of" ["_law_pen_here", "_law_some"] (spOneOf K) := T.d__law_one_of.can fun f fd F => ok__law_one_of T F
end
end K35

set_option maxRecDepth 100000
set_option maxHeartbeats 4000000
namespace K35
open PySem L2 FW PyProof.Rows
local macro_rules | `(tactic| walk_at "side") => `(tactic| first
  | omega
  | exact ⟨by omega, by omega⟩
  | exact Or.inl ⟨by omega, by omega⟩
  | exact Or.inr ⟨by omega, by omega⟩
  | exact ⟨by omega, by omega, by omega⟩
  | exact ⟨by decide, by decide, by decide⟩
  | (refine mix2 ?_ ?_ ?_ ?_ ?_ ?_ ?_ ?_ ?_ ?_ <;> omega))
local macro_rules | `(tactic| walk_at "hp") => `(tactic| first
  | assumption | exact upd_same
  | (refine' rd_new ?n ?q; (case n => assumption); (case q => walk_at "hp"))
  | (refine' rd_ne ?n ?q; (case n => first | assumption | (apply Ne.symm; assumption)); (case q => walk_at "hp")))
local macro_rules | `(tactic| walk_at "sq") => `(tactic| first
  | assumption
  | (with_reducible apply SqL.of; walk_at "hp") | (with_reducible apply SqT.of; walk_at "hp")
  | ((with_reducible refine' sqL_new ?n ?q); (case n => assumption); (case q => walk_at "sq"))
  | ((with_reducible refine' sqT_new ?n ?q); (case n => assumption); (case q => walk_at "sq"))
  | ((with_reducible refine' sqL_ne ?n ?q); (case n => first | assumption | (apply Ne.symm; assumption)); (case q => walk_at "sq"))
  | ((with_reducible refine' sqT_ne ?n ?q); (case n => first | assumption | (apply Ne.symm; assumption)); (case q => walk_at "sq"))
  | ((with_reducible refine' Ext.sqL ?e ?n ?q); (case e => assumption); (case n => first | assumption | (apply Ne.symm; assumption)); (case q => walk_at "sq"))
  | ((with_reducible refine' Ext.sqT ?e ?n ?q); (case e => assumption); (case n => first | assumption | (apply Ne.symm; assumption)); (case q => walk_at "sq"))
  | ((with_reducible refine' Grow.sqL ?e ?q); (case e => assumption); (case q => walk_at "sq"))
  | ((with_reducible refine' Grow.sqT ?e ?q); (case e => assumption); (case q => walk_at "sq")))
local macro_rules | `(tactic| walk_at "sqs") => `(tactic| first | assumption | (exact ‹∀ H, SqT _ H _ _› _) | (apply SqT.of; walk_at "hp"))
local macro_rules | `(tactic| walk_at "kn") => `(tactic| first | assumption | exact True.intro)
local macro_rules | `(tactic| walk_at "fw") => `(tactic| with_reducible first
  | refine w_seq ?_ | refine w_asg ?_ | refine w_ret ?_ | refine w_drop ?_ | refine w_next ?_ | refine w_c ?_ | refine w_op ?_ | refine w_un ?_
  | refine w_test ?_ | refine w_B ?_ | refine w_bl ?_ | refine w_not ?_ | refine w_and ?_ | refine w_or ?_ | refine w_andV ?_ | refine w_orV ?_ | refine w_notV ?_
  | refine w_if ?_ | refine w_ifE ?_ | refine w_yes ?_ | refine w_no ?_ | refine w_rfl ?_ | refine w_tr ?_ | refine w_nyes ?_ | refine w_nno ?_ | refine w_T ?_ | refine w_F ?_ | refine w_nil ?_ | refine w_cons ?_ | refine w_cb ?_ | refine w_call ?_ | refine w_lst ?_ | refine w_tup ?_
  | refine w_I0 ?_ | refine w_U ?_ | refine w_int ?_ | refine w_intB ?_ | refine w_abs ?_ | refine w_raise1 ?_ | refine w_sub ?_ | refine w_gcons ?_ | refine w_gnil ?_ | refine w_par ?_ | refine w_chain ?_ | refine w_callNB ?_)
local macro_rules | `(tactic| walk_at "fwv") => `(tactic| first
  | ((with_reducible refine' w_var ?e ?_); (case e => rfl))
  | ((with_reducible refine' w_I ?e ?_); (case e => walk_at "side"))
  | ((with_reducible refine' w_ixL ?s ?e ?_); (case s => walk_at "sq"); (case e => rfl))
  | ((with_reducible refine' w_lenL ?s ?_); (case s => walk_at "sq"); try simp only [List.length_map, List.length_cons, List.length_nil])
  | ((with_reducible refine' w_setL ?e ?f ?_); (case e => walk_at "hp"); (case f => rfl); try simp only [Int.reduceToNat, List.set_cons_zero, List.set_cons_succ, upd_upd])
  | ((with_reducible refine' w_gtup ?s ?l ?_); (case s => walk_at "sq"); (case l => rfl))
  | ((with_reducible refine' w_eq ?e ?_); (case e => rfl))
  | ((with_reducible refine' w_ne ?e ?_); (case e => rfl))
  | ((with_reducible refine' w_mk1 ?o ?n ?_); (case o => apply Exn.oex; assumption); (case n => apply Exn.no; assumption); intro _ _)
  | ((with_reducible refine w_dnew ?_); intro _ _)
  | ((with_reducible refine' w_inT (ss := ?ss) ?s ?_); (case s => walk_at "sqs"))
  | ((with_reducible refine' w_notInT (ss := ?ss) ?s ?_); (case s => walk_at "sqs"))
  | ((with_reducible refine' w_inX ?s ?f ?g ?_); (case s => walk_at "sqs"); (case f => rfl); (case g => rfl))
  | ((with_reducible refine' w_isIntA ?k ?_); (case k => walk_at "kn"))
  | ((with_reducible refine' w_isBlA ?k ?_); (case k => walk_at "kn"))
  | ((with_reducible refine' w_isStrA ?k ?_); (case k => walk_at "kn"))
  | ((with_reducible refine w_par2 ?_); simp only [List.set_cons_zero, List.set_cons_succ])
  | ((with_reducible refine w_name ?_); simp only [List.set_cons_zero, List.set_cons_succ]))
local macro_rules | `(tactic| walk_at "size") => `(tactic| first | (show _ ≤ sizeLine; decide) | (simp only [List.length_cons, List.length_nil]; decide))
local macro_rules | `(tactic| walk_at "mk") => `(tactic| ((with_reducible refine' w_made ?n ?_); (case n => walk_at "size"); intro _ _))
local macro_rules | `(tactic| walk_at "ev") => `(tactic| simp only [reduceCtorEq, V.int.injEq, V.bl.injEq, V.str.injEq, V.ref.injEq, List.append_nil, List.cons_append, List.nil_append, decide_true, decide_false, Bool.not_true, Bool.not_false])
local macro_rules | `(tactic| walk_at "go") => `(tactic| repeat (first | walk_at "fw" | walk_at "fwv" | walk_at "mk" | (dsimp only) | walk_at "ev"))
local macro_rules | `(tactic| walk_at "br") => `(tactic| first | refine w_iteN (fun _ => ?_) (fun _ => ?_) | refine w_iteD (fun _ => ?_) (fun _ => ?_) | refine w_ite (fun _ => ?_) (fun _ => ?_))
local macro_rules | `(tactic| walk_at "fork") => `(tactic| (first | refine w_iteN (fun hx => ?_) (fun hx => ?_) | refine w_iteD (fun hx => ?_) (fun hx => ?_) | refine w_ite (fun hx => ?_) (fun hx => ?_)) <;> first | (exact absurd hx (by decide +kernel)) | skip)
local macro_rules | `(tactic| walk_at "gr") => `(tactic| repeat' (first | exact Grow.refl _ | assumption | refine Grow.trans ?_ (Grow.new (by assumption))))

/-! ### the mathematics -/
def wantO (a b c d : Int) : Option Int := if c = a % d ∧ b = 0 then some 0 else if c = (a + 1) % d then some 1 else none
theorem wantV_eq (a b c d : Int) : wantV a b c d = vo (wantO a b c d) := by
  unfold wantV wantO
  split
  · rfl
  · split <;> rfl
theorem wantO_sm (a b c d : Int) : SmO (wantO a b c d) := by
  intro n e
  unfold wantO at e
  split at e
  · cases e; decide
  · split at e <;> cases e; decide
def uses (a b m : Int) : List (Option Int) := (List.range m.toNat).map fun (j : Nat) => wantO a b (0 + (j : Int)) m
theorem uses_len (a b m : Int) : (uses a b m).length = m.toNat := by unfold uses; simp
theorem uses_sm (a b m : Int) : ∀ o ∈ uses a b m, SmO o := by
  intro o ho
  obtain ⟨j, _, rfl⟩ := List.mem_map.mp ho
  exact wantO_sm _ _ _ _
theorem uses_at {a b m : Int} {j : Nat} (h : j < m.toNat) : ((uses a b m).map vo)[j]? = some (wantV a b (0 + (j : Int)) m) := by
  unfold uses
  rw [List.map_map, List.getElem?_map, List.getElem?_range h]
  simp only [Option.map_some, Function.comp, wantV_eq]
theorem uses_last {a b m : Int} (hm : 2 ≤ m) : atI ((uses a b m).map vo) (m - 1) = some (vo (wantO a b (m - 1) m)) := by
  rw [← wantV_eq]
  have z := uses_at (a := a) (b := b) (m := m) (j := (m - 1).toNat) (by omega)
  rw [show (0 + ((m - 1).toNat : Int)) = m - 1 by omega] at z
  exact at_of (by omega) z
theorem next_ne {a m : Int} (hm : 2 ≤ m) : a % m ≠ (a + 1) % m := by
  have h1 := Int.emod_nonneg a (show m ≠ 0 by omega)
  have h2 := Int.emod_lt_of_pos a (show 0 < m by omega)
  have h3 : (a % m + 1) % m = (a + 1) % m := Int.emod_add_emod a m 1
  rw [← h3]
  by_cases h : a % m + 1 = m
  · rw [h, Int.emod_self]; omega
  · rw [Int.emod_eq_of_lt (a := a % m + 1) (b := m) (by omega) (by omega)]; omega
theorem due0 {a m : Int} (hm : 2 ≤ m) : ((List.replicate m.toNat V.non).set (a % m).toNat (.int 0)).set ((a + 1) % m).toNat (.int 1) = (uses a 0 m).map vo := by
  have n1 := Int.emod_nonneg a (show m ≠ 0 by omega)
  have n2 := Int.emod_nonneg (a + 1) (show m ≠ 0 by omega)
  have nn := next_ne (a := a) hm
  apply List.ext_getElem?
  intro j
  by_cases hj : j < m.toNat
  · rw [uses_at hj]
    rw [List.getElem?_set, List.getElem?_set]
    simp only [List.length_set, List.length_replicate]
    unfold wantV
    by_cases e1 : ((a + 1) % m).toNat = j
    · rw [if_pos e1, if_pos (by omega), if_neg (fun z => nn (by omega)), if_pos (by omega)]
    · rw [if_neg e1]
      by_cases e0 : (a % m).toNat = j
      · rw [if_pos e0, if_pos (by omega), if_pos ⟨by omega, rfl⟩]
      · rw [if_neg e0, if_neg (fun z => e0 (by omega)), if_neg (fun z => e1 (by omega)), List.getElem?_replicate, if_pos hj]
  · rw [List.getElem?_eq_none (by simp; omega), List.getElem?_eq_none (by rw [List.length_map, uses_len]; omega)]
theorem due1 {a m : Int} (hm : 2 ≤ m) : (List.replicate m.toNat V.non).set ((a + 1) % m).toNat (.int 1) = (uses a 1 m).map vo := by
  have n2 := Int.emod_nonneg (a + 1) (show m ≠ 0 by omega)
  apply List.ext_getElem?
  intro j
  by_cases hj : j < m.toNat
  · rw [uses_at hj]
    rw [List.getElem?_set]
    simp only [List.length_replicate]
    rw [show wantV a 1 (0 + (j : Int)) m = if 0 + (j : Int) = (a + 1) % m then .int 1 else .non from by unfold wantV; exact if_neg (fun z => absurd z.2 (by decide))]
    by_cases e1 : ((a + 1) % m).toNat = j
    · rw [if_pos e1, if_pos (by omega), if_pos (by omega)]
    · rw [if_neg e1, if_neg (fun z => e1 (by omega)), List.getElem?_replicate, if_pos hj]
  · rw [List.getElem?_eq_none (by simp; omega), List.getElem?_eq_none (by rw [List.length_map, uses_len]; omega)]
theorem good_want {a b c d : Int} (ha : 0 ≤ a) (hb : b = 0 ∨ b = 1) (hc : 0 ≤ c) (hcd : c < d) (hd : 2 ≤ d) (hd2 : d ≤ 64) : badW (.int a) (.int b) (.int c) (.int d) = none := by
  have e1 : within (.int a) (.int 0) .non = true := by unfold within; simp; omega
  have e2 : within (.int b) (.int 0) (.int 1) = true := by unfold within; simp; omega
  have e3 : within (.int c) (.int 0) (.int 63) = true := by unfold within; simp; omega
  have e4 : within (.int d) (.int 2) (.int 64) = true := by unfold within; simp; omega
  have e5 : notAbove (.int d) (.int c) = false := decide_eq_false (by omega)
  unfold badW
  rw [e1, e2, e3, e4, e5]; rfl
theorem w_want {K : PySem.W.Frag} {CN CM : Addr} {a b c d : Int} {H : Hp} {Q : VK} {E : XK} (g : badW (.int a) (.int b) (.int c) (.int d) = none) (q : Q (wantV a b c d) H) : spWanted K CN CM [.int a, .int b, .int c, .int d] H Q E :=
  ⟨.int a, .int b, .int c, .int d, rfl, trivial, trivial, trivial, trivial, fun _ i j k l e1 e2 e3 e4 => by cases e1; cases e2; cases e3; cases e4; exact q, fun m p hp => by rw [g] at hp; cases hp⟩
theorem ix_len {n : Nat} {z : Int} {k : Int} (hn : (n : Int) = k) (h0 : 0 ≤ z) (h1 : z < k) : ixN n z = some z.toNat := by
  unfold ixN
  rw [if_pos h0, if_pos (by omega)]
section
variable {P : Program} {w : World} {K : PySem.W.Frag} {mg : Str → Option Value} {base : Heap}
theorem rev4 {zs : List V} {ws : List Value} (h : Vals zs ws) : Vals zs.reverse ws.reverse := by
  induction h with
  | nil => exact .nil
  | cons h1 h2 ih => rw [List.reverse_cons, List.reverse_cons]; exact ih.append (.cons h1 .nil)
theorem w_is_wanted_m_number_has_done (T : TxtL P w K mg base) : CanW P w K mg base (L2.CX P w) 4 "is_wanted" ["m", "number", "has", "done"] (fun _ zs => zs.reverse) (spWanted K T.cBadNumber T.cMisfit) :=
  canW_of (fun l => l.reverse) T.d_is_wanted (fun f fd F => ok_is_wanted T.toTxt F) rev4 (fun kV doc pm an cdv ct ws hl => by match ws, hl with | [a, b, c, d], _ => rfl)
def spTrue (K : PySem.W.Frag) (j : Nat) : Sp := fun vs H Q _ => ∃ (c : Addr) (n : Nat), vs = [.ref c] ∧ Cloud K H c n ∧ n < 800000 ∧ ∀ (n' : Nat) (H' : Hp), n' ≤ n + j → Cloud K H' c n' → Ext c H H' → Q (.bl true) H'
theorem ok__law_all_right {f : Addr} {fd : FuncData} (T : TxtL P w K mg base) (F : Fun K "_law_all_right" "_law_all_right" s__law_all_right f fd) : FnG P w K mg base CX0 6 f fd ["_law_pen_here"] (spTrue K 10) := by
  refine fun_okG F sc__law_all_right (fun vs H Q E h => ?_) (fun cdv A outer s H vs Q E hG hr oc od kV doc pm an ct osl lk h => ?_)
  · obtain ⟨c, n, rfl, _⟩ := h; rfl
  · obtain ⟨c, n, rfl, hc, hn, k⟩ := h
    refine ⟨_, PSs.nox (pss_cons (ps_set (i := 1) sc__law_all_right.nd rfl (Or.inr rfl) (pe_can (E := E0) (c__law_one_of T) hr (by decide) pass0 rfl (pa_cons (pv 0) (pa_cons (pe_lst (pa_cons pe_int (pa_cons pe_int (pa_cons pe_int (pa_cons pe_int (pa_cons pe_int (pa_cons (pe_op op_add pe_int (pe_can (E := E0) (c__law_draw T) hr (by decide) pass0 rfl (pa_cons (pv 0) (pa_cons pe_int pa_nil)))) pa_nil))))))) pa_nil))))
 (pss_cons (ps_set (i := 2) sc__law_all_right.nd rfl (Or.inr rfl) (pe_can (E := E0) (c__law_one_of T) hr (by decide) pass0 rfl (pa_cons (pv 0) (pa_cons (pe_lst (pa_cons pe_int (pa_cons pe_int (pa_cons (pe_op op_sub (pv 1) pe_int) (pa_cons (pv 1) (pa_cons (pe_can (E := E0) (c__law_draw T) hr (by decide) pass0 rfl (pa_cons (pv 0) (pa_cons pe_int pa_nil))) (pa_cons (pe_op op_add (pe_op op_pow pe_int pe_int) (pe_can (E := E0) (c__law_draw T) hr (by decide) pass0 rfl (pa_cons (pv 0) (pa_cons pe_int pa_nil)))) (pa_cons (pe_op op_pow pe_int pe_int) pa_nil)))))))) pa_nil))))
 (pss_cons (ps_for PassesOwn.never rfl (pi_tup (pe_tup (pa_cons pe_int (pa_cons pe_int pa_nil)))) (pg_name (i := 3) sc__law_all_right.nd rfl (Or.inr rfl))
 (pss_cons (ps_setLc1 (x := "_law_number") (k := 6) (i := 4) (g := gName 6) (tt := tYes) rfl sc__law_all_right.nd rfl rfl (sw_true rfl rfl rfl (by decide +kernel)) (pi_range1 (by rfl) T.b_range (pa_cons (pv 1) pa_nil)) (blkOk_by (N := N__law_all_right) (sc := defScope s__law_all_right) (by decide +kernel)) (fun _ _ _ _ _ => pg_name (i := 6) sc__law_all_right.nd rfl (Or.inl rfl)) (fun _ _ _ _ _ => pts_nil) (fun _ _ _ _ _ => (pe_can (E := E0) (c_is_wanted T.toTxt) hr (by decide) passL rfl (pa_cons (pv 2) (pa_cons (pv 3) (pa_cons (pv 6) (pa_cons (pv 1) pa_nil)))))))
 (pss_cons (ps_setLc1 (x := "_law_number") (k := 6) (i := 5) (g := gName 6) (tt := tYes) rfl sc__law_all_right.nd rfl rfl (sw_true rfl rfl rfl (by decide +kernel)) (pi_range1 (by rfl) T.b_range (pa_cons (pv 1) pa_nil)) (blkOk_by (N := N__law_all_right) (sc := defScope s__law_all_right) (by decide +kernel)) (fun _ _ _ _ _ => pg_name (i := 6) sc__law_all_right.nd rfl (Or.inl rfl)) (fun _ _ _ _ _ => pts_nil) (fun _ _ _ _ _ => pe_non))
 (pss_cons (ps_if (pt_cmpR op_eq (pv 3) pe_int (nomark _))
 (pss_one (ps_asg pe_int (pg_sub (pv 5) (pe_op op_mod (pe_callTy call_intA (by rfl) T.b_int (by decide +kernel) (pa_cons (pv 2) pa_nil)) (pv 1)) set_list)))
 pss_nil)
 (pss_cons (ps_asg pe_int (pg_sub (pv 5) (pe_op op_mod (pe_callTy call_intA (by rfl) T.b_int (by decide +kernel) (pa_cons (pe_op op_add (pv 2) pe_int) pa_nil)) (pv 1)) set_list))
 (pss_one (ps_if (PW.pt (pw_or (pt_cmpR op_ne (pe_callB (call_show hG hr.units) (by rfl) T.b_repr (by decide +kernel) (pa_cons (pv 4) pa_nil)) (pe_callB (call_show hG hr.units) (by rfl) T.b_repr (by decide +kernel) (pa_cons (pv 5) pa_nil)) (nomark _)) (pw_or1 (pt_cmpR op_ne (pe_callB (call_showA hG hr.units) (by rfl) T.b_repr (by decide +kernel) (pa_cons (pe_canW (E := E0) (w_is_wanted_m_number_has_done T) hr (by decide) passL rfl (pk_cons (pv 1) (pk_cons (pe_op op_sub (pv 1) pe_int) (pk_cons (pv 3) (pk_cons (pv 2) pk_nil))))) pa_nil)) (pe_callB (call_showA hG hr.units) (by rfl) T.b_repr (by decide +kernel) (pa_cons (pe_ix ix_list (pv 5) (pe_op op_sub (pv 1) pe_int) (fun _ _ => rfl)) pa_nil)) (nomark _)))))
 (pss_one (ps_ret pe_bl))
 pss_nil)))))))
 (pss_one (ps_ret pe_bl))))), ?_⟩
    rw [show L2.start N__law_all_right [(V.ref c)] = [some (V.ref c), none, none, none, none, none, none] from rfl]; try dsimp only [cxOf]
    walk_at "go"
    refine ⟨c, n, 63, rfl, hc, by omega, by omega, by omega, fun r n1 H1 r0 r1 hn1 hc1 he1 => ?_⟩
    walk_at "go"
    rename_i p1 e1
    refine ⟨c, n1, p1, _, rfl, hc1.new e1, by omega, SqL.of upd_same, hc1.ne e1, by simp, by simp, fun v n2 H2 hv hn2 hc2 he2 => ?_⟩
    obtain ⟨m, rfl, hm0, hm1⟩ : ∃ m, v = .int m ∧ 2 ≤ m ∧ m ≤ 64 := by
      simp only [List.mem_cons, List.not_mem_nil, or_false] at hv
      rcases hv with rfl | rfl | rfl | rfl | rfl | rfl <;> exact ⟨_, rfl, by omega, by omega⟩
    have x2 : Ext c H H2 := (he1.trans (Grow.new e1).ext).trans he2
    clear hv he1 he2 e1 hc1 hc
    walk_at "go"
    refine ⟨c, n2, 300, rfl, hc2, by omega, by omega, by omega, fun d1 n3 H3 d10 d11 hn3 hc3 he3 => ?_⟩
    walk_at "go"
    refine ⟨c, n3, 64, rfl, hc3, by omega, by omega, by omega, fun d2 n4 H4 d20 d21 hn4 hc4 he4 => ?_⟩
    walk_at "go"
    rename_i p2 e2
    refine ⟨c, n4, p2, _, rfl, hc4.new e2, by omega, SqL.of upd_same, hc4.ne e2, by simp, by simp, fun v n5 H5 hv hn5 hc5 he5 => ?_⟩
    obtain ⟨dn, rfl, hd⟩ : ∃ dn, v = .int dn ∧ 0 ≤ dn := by
      simp only [List.mem_cons, List.not_mem_nil, or_false] at hv
      rcases hv with rfl | rfl | rfl | rfl | rfl | rfl | rfl
      · exact ⟨_, rfl, by omega⟩
      · exact ⟨_, rfl, by omega⟩
      · exact ⟨_, rfl, by omega⟩
      · exact ⟨_, rfl, by omega⟩
      · exact ⟨_, rfl, by omega⟩
      · exact ⟨_, rfl, by have : (0 : Int) ≤ 10 ^ Int.toNat 9 := by decide
                          omega⟩
      · exact ⟨_, rfl, by decide⟩
    have x5 : Ext c H H5 := x2.trans ((he3.trans he4).trans ((Grow.new e2).ext.trans he5))
    clear hv he3 he4 he5 e2 hc2 hc3 hc4 x2
    walk_at "go"
    unfold tFor iTup
    refine w_tup ?_
    walk_at "go"
    rename_i p3 e3
    have hc6 := hc5.new e3 (o := .tup [V.int 0, V.int 1])
    have t6 : SqT K (upd H5 p3 (.tup [V.int 0, V.int 1])) p3 [V.int 0, V.int 1] := SqT.of upd_same
    have x6 : Ext c H (upd H5 p3 (.tup [V.int 0, V.int 1])) := x5.trans (Grow.new e3).ext
    generalize upd H5 p3 (.tup [V.int 0, V.int 1]) = H6 at hc6 t6 x6 ⊢
    clear e3 hc5 x5
    refine ⟨p3, rfl, ⟨_, t6⟩, for_tup (D := { nx := fun σ H => tRet (tC (V.bl true)) { nx := fun _ H' => Q V.non H', rt := Q } σ H, rt := Q }) (xs := [V.int 0, V.int 1]) (fun _ σ H' => ∃ s3 s4 s5, σ = [some (.ref c), some (.int m), some (.int dn), s3, s4, s5, none] ∧ Grow H6 H') ⟨_, _, _, rfl, Grow.refl _⟩ (fun _ σ H' _ p => ?_) ?_ ?_⟩
    · obtain ⟨_, _, _, _, g⟩ := p
      exact g.sqT t6
    · intro j x σ H7 ex p
      obtain ⟨s3, s4, s5, rfl, g7⟩ := p
      obtain ⟨b, rfl, hb⟩ : ∃ b, x = .int b ∧ (b = 0 ∨ b = 1) := by
        have := List.mem_of_getElem? ex
        simp only [List.mem_cons, List.not_mem_nil, or_false] at this
        rcases this with rfl | rfl
        · exact ⟨_, rfl, .inl rfl⟩
        · exact ⟨_, rfl, .inr rfl⟩
      walk_at "go"
      have good : ∀ j : Nat, j < m.toNat → badW (.int dn) (.int b) (.int (0 + (j : Int))) (.int m) = none := fun j hj => good_want hd hb (by omega) (by omega) hm0 hm1
      have turn1 : ∀ (σ0 : L2.St) (H0 : Hp), wipe σ0 [6] = [some (.ref c), some (.int m), some (.int dn), some (.int b), s4, s5, none] →
          TurnsR (tCall (spWanted K T.cBadNumber T.cMisfit) [] E0 (tCons (tVar 2) (tCons (tVar 3) (tCons (tVar 6) (tCons (tVar 1) tNil))))) 6 σ0 H0 m.toNat ((uses dn b m).map vo) := by
        intro σ0 H0 e0 j u H' R hj eu g r
        rw [uses_at hj] at eu
        cases eu
        rw [e0]
        simp only [List.set_cons_zero, List.set_cons_succ]
        walk_at "go"
        exact w_want (good j hj) (r _ (Grow.refl _))
      refine ⟨.int m, rfl, m, rfl, by omega, by omega, ?_⟩
      refine lcR (σ := [some (.ref c), some (.int m), some (.int dn), some (.int b), s4, s5, none]) (i := 6) (n := m.toNat) (ys := (uses dn b m).map vo) (by intro _; rfl) (by rw [List.length_map, uses_len]) (by rw [sizeLine_eq]; omega) (turn1 _ _ rfl) (fun D1 H8 nD1 eD1 g8 => ?_)
      have g9 := g7.trans g8
      clear g7 g8 nD1
      walk_at "go"
      have turn2 : ∀ (σ0 : L2.St) (H0 : Hp), TurnsR (tC V.non) 6 σ0 H0 m.toNat (List.replicate m.toNat V.non) := by
        intro σ0 H0 j u H' R hj eu g r
        rw [List.getElem?_replicate, if_pos hj] at eu
        cases eu
        exact r _ (Grow.refl _)
      refine ⟨.int m, rfl, m, rfl, by omega, by omega, ?_⟩
      refine lcR (σ := [some (.ref c), some (.int m), some (.int dn), some (.int b), some (.ref D1), s5, none]) (i := 6) (n := m.toNat) (ys := List.replicate m.toNat V.non) (by intro _; rfl) (by simp) (by rw [sizeLine_eq]; omega) (turn2 _ _) (fun D2 H9 nD2 eD2 g2 => ?_)
      have n12 : D1 ≠ D2 := ne_of_none eD1 nD2
      have eD1' := g2 _ _ eD1
      have gg : ∀ L : List V, Grow H6 (upd H9 D2 (.lst L)) := fun L b o e => by
        rw [upd_ne (ne_of_none (g9 _ _ e) nD2)]; exact g2 _ _ (g9 _ _ e)
      have i0 := Int.emod_nonneg dn (show m ≠ 0 by omega)
      have i1 := Int.emod_lt_of_pos dn (show 0 < m by omega)
      have j0 := Int.emod_nonneg (dn + 1) (show m ≠ 0 by omega)
      have j1 := Int.emod_lt_of_pos (dn + 1) (show 0 < m by omega)
      clear turn1 turn2 g9 g2 nD2
      walk_at "go"
      refine w_iteD (fun h0 => ?_) (fun h0 => ?_)
      case' refine_1 =>
        subst h0
        walk_at "go"
        refine w_setL eD2 (ix_len (k := m) (by rw [List.length_replicate]; omega) i0 i1) ?_
        walk_at "go"
        refine w_setL upd_same (ix_len (k := m) (by rw [List.length_set, List.length_replicate]; omega) j0 j1) ?_
        rw [upd_upd, due0 hm0]
        have q1 : SqL K (upd H9 D2 (.lst ((uses dn 0 m).map vo))) D1 ((uses dn 0 m).map vo) := SqL.of (by rw [upd_ne n12]; exact eD1')
        have q2 : SqL K (upd H9 D2 (.lst ((uses dn 0 m).map vo))) D2 ((uses dn 0 m).map vo) := SqL.of upd_same
        have gz := gg ((uses dn 0 m).map vo)
        generalize upd H9 D2 (.lst ((uses dn 0 m).map vo)) = Hz at q1 q2 gz ⊢
      case' refine_2 =>
        obtain rfl : b = 1 := by omega
        walk_at "go"
        refine w_setL eD2 (ix_len (k := m) (by rw [List.length_replicate]; omega) j0 j1) ?_
        rw [due1 hm0]
        have q1 : SqL K (upd H9 D2 (.lst ((uses dn 1 m).map vo))) D1 ((uses dn 1 m).map vo) := SqL.of (by rw [upd_ne n12]; exact eD1')
        have q2 : SqL K (upd H9 D2 (.lst ((uses dn 1 m).map vo))) D2 ((uses dn 1 m).map vo) := SqL.of upd_same
        have gz := gg ((uses dn 1 m).map vo)
        generalize upd H9 D2 (.lst ((uses dn 1 m).map vo)) = Hz at q1 q2 gz ⊢
      all_goals
        walk_at "go"
        refine w_showO q1 (uses_sm _ _ _) (by rw [uses_len]; omega) ?_
        walk_at "go"
        refine w_showO q2 (uses_sm _ _ _) (by rw [uses_len]; omega) ?_
        refine w_neSelf rfl ?_
        walk_at "go"
        refine ⟨rfl, rfl, w_want (a := dn) (c := m - 1) (d := m) (good_want hd hb (by omega) (by omega) hm0 hm1) ?_⟩
        rw [wantV_eq]
        walk_at "go"
        refine w_showo (wantO_sm _ _ _ _) ?_
        walk_at "go"
        refine w_ixL q2 (uses_last hm0) ?_
        walk_at "go"
        refine w_showo (wantO_sm _ _ _ _) ?_
        refine w_neSelf rfl ?_
        walk_at "go"
        exact ⟨_, _, _, rfl, gz⟩
    · intro σ H7 p
      obtain ⟨s3, s4, s5, rfl, g7⟩ := p
      walk_at "go"
      exact k n5 _ (by omega) (hc6.grow g7) (x6.trans g7.ext)
end
end K35

set_option maxRecDepth 100000
set_option maxHeartbeats 4000000
namespace K35
open PySem L2 FW PyProof.Rows
local macro_rules | `(tactic| walk_at "side") => `(tactic| first
  | omega
  | exact ⟨by omega, by omega⟩
  | exact Or.inl ⟨by omega, by omega⟩
  | exact Or.inr ⟨by omega, by omega⟩
  | exact ⟨by omega, by omega, by omega⟩
  | exact ⟨by decide, by decide, by decide⟩
  | (refine mix2 ?_ ?_ ?_ ?_ ?_ ?_ ?_ ?_ ?_ ?_ <;> omega))
local macro_rules | `(tactic| walk_at "hp") => `(tactic| first
  | assumption | exact upd_same
  | (refine' rd_new ?n ?q; (case n => assumption); (case q => walk_at "hp"))
  | (refine' rd_ne ?n ?q; (case n => first | assumption | (apply Ne.symm; assumption)); (case q => walk_at "hp")))
local macro_rules | `(tactic| walk_at "sq") => `(tactic| first
  | assumption
  | (with_reducible apply SqL.of; walk_at "hp") | (with_reducible apply SqT.of; walk_at "hp")
  | ((with_reducible refine' sqL_new ?n ?q); (case n => assumption); (case q => walk_at "sq"))
  | ((with_reducible refine' sqT_new ?n ?q); (case n => assumption); (case q => walk_at "sq"))
  | ((with_reducible refine' sqL_ne ?n ?q); (case n => first | assumption | (apply Ne.symm; assumption)); (case q => walk_at "sq"))
  | ((with_reducible refine' sqT_ne ?n ?q); (case n => first | assumption | (apply Ne.symm; assumption)); (case q => walk_at "sq"))
  | ((with_reducible refine' Ext.sqL ?e ?n ?q); (case e => assumption); (case n => first | assumption | (apply Ne.symm; assumption)); (case q => walk_at "sq"))
  | ((with_reducible refine' Ext.sqT ?e ?n ?q); (case e => assumption); (case n => first | assumption | (apply Ne.symm; assumption)); (case q => walk_at "sq"))
  | ((with_reducible refine' Grow.sqL ?e ?q); (case e => assumption); (case q => walk_at "sq"))
  | ((with_reducible refine' Grow.sqT ?e ?q); (case e => assumption); (case q => walk_at "sq")))
local macro_rules | `(tactic| walk_at "sqs") => `(tactic| first | assumption | (exact ‹∀ H, SqT _ H _ _› _) | (apply SqT.of; walk_at "hp"))
local macro_rules | `(tactic| walk_at "kn") => `(tactic| first | assumption | exact True.intro)
local macro_rules | `(tactic| walk_at "fw") => `(tactic| with_reducible first
  | refine w_seq ?_ | refine w_asg ?_ | refine w_ret ?_ | refine w_drop ?_ | refine w_next ?_ | refine w_c ?_ | refine w_op ?_ | refine w_un ?_
  | refine w_test ?_ | refine w_B ?_ | refine w_bl ?_ | refine w_not ?_ | refine w_and ?_ | refine w_or ?_ | refine w_andV ?_ | refine w_orV ?_ | refine w_notV ?_
  | refine w_if ?_ | refine w_ifE ?_ | refine w_yes ?_ | refine w_no ?_ | refine w_rfl ?_ | refine w_tr ?_ | refine w_nyes ?_ | refine w_nno ?_ | refine w_T ?_ | refine w_F ?_ | refine w_nil ?_ | refine w_cons ?_ | refine w_cb ?_ | refine w_call ?_ | refine w_lst ?_ | refine w_tup ?_
  | refine w_I0 ?_ | refine w_U ?_ | refine w_int ?_ | refine w_intB ?_ | refine w_abs ?_ | refine w_raise1 ?_ | refine w_sub ?_ | refine w_gcons ?_ | refine w_gnil ?_ | refine w_par ?_ | refine w_chain ?_ | refine w_callNB ?_)
local macro_rules | `(tactic| walk_at "fwv") => `(tactic| first
  | ((with_reducible refine' w_var ?e ?_); (case e => rfl))
  | ((with_reducible refine' w_I ?e ?_); (case e => walk_at "side"))
  | ((with_reducible refine' w_ixL ?s ?e ?_); (case s => walk_at "sq"); (case e => rfl))
  | ((with_reducible refine' w_lenL ?s ?_); (case s => walk_at "sq"); try simp only [List.length_map, List.length_cons, List.length_nil])
  | ((with_reducible refine' w_setL ?e ?f ?_); (case e => walk_at "hp"); (case f => rfl); try simp only [Int.reduceToNat, List.set_cons_zero, List.set_cons_succ, upd_upd])
  | ((with_reducible refine' w_gtup ?s ?l ?_); (case s => walk_at "sq"); (case l => rfl))
  | ((with_reducible refine' w_eq ?e ?_); (case e => rfl))
  | ((with_reducible refine' w_ne ?e ?_); (case e => rfl))
  | ((with_reducible refine' w_mk1 ?o ?n ?_); (case o => apply Exn.oex; assumption); (case n => apply Exn.no; assumption); intro _ _)
  | ((with_reducible refine w_dnew ?_); intro _ _)
  | ((with_reducible refine' w_inT (ss := ?ss) ?s ?_); (case s => walk_at "sqs"))
  | ((with_reducible refine' w_notInT (ss := ?ss) ?s ?_); (case s => walk_at "sqs"))
  | ((with_reducible refine' w_inX ?s ?f ?g ?_); (case s => walk_at "sqs"); (case f => rfl); (case g => rfl))
  | ((with_reducible refine' w_isIntA ?k ?_); (case k => walk_at "kn"))
  | ((with_reducible refine' w_isBlA ?k ?_); (case k => walk_at "kn"))
  | ((with_reducible refine' w_isStrA ?k ?_); (case k => walk_at "kn"))
  | ((with_reducible refine w_par2 ?_); simp only [List.set_cons_zero, List.set_cons_succ])
  | ((with_reducible refine w_name ?_); simp only [List.set_cons_zero, List.set_cons_succ]))
local macro_rules | `(tactic| walk_at "size") => `(tactic| first | (show _ ≤ sizeLine; decide) | (simp only [List.length_cons, List.length_nil]; decide))
local macro_rules | `(tactic| walk_at "mk") => `(tactic| ((with_reducible refine' w_made ?n ?_); (case n => walk_at "size"); intro _ _))
local macro_rules | `(tactic| walk_at "ev") => `(tactic| simp only [reduceCtorEq, V.int.injEq, V.bl.injEq, V.str.injEq, V.ref.injEq, List.append_nil, List.cons_append, List.nil_append, decide_true, decide_false, Bool.not_true, Bool.not_false])
local macro_rules | `(tactic| walk_at "go") => `(tactic| repeat (first | walk_at "fw" | walk_at "fwv" | walk_at "mk" | (dsimp only) | walk_at "ev"))
local macro_rules | `(tactic| walk_at "br") => `(tactic| first | refine w_iteN (fun _ => ?_) (fun _ => ?_) | refine w_iteD (fun _ => ?_) (fun _ => ?_) | refine w_ite (fun _ => ?_) (fun _ => ?_))
local macro_rules | `(tactic| walk_at "fork") => `(tactic| (first | refine w_iteN (fun hx => ?_) (fun hx => ?_) | refine w_iteD (fun hx => ?_) (fun hx => ?_) | refine w_ite (fun hx => ?_) (fun hx => ?_)) <;> first | (exact absurd hx (by decide +kernel)) | skip)
local macro_rules | `(tactic| walk_at "gr") => `(tactic| repeat' (first | exact Grow.refl _ | assumption | refine Grow.trans ?_ (Grow.new (by assumption))))

theorem sum_in : ∀ ns : List Int, (∀ z ∈ ns, 0 ≤ z ∧ z < 3) → 0 ≤ ns.sum ∧ ns.sum ≤ 2 * (ns.length : Int)
  | [], _ => by simp
  | z :: ns, h => by
    have ih := sum_in ns fun y hy => h y (List.mem_cons_of_mem _ hy)
    have hz := h z (List.mem_cons_self ..)
    rw [List.sum_cons, List.length_cons]
    omega
theorem far_ne {x k m : Int} (h0 : 0 < k) (h1 : k < m) : x % m ≠ (x + k) % m := by
  have a := Int.emod_nonneg x (show m ≠ 0 by omega)
  have b := Int.emod_lt_of_pos x (show 0 < m by omega)
  have c : (x % m + k) % m = (x + k) % m := Int.emod_add_emod x m k
  rw [← c]
  by_cases h : x % m + k < m
  · rw [Int.emod_eq_of_lt (a := x % m + k) (b := m) (by omega) h]; omega
  · have d : (x % m + k) % m = (x % m + k - m) % m := by rw [Int.sub_emod_right]
    rw [d, Int.emod_eq_of_lt (a := x % m + k - m) (b := m) (by omega) (by omega)]; omega
section
variable {P : Program} {w : World} {K : PySem.W.Frag} {mg : Str → Option Value} {base : Heap}
theorem ok__law_elder_right {f : Addr} {fd : FuncData} (T : TxtL P w K mg base) (F : Fun K "_law_elder_right" "_law_elder_right" s__law_elder_right f fd) : FnOk P w K mg base CX0 6 f fd ["_law_pen_here"] (spTrue K 20) := by
  refine F.ok sc__law_elder_right (fun vs H Q E h => ?_) (fun cdv A outer s H vs Q E hr h => ?_)
  · obtain ⟨c, n, rfl, _⟩ := h; rfl
  · obtain ⟨c, n, rfl, hc, hn, k⟩ := h
    refine ⟨_, (pss_cons (ps_par (i := 1) (j := 2) rfl sc__law_elder_right.nd rfl rfl (by decide) rfl rfl (pa_cons (pe_can (E := E0) (c__law_draw T) hr (by decide) pass0 rfl (pa_cons (pv 0) (pa_cons pe_int pa_nil))) (pa_cons (pe_can (E := E0) (c__law_draw T) hr (by decide) pass0 rfl (pa_cons (pv 0) (pa_cons pe_int pa_nil))) pa_nil)) (by rfl))
 (pss_cons (ps_set (i := 3) sc__law_elder_right.nd rfl (Or.inl rfl) (pe_callB (call_min2 rfl) (by rfl) T.b_min (by decide +kernel) (pa_cons pe_int (pa_cons (pe_op op_add (pe_op op_add (pe_op op_mul pe_int (pv 1)) pe_int) (pe_can (E := E0) (c__law_draw T) hr (by decide) pass0 rfl (pa_cons (pv 0) (pa_cons pe_int pa_nil)))) pa_nil))))
 (pss_cons (ps_set (i := 4) sc__law_elder_right.nd rfl (Or.inl rfl) (pe_op op_add (pe_op op_add (pv 2) pe_int) (pe_callB (cr_sum rfl) (by rfl) T.b_sum (by decide +kernel) (pa_cons (pe_lc1 (x := "_law_turn") (i := 5) (g := gName 5) (tt := tYes) rfl sc__law_elder_right.nd (pi_range1 (by rfl) T.b_range (pa_cons (pv 1) pa_nil)) (blkOk_by (N := N__law_elder_right) (sc := defScope s__law_elder_right) (by decide +kernel)) (fun _ _ _ _ _ => pg_name (i := 5) sc__law_elder_right.nd rfl (Or.inl rfl)) (fun _ _ _ _ _ => pts_nil) (fun _ _ _ _ _ => (pe_can (E := E0) (c__law_drawL T) hr (by decide) pass0 rfl (pa_cons (pv 0) (pa_cons pe_int pa_nil))))) pa_nil))))
 (pss_one (ps_ret (pe_cmpR op_isN (pe_can (E := E0) (c_is_wanted T.toTxt) hr (by decide) passL rfl (pa_cons (pv 4) (pa_cons (pe_can (E := E0) (c__law_draw T) hr (by decide) pass0 rfl (pa_cons (pv 0) (pa_cons pe_int pa_nil))) (pa_cons (pe_op op_mod (pe_callTy call_intA (by rfl) T.b_int (by decide +kernel) (pa_cons (pv 2) pa_nil)) (pv 3)) (pa_cons (pv 3) pa_nil))))) pe_non (nomark _))))))), ?_⟩
    rw [show L2.start N__law_elder_right [(V.ref c)] = [some (V.ref c), none, none, none, none, none] from rfl]; try dsimp only [cxOf]
    walk_at "go"
    refine ⟨c, n, 9, rfl, hc, by omega, by omega, by omega, fun late n1 H1 a0 a1 hn1 hc1 he1 => ?_⟩
    walk_at "go"
    refine ⟨c, n1, 40, rfl, hc1, by omega, by omega, by omega, fun least n2 H2 b0 b1 hn2 hc2 he2 => ?_⟩
    walk_at "go"
    refine ⟨c, n2, 4, rfl, hc2, by omega, by omega, by omega, fun more n3 H3 d0 d1 hn3 hc3 he3 => ?_⟩
    walk_at "go"
    refine ⟨_, _, rfl, ?_⟩
    generalize hm : (if 2 * late + 3 + more < 64 then 2 * late + 3 + more else 64) = m
    have m0 : 2 * late + 3 ≤ m := by rw [← hm]; split <;> omega
    have m1 : m ≤ 64 := by rw [← hm]; split <;> omega
    clear hm
    have x3 := (he1.trans he2).trans he3
    walk_at "go"
    refine ⟨.int late, rfl, late, rfl, by omega, by omega, ?_⟩
    refine lcDraw (E := E0) (σ := [some (V.ref c), some (V.int late), some (V.int least), some (V.int m), none, none]) (i := 5) (n := late.toNat) (n0 := n3) (c := c) (many := 3) (by intro _; rfl) (by omega) (by omega) (by decide) (by decide) (fun x H R hx => ?_) hc3 (fun D H4 ns n4 nD eD hl hz hc4 hn4 he4 => ?_)
    · walk_at "go"
      exact hx
    walk_at "go"
    refine ⟨D, ns, rfl, SqL.of eD, ?_⟩
    walk_at "go"
    refine ⟨c, n4, 2, rfl, hc4, by omega, by omega, by omega, fun has n5 H5 f0 f1 hn5 hc5 he5 => ?_⟩
    walk_at "go"
    have hs := sum_in ns hz
    have g0 := Int.emod_nonneg least (show m ≠ 0 by omega)
    have g1 := Int.emod_lt_of_pos least (show 0 < m by omega)
    refine w_want (good_want (by omega) (by omega) g0 g1 (by omega) m1) ?_
    have none1 : wantV (least + 1 + ns.sum) has (least % m) m = .non := by
      unfold wantV
      rw [if_neg (fun z => far_ne (x := least) (k := 1 + ns.sum) (m := m) (by omega) (by omega) (by rw [← Int.add_assoc]; exact z.1)),
        if_neg (fun z => far_ne (x := least) (k := 1 + ns.sum + 1) (m := m) (by omega) (by omega) (by rw [← Int.add_assoc, ← Int.add_assoc]; exact z))]
    rw [none1]
    walk_at "go"
    exact k n5 _ (by omega) hc5 ((x3.trans he4).trans he5)
theorem c__law_elder_right (T : TxtL P w K mg base) : Can P w K mg base CX0 6 "_law_elder_right" ["_law_pen_here"] (spTrue K 20) := T.d__law_elder_right.can fun f fd F => ok__law_elder_right T F
theorem c__law_all_right (T : TxtL P w K mg base) : CanG P w K mg base CX0 6 "_law_all_right" ["_law_pen_here"] (spTrue K 10) := canG_of T.d__law_all_right fun f fd F => ok__law_all_right T F
end
end K35

set_option maxRecDepth 100000
set_option maxHeartbeats 4000000
namespace K35
open PySem L2 FW PyProof.Rows
local macro_rules | `(tactic| walk_at "side") => `(tactic| first
  | omega
  | exact ⟨by omega, by omega⟩
  | exact Or.inl ⟨by omega, by omega⟩
  | exact Or.inr ⟨by omega, by omega⟩
  | exact ⟨by omega, by omega, by omega⟩
  | exact ⟨by decide, by decide, by decide⟩
  | (refine mix2 ?_ ?_ ?_ ?_ ?_ ?_ ?_ ?_ ?_ ?_ <;> omega))
local macro_rules | `(tactic| walk_at "hp") => `(tactic| first
  | assumption | exact upd_same
  | (refine' rd_new ?n ?q; (case n => assumption); (case q => walk_at "hp"))
  | (refine' rd_ne ?n ?q; (case n => first | assumption | (apply Ne.symm; assumption)); (case q => walk_at "hp")))
local macro_rules | `(tactic| walk_at "sq") => `(tactic| first
  | assumption
  | (with_reducible apply SqL.of; walk_at "hp") | (with_reducible apply SqT.of; walk_at "hp")
  | ((with_reducible refine' sqL_new ?n ?q); (case n => assumption); (case q => walk_at "sq"))
  | ((with_reducible refine' sqT_new ?n ?q); (case n => assumption); (case q => walk_at "sq"))
  | ((with_reducible refine' sqL_ne ?n ?q); (case n => first | assumption | (apply Ne.symm; assumption)); (case q => walk_at "sq"))
  | ((with_reducible refine' sqT_ne ?n ?q); (case n => first | assumption | (apply Ne.symm; assumption)); (case q => walk_at "sq"))
  | ((with_reducible refine' Ext.sqL ?e ?n ?q); (case e => assumption); (case n => first | assumption | (apply Ne.symm; assumption)); (case q => walk_at "sq"))
  | ((with_reducible refine' Ext.sqT ?e ?n ?q); (case e => assumption); (case n => first | assumption | (apply Ne.symm; assumption)); (case q => walk_at "sq"))
  | ((with_reducible refine' Grow.sqL ?e ?q); (case e => assumption); (case q => walk_at "sq"))
  | ((with_reducible refine' Grow.sqT ?e ?q); (case e => assumption); (case q => walk_at "sq")))
local macro_rules | `(tactic| walk_at "sqs") => `(tactic| first | assumption | (exact ‹∀ H, SqT _ H _ _› _) | (apply SqT.of; walk_at "hp"))
local macro_rules | `(tactic| walk_at "kn") => `(tactic| first | assumption | exact True.intro)
local macro_rules | `(tactic| walk_at "fw") => `(tactic| with_reducible first
  | refine w_seq ?_ | refine w_asg ?_ | refine w_ret ?_ | refine w_drop ?_ | refine w_next ?_ | refine w_c ?_ | refine w_op ?_ | refine w_un ?_
  | refine w_test ?_ | refine w_B ?_ | refine w_bl ?_ | refine w_not ?_ | refine w_and ?_ | refine w_or ?_ | refine w_andV ?_ | refine w_orV ?_ | refine w_notV ?_
  | refine w_if ?_ | refine w_ifE ?_ | refine w_yes ?_ | refine w_no ?_ | refine w_rfl ?_ | refine w_tr ?_ | refine w_nyes ?_ | refine w_nno ?_ | refine w_T ?_ | refine w_F ?_ | refine w_nil ?_ | refine w_cons ?_ | refine w_cb ?_ | refine w_call ?_ | refine w_lst ?_ | refine w_tup ?_
  | refine w_I0 ?_ | refine w_U ?_ | refine w_int ?_ | refine w_intB ?_ | refine w_abs ?_ | refine w_raise1 ?_ | refine w_sub ?_ | refine w_gcons ?_ | refine w_gnil ?_ | refine w_par ?_ | refine w_chain ?_ | refine w_callNB ?_)
local macro_rules | `(tactic| walk_at "fwv") => `(tactic| first
  | ((with_reducible refine' w_var ?e ?_); (case e => rfl))
  | ((with_reducible refine' w_I ?e ?_); (case e => walk_at "side"))
  | ((with_reducible refine' w_ixL ?s ?e ?_); (case s => walk_at "sq"); (case e => rfl))
  | ((with_reducible refine' w_lenL ?s ?_); (case s => walk_at "sq"); try simp only [List.length_map, List.length_cons, List.length_nil])
  | ((with_reducible refine' w_setL ?e ?f ?_); (case e => walk_at "hp"); (case f => rfl); try simp only [Int.reduceToNat, List.set_cons_zero, List.set_cons_succ, upd_upd])
  | ((with_reducible refine' w_gtup ?s ?l ?_); (case s => walk_at "sq"); (case l => rfl))
  | ((with_reducible refine' w_eq ?e ?_); (case e => rfl))
  | ((with_reducible refine' w_ne ?e ?_); (case e => rfl))
  | ((with_reducible refine' w_mk1 ?o ?n ?_); (case o => apply Exn.oex; assumption); (case n => apply Exn.no; assumption); intro _ _)
  | ((with_reducible refine w_dnew ?_); intro _ _)
  | ((with_reducible refine' w_inT (ss := ?ss) ?s ?_); (case s => walk_at "sqs"))
  | ((with_reducible refine' w_notInT (ss := ?ss) ?s ?_); (case s => walk_at "sqs"))
  | ((with_reducible refine' w_inX ?s ?f ?g ?_); (case s => walk_at "sqs"); (case f => rfl); (case g => rfl))
  | ((with_reducible refine' w_isIntA ?k ?_); (case k => walk_at "kn"))
  | ((with_reducible refine' w_isBlA ?k ?_); (case k => walk_at "kn"))
  | ((with_reducible refine' w_isStrA ?k ?_); (case k => walk_at "kn"))
  | ((with_reducible refine w_par2 ?_); simp only [List.set_cons_zero, List.set_cons_succ])
  | ((with_reducible refine w_name ?_); simp only [List.set_cons_zero, List.set_cons_succ]))
local macro_rules | `(tactic| walk_at "size") => `(tactic| first | (show _ ≤ sizeLine; decide) | (simp only [List.length_cons, List.length_nil]; decide))
local macro_rules | `(tactic| walk_at "mk") => `(tactic| ((with_reducible refine' w_made ?n ?_); (case n => walk_at "size"); intro _ _))
local macro_rules | `(tactic| walk_at "ev") => `(tactic| simp only [reduceCtorEq, V.int.injEq, V.bl.injEq, V.str.injEq, V.ref.injEq, List.append_nil, List.cons_append, List.nil_append, decide_true, decide_false, Bool.not_true, Bool.not_false])
local macro_rules | `(tactic| walk_at "go") => `(tactic| repeat (first | walk_at "fw" | walk_at "fwv" | walk_at "mk" | (dsimp only) | walk_at "ev"))
local macro_rules | `(tactic| walk_at "br") => `(tactic| first | refine w_iteN (fun _ => ?_) (fun _ => ?_) | refine w_iteD (fun _ => ?_) (fun _ => ?_) | refine w_ite (fun _ => ?_) (fun _ => ?_))
local macro_rules | `(tactic| walk_at "fork") => `(tactic| (first | refine w_iteN (fun hx => ?_) (fun hx => ?_) | refine w_iteD (fun hx => ?_) (fun hx => ?_) | refine w_ite (fun hx => ?_) (fun hx => ?_)) <;> first | (exact absurd hx (by decide +kernel)) | skip)
local macro_rules | `(tactic| walk_at "gr") => `(tactic| repeat' (first | exact Grow.refl _ | assumption | refine Grow.trans ?_ (Grow.new (by assumption))))

def kindOf (mis : Bool) : Str := if mis = true then "misfit" else "number"
section
variable {P : Program} {w : World} {K : PySem.W.Frag} {mg : Str → Option Value} {base : Heap}
/-- what the law makes of what it asks: nothing, or what is told of an error -/
def TTheard (CN CM : Addr) : (XK → Hp → VK → Prop) → Hp → VK → Prop := fun tl H Q => ∀ (E' : XK) (Q' : VK), (∀ v H', (∀ H2, Grow H' H2 → Q .non H2) → Q' v H') →
  (∀ (mis : Bool) (d : Addr) (p : Str) (H' : Hp), H' d = some (.xd [("part", .str p)]) → (∀ H2 l, Grow H' H2 → H' l = none → H2 l = some (.lst [.str (kindOf mis), .str p]) → Q (.ref l) H2) → E' (.ref (if mis = true then CM else CN)) (some d) H') → tl E' H Q'
theorem w_isXA {K : PySem.W.Frag} {H : Hp} {Q : VK} {a D dd C : Addr} {b : Bool} {fs : List (Str × V)} (e : H a = some (ExT a (.ref D) (some dd))) (x : ExcC K D) (ed : H dd = some (.xd fs)) (k : PySem.W.kitOne K (.ref D) (.ref C) = some b) (q : Q (.bl b) H) :
    rIsA K [.ref a, .ref C] H Q := .inr ⟨a, D, some dd, .ref C, .ref C, b, rfl, e, x, .inr ⟨dd, fs, rfl, ed⟩, .own C, k, q⟩
theorem kit_same {K : PySem.W.Frag} {C : Addr} : PySem.W.kitOne K (.ref C) (.ref C) = some true := by unfold PySem.W.kitOne; rw [if_pos (by simp)]
theorem own2 (A B : Addr) : Paired ClsV [.ref A, .ref B] [.ref A, .ref B] := .cons (.own A) (.cons (.own B) .nil)
theorem heard_gives {X : Cx} (T : TxtL X.prog X.w X.K X.mg X.base) {g : Addr} {cdg : Value} {q : Str} :
    LamX.GivesTo X N__law_heard "_law_heard" (defScope s__law_heard) g cdg (defBody s__law_heard) "_law_ask" q (TTheard T.cBadNumber T.cMisfit) := by
  intro f c' s H Q tl act hc h
  refine ⟨_, (pss_cons (ps_set (i := 1) sc__law_heard.nd rfl (Or.inl rfl) pe_non)
 (pss_cons (ps_try_keep (i := 2) (j := 1) (c := .ref T.cWeather) (tb := fun W D σ H => ∃ Ech : XK, (∀ cls d σ' H', Ech cls d H' → W cls d σ' H') ∧ σ[0]? = some (some (.ref f)) ∧ H c' = some (LamX.CodeO c' q) ∧ tl Ech H fun _ H' => D.nx σ H') rfl rfl sc__law_heard.nd rfl rfl rfl rfl (by decide) ⟨rfl, by decide, .inl T.g_Weather⟩ (fun W pn xe tk _ => ⟨fun pins s' σ H' D I ⟨Ech, hW, h1, h2, h3⟩ => (pss_one (ps_expr (act W pn xe Ech _ _ tk hW))).run pins s' σ H' D I ⟨h1, h2, h3⟩⟩))
 (pss_cons (ps_if (pt_val (pe_callB call_isAT (by rfl) T.b_isinstance (by decide +kernel) (pa_cons (pv 1) (pa_cons (pe_tup (pa_cons (pe_glob (v := .ref T.cBadNumber) rfl T.x_BadNumber.gC rfl) (pa_cons (pe_glob (v := .ref T.cMisfit) rfl T.x_Misfit.gC rfl) pa_nil))) pa_nil))))
 (pss_one (ps_ret (pe_lst (pa_cons (pe_ifExp (pt_val (pe_callB call_isA (by rfl) T.b_isinstance (by decide +kernel) (pa_cons (pv 1) (pa_cons (pe_glob (v := .ref T.cBadNumber) rfl T.x_BadNumber.gC rfl) pa_nil)))) pe_str pe_str) (pa_cons (pe_xt (pv 1)) pa_nil)))))
 pss_nil)
 (pss_one (ps_ret (pe_ifExp (pt_cmpR op_isN (pv 1) pe_non (nomark _)) pe_non (pe_lst (pa_cons pe_str (pa_cons pe_non pa_nil))))))))), ?_⟩
  rw [show L2.start N__law_heard [(V.ref f)] = [some (.ref f), none, none] from rfl]; try dsimp only [cxOf]
  walk_at "go"
  refine ⟨by simp, fun cls d H' => ∃ mis, cls = .ref (if mis = true then T.cMisfit else T.cBadNumber) ∧ ∃ dd p, d = some dd ∧ H' dd = some (.xd [("part", .str p)]) ∧ ∀ H2 l, Grow H' H2 → H' l = none → H2 l = some (.lst [.str (kindOf mis), .str p]) → Q (.ref l) H2, ?_, rfl, hc, ?_⟩
  · intro cls d σ' H' hx
    obtain ⟨mis, rfl, dd, p, rfl, hdd, hq⟩ := hx
    have te : PySem.W.exmOne X.K (.ref (if mis = true then T.cMisfit else T.cBadNumber)) (.ref T.cWeather) = some true := by
      cases mis
      · exact T.e_BadNumber
      · exact T.e_Misfit
    refine ⟨te, fun a na hl => ?_⟩
    obtain ⟨x0, x1, x2, rfl⟩ : ∃ x0 x1 x2, σ' = [x0, x1, x2] := by
      match σ', hl with
      | [x0, x1, x2], _ => exact ⟨x0, x1, x2, rfl⟩
    have nda : dd ≠ a := ne_of_none hdd na
    obtain ⟨D, hD, xe, xf, no, ki, k1⟩ : ∃ D, (if mis = true then T.cMisfit else T.cBadNumber) = D ∧ ExcC X.K D ∧ XfC X.K D ∧ PySem.W.findIn X.K (.ref D) "part" = some none ∧ PySem.W.kitAny X.K (.ref D) [.ref T.cBadNumber, .ref T.cMisfit] = some true ∧ PySem.W.kitOne X.K (.ref D) (.ref T.cBadNumber) = some (!mis) := by
      cases mis
      · exact ⟨_, rfl, T.x_BadNumber.exc, T.x_BadNumber.xf, T.x_BadNumber.no, T.i_BadNumber, kit_same⟩
      · exact ⟨_, rfl, T.x_Misfit.exc, T.x_Misfit.xf, T.x_Misfit.no, T.i_Misfit, T.i_other⟩
    rw [hD]
    walk_at "go"
    rename_i pt et
    have hdd2 : upd H' a (ExT a (.ref D) (some dd)) dd = some (.xd [("part", .str p)]) := by rw [upd_ne nda]; exact hdd
    refine .inr ⟨a, pt, D, some dd, _, _, true, rfl, upd_same, own2 _ _, rd_new et upd_same, xe, .inr ⟨dd, _, rfl, rd_new et hdd2⟩, ki, ?_⟩
    walk_at "go"
    refine w_isXA (rd_new et upd_same) xe (rd_new et hdd2) k1 ?_
    have gt := (Grow.new na (o := ExT a (.ref D) (some dd))).trans (Grow.new et (o := .tup [.ref T.cBadNumber, .ref T.cMisfit]))
    cases mis
    all_goals
      walk_at "go"
      refine ⟨.ref a, rfl, a, D, dd, _, _, rfl, rd_new et upd_same, rd_new et hdd2, xf, no, rfl, ?_⟩
      walk_at "go"
      rename_i l el
      refine hq _ l (gt.trans (Grow.new el)) ?_ upd_same
      match z : H' l with
      | none => rfl
      | some o => rw [gt _ _ z] at el; cases el
  · refine h _ _ (fun v H' hq => ?_) (fun mis d p H' e hq => ⟨mis, rfl, d, p, rfl, e, hq⟩)
    walk_at "go"
    rename_i pt et
    refine .inl ⟨.non, pt, _, .type "NoneType", _, false, rfl, upd_same, own2 _ _, .base .non, T.n_both, ?_⟩
    walk_at "go"
    exact hq _ (Grow.new et)
end
end K35

set_option maxRecDepth 100000
set_option maxHeartbeats 4000000
namespace K35
open PySem L2 FW PyProof.Rows
local macro_rules | `(tactic| walk_at "side") => `(tactic| first
  | omega
  | exact ⟨by omega, by omega⟩
  | exact Or.inl ⟨by omega, by omega⟩
  | exact Or.inr ⟨by omega, by omega⟩
  | exact ⟨by omega, by omega, by omega⟩
  | exact ⟨by decide, by decide, by decide⟩
  | (refine mix2 ?_ ?_ ?_ ?_ ?_ ?_ ?_ ?_ ?_ ?_ <;> omega))
local macro_rules | `(tactic| walk_at "hp") => `(tactic| first
  | assumption | exact upd_same
  | (refine' rd_new ?n ?q; (case n => assumption); (case q => walk_at "hp"))
  | (refine' rd_ne ?n ?q; (case n => first | assumption | (apply Ne.symm; assumption)); (case q => walk_at "hp")))
local macro_rules | `(tactic| walk_at "sq") => `(tactic| first
  | assumption
  | (with_reducible apply SqL.of; walk_at "hp") | (with_reducible apply SqT.of; walk_at "hp")
  | ((with_reducible refine' sqL_new ?n ?q); (case n => assumption); (case q => walk_at "sq"))
  | ((with_reducible refine' sqT_new ?n ?q); (case n => assumption); (case q => walk_at "sq"))
  | ((with_reducible refine' sqL_ne ?n ?q); (case n => first | assumption | (apply Ne.symm; assumption)); (case q => walk_at "sq"))
  | ((with_reducible refine' sqT_ne ?n ?q); (case n => first | assumption | (apply Ne.symm; assumption)); (case q => walk_at "sq"))
  | ((with_reducible refine' Ext.sqL ?e ?n ?q); (case e => assumption); (case n => first | assumption | (apply Ne.symm; assumption)); (case q => walk_at "sq"))
  | ((with_reducible refine' Ext.sqT ?e ?n ?q); (case e => assumption); (case n => first | assumption | (apply Ne.symm; assumption)); (case q => walk_at "sq"))
  | ((with_reducible refine' Grow.sqL ?e ?q); (case e => assumption); (case q => walk_at "sq"))
  | ((with_reducible refine' Grow.sqT ?e ?q); (case e => assumption); (case q => walk_at "sq")))
local macro_rules | `(tactic| walk_at "sqs") => `(tactic| first | assumption | (exact ‹∀ H, SqT _ H _ _› _) | (apply SqT.of; walk_at "hp"))
local macro_rules | `(tactic| walk_at "kn") => `(tactic| first | assumption | exact True.intro)
local macro_rules | `(tactic| walk_at "fw") => `(tactic| with_reducible first
  | refine w_seq ?_ | refine w_asg ?_ | refine w_ret ?_ | refine w_drop ?_ | refine w_next ?_ | refine w_c ?_ | refine w_op ?_ | refine w_un ?_
  | refine w_test ?_ | refine w_B ?_ | refine w_bl ?_ | refine w_not ?_ | refine w_and ?_ | refine w_or ?_ | refine w_andV ?_ | refine w_orV ?_ | refine w_notV ?_
  | refine w_if ?_ | refine w_ifE ?_ | refine w_yes ?_ | refine w_no ?_ | refine w_rfl ?_ | refine w_tr ?_ | refine w_nyes ?_ | refine w_nno ?_ | refine w_T ?_ | refine w_F ?_ | refine w_nil ?_ | refine w_cons ?_ | refine w_cb ?_ | refine w_call ?_ | refine w_lst ?_ | refine w_tup ?_
  | refine w_I0 ?_ | refine w_U ?_ | refine w_int ?_ | refine w_intB ?_ | refine w_abs ?_ | refine w_raise1 ?_ | refine w_sub ?_ | refine w_gcons ?_ | refine w_gnil ?_ | refine w_par ?_ | refine w_chain ?_ | refine w_callNB ?_)
local macro_rules | `(tactic| walk_at "fwv") => `(tactic| first
  | ((with_reducible refine' w_var ?e ?_); (case e => rfl))
  | ((with_reducible refine' w_I ?e ?_); (case e => walk_at "side"))
  | ((with_reducible refine' w_ixL ?s ?e ?_); (case s => walk_at "sq"); (case e => rfl))
  | ((with_reducible refine' w_lenL ?s ?_); (case s => walk_at "sq"); try simp only [List.length_map, List.length_cons, List.length_nil])
  | ((with_reducible refine' w_setL ?e ?f ?_); (case e => walk_at "hp"); (case f => rfl); try simp only [Int.reduceToNat, List.set_cons_zero, List.set_cons_succ, upd_upd])
  | ((with_reducible refine' w_gtup ?s ?l ?_); (case s => walk_at "sq"); (case l => rfl))
  | ((with_reducible refine' w_eq ?e ?_); (case e => rfl))
  | ((with_reducible refine' w_ne ?e ?_); (case e => rfl))
  | ((with_reducible refine' w_mk1 ?o ?n ?_); (case o => apply Exn.oex; assumption); (case n => apply Exn.no; assumption); intro _ _)
  | ((with_reducible refine w_dnew ?_); intro _ _)
  | ((with_reducible refine' w_inT (ss := ?ss) ?s ?_); (case s => walk_at "sqs"))
  | ((with_reducible refine' w_notInT (ss := ?ss) ?s ?_); (case s => walk_at "sqs"))
  | ((with_reducible refine' w_inX ?s ?f ?g ?_); (case s => walk_at "sqs"); (case f => rfl); (case g => rfl))
  | ((with_reducible refine' w_isIntA ?k ?_); (case k => walk_at "kn"))
  | ((with_reducible refine' w_isBlA ?k ?_); (case k => walk_at "kn"))
  | ((with_reducible refine' w_isStrA ?k ?_); (case k => walk_at "kn"))
  | ((with_reducible refine w_par2 ?_); simp only [List.set_cons_zero, List.set_cons_succ])
  | ((with_reducible refine w_name ?_); simp only [List.set_cons_zero, List.set_cons_succ]))
local macro_rules | `(tactic| walk_at "size") => `(tactic| first | (show _ ≤ sizeLine; decide) | (simp only [List.length_cons, List.length_nil]; decide))
local macro_rules | `(tactic| walk_at "mk") => `(tactic| ((with_reducible refine' w_made ?n ?_); (case n => walk_at "size"); intro _ _))
local macro_rules | `(tactic| walk_at "ev") => `(tactic| simp only [reduceCtorEq, V.int.injEq, V.bl.injEq, V.str.injEq, V.ref.injEq, List.append_nil, List.cons_append, List.nil_append, decide_true, decide_false, Bool.not_true, Bool.not_false])
local macro_rules | `(tactic| walk_at "go") => `(tactic| repeat (first | walk_at "fw" | walk_at "fwv" | walk_at "mk" | (dsimp only) | walk_at "ev"))
local macro_rules | `(tactic| walk_at "br") => `(tactic| first | refine w_iteN (fun _ => ?_) (fun _ => ?_) | refine w_iteD (fun _ => ?_) (fun _ => ?_) | refine w_ite (fun _ => ?_) (fun _ => ?_))
local macro_rules | `(tactic| walk_at "fork") => `(tactic| (first | refine w_iteN (fun hx => ?_) (fun hx => ?_) | refine w_iteD (fun hx => ?_) (fun hx => ?_) | refine w_ite (fun hx => ?_) (fun hx => ?_)) <;> first | (exact absurd hx (by decide +kernel)) | skip)
local macro_rules | `(tactic| walk_at "gr") => `(tactic| repeat' (first | exact Grow.refl _ | assumption | refine Grow.trans ?_ (Grow.new (by assumption))))

def QR : Str := ("_law_refused_right" : Str) ++ ".<locals>." ++ "<lambda>"
def spRefused (K : PySem.W.Frag) (p : Addr) : Sp := fun vs H Q _ => ∃ (c : Addr) (n : Nat), vs = [.ref c] ∧ Cloud K H c n ∧ n < 900000 ∧ LamX.Tabs [(p, QR)] H ∧ ∀ H', Q (.bl true) H'
theorem within_no {v lo hi : V} (h : isInt v = false) : within v lo hi = false := by cases v <;> first | rfl | cases h
theorem bad_done {a b c d : V} (h : within a (.int 0) .non = false) : badW a b c d = some (false, ("done" : Str)) := by unfold badW; rw [h]; rfl
theorem bad_has {b c d : V} (h : within b (.int 0) (.int 1) = false) : badW (.int 3) b c d = some (false, ("has" : Str)) := by
  unfold badW; rw [show within (.int 3) (.int 0) .non = true from rfl, h]; rfl
theorem bad_number {c d : V} (h : within c (.int 0) (.int 63) = false) : badW (.int 3) (.int 0) c d = some (false, ("number" : Str)) := by
  unfold badW; rw [show within (.int 3) (.int 0) .non = true from rfl, show within (.int 0) (.int 0) (.int 1) = true from rfl, h]; rfl
theorem bad_m {c d : V} (hc : within c (.int 0) (.int 63) = true) (h : within d (.int 2) (.int 64) = false) : badW (.int 3) (.int 0) c d = some (false, ("m" : Str)) := by
  unfold badW; rw [show within (.int 3) (.int 0) .non = true from rfl, show within (.int 0) (.int 0) (.int 1) = true from rfl, hc, h]; rfl
theorem neg_no {z : Int} {hi : V} (h : z < 0) : within (.int z) (.int 0) hi = false := by
  unfold within
  simp only [decide_eq_false (show ¬ (0 : Int) ≤ z by omega), Bool.false_and]
theorem heard_bad {K : PySem.W.Frag} {CN CM : Addr} {tl : XK → Hp → VK → Prop} {H4 : Hp} {Q : VK} {a b c d : V} {mis : Bool} {part : Str} (go : ∀ E Q', spWanted K CN CM [a, b, c, d] H4 Q' E → tl E H4 Q') (ka : Kn K H4 a) (kb : Kn K H4 b) (kc : Kn K H4 c) (kd : Kn K H4 d)
    (hb : badW a b c d = some (mis, part)) (rest : ∀ H2 l, Grow H4 H2 → H4 l = none → H2 l = some (.lst [.str (kindOf mis), .str part]) → Q (.ref l) H2) : TTheard CN CM tl H4 Q := by
  intro E' Q' h1 h2
  refine go E' Q' ⟨a, b, c, d, rfl, ka, kb, kc, kd, (fun hn => by rw [hb] at hn; cases hn), fun m p hm x nx => ?_⟩
  rw [hb] at hm
  cases hm
  refine h2 mis x part _ upd_same fun H2 l g nl e => rest H2 l ((Grow.new nx).trans g) ?_ e
  match z : H4 l with
  | none => rfl
  | some o => rw [rd_new nx z] at nl; cases nl
/-- a lambda is heard: an error of the told kind and part -/
theorem lam_step {K : PySem.W.Frag} {pR CN CM : Addr} {t : XK → TE} {σ : L2.St} {H : Hp} {Q : VK} {a b c d : V} {mis : Bool} {part : Str} (ht : LamX.Tabs [(pR, QR)] H) (go : ∀ E H' Q', spWanted K CN CM [a, b, c, d] H' Q' E → t E σ H' Q')
    (kn : ∀ H', LamX.ExtN H H' → Kn K H' a ∧ Kn K H' b ∧ Kn K H' c ∧ Kn K H' d) (hb : badW a b c d = some (mis, part))
    (rest : ∀ H2 l, LamX.ExtN H H2 → LamX.Tabs [(pR, QR)] H2 → (∀ b xs, H b = some (.lst xs) → b ≠ l) → H2 l = some (.lst [.str (kindOf mis), .str part]) → Q (.ref l) H2) : LamX.tLam [(pR, QR)] (TTheard CN CM) t σ H Q := by
  refine ⟨ht, fun Ha eN tA => heard_bad (fun E Q' hq => go E Ha Q' hq) (kn Ha eN).1 (kn Ha eN).2.1 (kn Ha eN).2.2.1 (kn Ha eN).2.2.2 hb fun H2 l g nl e => ?_⟩
  exact rest H2 l (eN.trans (LamX.ExtN.of g)) (tA.ext g) (fun b xs hx => ne_of_none (eN _ _ hx nofun) nl) e
theorem kf : kindOf false = "number" := rfl
theorem kt : kindOf true = "misfit" := rfl
theorem w_rep {p : Addr} {k : Int} {xs : List V} {H : Hp} {Q : VK} (e : H p = some (.lst xs)) (b1 : -(2 ^ 63) ≤ k) (b2 : k < 2 ^ 63) (b3 : xs.length * k.toNat ≤ sizeLine) (h : ∀ r, H r = none → Q (.ref r) (upd H r (.lst (List.replicate k.toNat xs).flatten))) : rRep (.ref p) (.int k) H Q :=
  ⟨p, k, xs, rfl, rfl, e, b1, b2, b3, h⟩
theorem w_cat {p q : Addr} {xs ys : List V} {H : Hp} {Q : VK} (e : H p = some (.lst xs)) (e2 : H q = some (.lst ys)) (b : xs.length + ys.length ≤ sizeLine) (h : ∀ r, H r = none → Q (.ref r) (upd H r (.lst (xs ++ ys)))) : rCat (.ref p) (.ref q) H Q :=
  ⟨p, q, xs, ys, rfl, rfl, e, e2, b, h⟩
theorem tabs_upd {T : List (Addr × Str)} {H : Hp} {p : Addr} {xs : List V} {o : HO} (t : LamX.Tabs T H) (h : H p = some (.lst xs)) : LamX.Tabs T (upd H p o) := by
  intro q hq
  obtain ⟨ps, t1, t2, t3⟩ := t q hq
  refine ⟨ps, by rw [upd_ne (fun z => by rw [z, h] at t1; cases t1)]; exact t1, t2, fun pos cv hcv => ?_⟩
  obtain ⟨d, a1, a2⟩ := t3 pos cv hcv
  exact ⟨d, a1, by rw [upd_ne (fun z => by rw [z, h] at a2; exact nomatch (show HO.lst _ = HO.ext _ from Option.some.inj a2))]; exact a2⟩
section
variable {P : Program} {w : World} {K : PySem.W.Frag} {mg : Str → Option Value} {base : Heap}
theorem ok__law_refused_right {f : Addr} {fd : FuncData} (T : TxtL P w K mg base) (F : Fun K "_law_refused_right" "_law_refused_right" s__law_refused_right f fd) (hcode : fd.code = .ref T.cR) : FnOk P w K mg base CX0 7 f fd ["_law_pen_here"] (spRefused K T.pR) := by
  obtain ⟨g, gd, Fg, hmg, hbg⟩ := T.d__law_heard.ex
  obtain ⟨oc, od, kV, doc, pm, an, cdv, ct, osl, rfl, lk, hcd⟩ := Fg.ex
  refine fun_okC F hcode sc__law_refused_right (fun vs H Q E h => ?_) (fun A outer s H vs Q E hr h => ?_)
  · obtain ⟨c, n, rfl, _⟩ := h; rfl
  · obtain ⟨c, n, rfl, hc, hn, ht, k⟩ := h
    refine ⟨_, PSs.nox (pss_cons (ps_asg (pe_tup (pa_cons (pe_can (E := E0) (c__law_one_of T) hr (by decide) pass0 rfl (pa_cons (pv 0) (pa_cons (pe_lst (pa_cons pe_non (pa_cons pe_bl (pa_cons pe_bl (pa_cons pe_str (pa_cons (pe_lst (pa_cons pe_int pa_nil)) (pa_cons (pe_tup (pa_cons pe_int pa_nil)) (pa_cons pe_dnewK pa_nil)))))))) pa_nil))) (pa_cons (pe_can (E := E0) (c__law_one_of T) hr (by decide) pass0 rfl (pa_cons (pv 0) (pa_cons (pe_lst (pa_cons (pe_un un_neg pe_int) (pa_cons (pe_un un_neg (pe_op op_pow pe_int pe_int)) pa_nil))) pa_nil))) pa_nil))) (pg_tup (n := 2) rfl (pgs_cons (pg_name (i := 5) sc__law_refused_right.nd rfl (Or.inr rfl)) (pgs_cons (pg_name (i := 3) sc__law_refused_right.nd rfl (Or.inr rfl)) pgs_nil))))
 (pss_cons (ps_set (i := 1) sc__law_refused_right.nd rfl (Or.inl rfl) (pe_lst (pa_cons (LamX.pe_lamcall (T := [(T.pR, QR)]) (TT := TTheard T.cBadNumber T.cMisfit) (k := 4) rfl hmg Fg.kp lk hcd hbg sc__law_heard rfl (.inl rfl) (heard_gives (X := (cxOf CX0 P w K mg base N__law_refused_right "_law_refused_right" (defScope s__law_refused_right) f (.ref T.cR) A outer s H E).nox) T) T.tR rfl (List.mem_cons_self ..) (fun p hp _ => by rw [List.mem_singleton.mp hp]; rfl) (hr.mono (by decide)) (LamX.lamS_by (show LamX.lamSB (defScope s__law_refused_right) _ = true from by decide +kernel)) rfl (fun _ _ _ _ _ => rfl) (fun A outer s H E f c' hr' => pe_can (E := E) (c_is_wanted T.toTxt) hr' (by decide) (passes_call (takes_of rfl rfl rfl rfl) (fun _ _ _ _ h => h)) rfl (pa_cons (pv 5) (pa_cons (pv 5) (pa_cons (pv 5) (pa_cons (pv 5) pa_nil)))))) (pa_cons (pe_lamcallP (p := "_law_x1") (T := [(T.pR, QR)]) (TT := TTheard T.cBadNumber T.cMisfit) (k := 4) rfl hmg Fg.kp lk hcd hbg sc__law_heard rfl (.inl rfl) (heard_gives (X := (cxOf CX0 P w K mg base N__law_refused_right "_law_refused_right" (defScope s__law_refused_right) f (.ref T.cR) A outer s H E).nox) T) T.tR rfl (List.mem_cons_self ..) (fun p hp _ => by rw [List.mem_singleton.mp hp]; rfl) (hr.mono (by decide)) (lamP_by (show lamPB N__law_refused_right (defScope s__law_refused_right) _ _ = true from by decide +kernel)) rfl rfl pe_int (fun _ _ _ _ _ _ _ _ _ hz => BindsTo.of_defaults rfl hz rfl rfl rfl) (fun A outer s H E f c' hr' => pe_can (E := E) (c_is_wanted T.toTxt) hr' (by decide) (passes_call (takes_of rfl rfl rfl rfl) (fun _ _ _ _ h => h)) rfl (pa_cons (pv 3) (pa_cons pe_int (pa_cons pe_int (pa_cons pe_int pa_nil)))))) (pa_cons (pe_lamcallP (p := "_law_x2") (T := [(T.pR, QR)]) (TT := TTheard T.cBadNumber T.cMisfit) (k := 4) rfl hmg Fg.kp lk hcd hbg sc__law_heard rfl (.inl rfl) (heard_gives (X := (cxOf CX0 P w K mg base N__law_refused_right "_law_refused_right" (defScope s__law_refused_right) f (.ref T.cR) A outer s H E).nox) T) T.tR rfl (List.mem_cons_self ..) (fun p hp _ => by rw [List.mem_singleton.mp hp]; rfl) (hr.mono (by decide)) (lamP_by (show lamPB N__law_refused_right (defScope s__law_refused_right) _ _ = true from by decide +kernel)) rfl rfl pe_int (fun _ _ _ _ _ _ _ _ _ hz => BindsTo.of_defaults rfl hz rfl rfl rfl) (fun A outer s H E f c' hr' => pe_can (E := E) (c_is_wanted T.toTxt) hr' (by decide) (passes_call (takes_of rfl rfl rfl rfl) (fun _ _ _ _ h => h)) rfl (pa_cons pe_int (pa_cons (pv 5) (pa_cons (pv 5) (pa_cons (pv 5) pa_nil)))))) pa_nil)))))
 (pss_cons (ps_expr (pe_bm PySem.F.plainAttrs_list PySem.F.slot_list_extend PySem.F.type_list_extend mt_extend (pv 1) (pa_cons (pe_lst (pa_cons (LamX.pe_lamcall (T := [(T.pR, QR)]) (TT := TTheard T.cBadNumber T.cMisfit) (k := 4) rfl hmg Fg.kp lk hcd hbg sc__law_heard rfl (.inl rfl) (heard_gives (X := (cxOf CX0 P w K mg base N__law_refused_right "_law_refused_right" (defScope s__law_refused_right) f (.ref T.cR) A outer s H E).nox) T) T.tR rfl (List.mem_cons_self ..) (fun p hp _ => by rw [List.mem_singleton.mp hp]; rfl) (hr.mono (by decide)) (LamX.lamS_by (show LamX.lamSB (defScope s__law_refused_right) _ = true from by decide +kernel)) rfl (fun _ _ _ _ _ => rfl) (fun A outer s H E f c' hr' => pe_can (E := E) (c_is_wanted T.toTxt) hr' (by decide) (passes_call (takes_of rfl rfl rfl rfl) (fun _ _ _ _ h => h)) rfl (pa_cons pe_int (pa_cons pe_int (pa_cons pe_int (pa_cons pe_int pa_nil)))))) (pa_cons (pe_lamcallP (p := "_law_x3") (T := [(T.pR, QR)]) (TT := TTheard T.cBadNumber T.cMisfit) (k := 4) rfl hmg Fg.kp lk hcd hbg sc__law_heard rfl (.inl rfl) (heard_gives (X := (cxOf CX0 P w K mg base N__law_refused_right "_law_refused_right" (defScope s__law_refused_right) f (.ref T.cR) A outer s H E).nox) T) T.tR rfl (List.mem_cons_self ..) (fun p hp _ => by rw [List.mem_singleton.mp hp]; rfl) (hr.mono (by decide)) (lamP_by (show lamPB N__law_refused_right (defScope s__law_refused_right) _ _ = true from by decide +kernel)) rfl rfl pe_int (fun _ _ _ _ _ _ _ _ _ hz => BindsTo.of_defaults rfl hz rfl rfl rfl) (fun A outer s H E f c' hr' => pe_can (E := E) (c_is_wanted T.toTxt) hr' (by decide) (passes_call (takes_of rfl rfl rfl rfl) (fun _ _ _ _ h => h)) rfl (pa_cons pe_int (pa_cons (pv 3) (pa_cons pe_int (pa_cons pe_int pa_nil)))))) (pa_cons (pe_lamcallP (p := "_law_x4") (T := [(T.pR, QR)]) (TT := TTheard T.cBadNumber T.cMisfit) (k := 4) rfl hmg Fg.kp lk hcd hbg sc__law_heard rfl (.inl rfl) (heard_gives (X := (cxOf CX0 P w K mg base N__law_refused_right "_law_refused_right" (defScope s__law_refused_right) f (.ref T.cR) A outer s H E).nox) T) T.tR rfl (List.mem_cons_self ..) (fun p hp _ => by rw [List.mem_singleton.mp hp]; rfl) (hr.mono (by decide)) (lamP_by (show lamPB N__law_refused_right (defScope s__law_refused_right) _ _ = true from by decide +kernel)) rfl rfl pe_int (fun _ _ _ _ _ _ _ _ _ hz => BindsTo.of_defaults rfl hz rfl rfl rfl) (fun A outer s H E f c' hr' => pe_can (E := E) (c_is_wanted T.toTxt) hr' (by decide) (passes_call (takes_of rfl rfl rfl rfl) (fun _ _ _ _ h => h)) rfl (pa_cons pe_int (pa_cons pe_int (pa_cons (pv 5) (pa_cons (pv 5) pa_nil)))))) pa_nil)))) pa_nil)))
 (pss_cons (ps_expr (pe_bm PySem.F.plainAttrs_list PySem.F.slot_list_extend PySem.F.type_list_extend mt_extend (pv 1) (pa_cons (pe_lst (pa_cons (LamX.pe_lamcall (T := [(T.pR, QR)]) (TT := TTheard T.cBadNumber T.cMisfit) (k := 4) rfl hmg Fg.kp lk hcd hbg sc__law_heard rfl (.inl rfl) (heard_gives (X := (cxOf CX0 P w K mg base N__law_refused_right "_law_refused_right" (defScope s__law_refused_right) f (.ref T.cR) A outer s H E).nox) T) T.tR rfl (List.mem_cons_self ..) (fun p hp _ => by rw [List.mem_singleton.mp hp]; rfl) (hr.mono (by decide)) (LamX.lamS_by (show LamX.lamSB (defScope s__law_refused_right) _ = true from by decide +kernel)) rfl (fun _ _ _ _ _ => rfl) (fun A outer s H E f c' hr' => pe_can (E := E) (c_is_wanted T.toTxt) hr' (by decide) (passes_call (takes_of rfl rfl rfl rfl) (fun _ _ _ _ h => h)) rfl (pa_cons pe_int (pa_cons pe_int (pa_cons pe_int (pa_cons pe_int pa_nil)))))) (pa_cons (pe_lamcallP (p := "_law_x5") (T := [(T.pR, QR)]) (TT := TTheard T.cBadNumber T.cMisfit) (k := 4) rfl hmg Fg.kp lk hcd hbg sc__law_heard rfl (.inl rfl) (heard_gives (X := (cxOf CX0 P w K mg base N__law_refused_right "_law_refused_right" (defScope s__law_refused_right) f (.ref T.cR) A outer s H E).nox) T) T.tR rfl (List.mem_cons_self ..) (fun p hp _ => by rw [List.mem_singleton.mp hp]; rfl) (hr.mono (by decide)) (lamP_by (show lamPB N__law_refused_right (defScope s__law_refused_right) _ _ = true from by decide +kernel)) rfl rfl pe_int (fun _ _ _ _ _ _ _ _ _ hz => BindsTo.of_defaults rfl hz rfl rfl rfl) (fun A outer s H E f c' hr' => pe_can (E := E) (c_is_wanted T.toTxt) hr' (by decide) (passes_call (takes_of rfl rfl rfl rfl) (fun _ _ _ _ h => h)) rfl (pa_cons pe_int (pa_cons pe_int (pa_cons (pv 3) (pa_cons pe_int pa_nil)))))) (pa_cons (pe_lamcallP (p := "_law_x6") (T := [(T.pR, QR)]) (TT := TTheard T.cBadNumber T.cMisfit) (k := 4) rfl hmg Fg.kp lk hcd hbg sc__law_heard rfl (.inl rfl) (heard_gives (X := (cxOf CX0 P w K mg base N__law_refused_right "_law_refused_right" (defScope s__law_refused_right) f (.ref T.cR) A outer s H E).nox) T) T.tR rfl (List.mem_cons_self ..) (fun p hp _ => by rw [List.mem_singleton.mp hp]; rfl) (hr.mono (by decide)) (lamP_by (show lamPB N__law_refused_right (defScope s__law_refused_right) _ _ = true from by decide +kernel)) rfl rfl pe_int (fun _ _ _ _ _ _ _ _ _ hz => BindsTo.of_defaults rfl hz rfl rfl rfl) (fun A outer s H E f c' hr' => pe_can (E := E) (c_is_wanted T.toTxt) hr' (by decide) (passes_call (takes_of rfl rfl rfl rfl) (fun _ _ _ _ h => h)) rfl (pa_cons pe_int (pa_cons pe_int (pa_cons pe_int (pa_cons (pv 5) pa_nil)))))) pa_nil)))) pa_nil)))
 (pss_cons (ps_set (i := 4) sc__law_refused_right.nd rfl (Or.inr rfl) (pe_can (E := E0) (c__law_one_of T) hr (by decide) pass0 rfl (pa_cons (pv 0) (pa_cons (pe_lst (pa_cons pe_int (pa_cons pe_int (pa_cons (pe_un un_neg pe_int) (pa_cons pe_int (pa_cons (pe_op op_pow pe_int pe_int) pa_nil)))))) pa_nil))))
 (pss_cons (ps_expr (pe_bm PySem.F.plainAttrs_list PySem.F.slot_list_extend PySem.F.type_list_extend mt_extend (pv 1) (pa_cons (pe_lst (pa_cons (LamX.pe_lamcall (T := [(T.pR, QR)]) (TT := TTheard T.cBadNumber T.cMisfit) (k := 4) rfl hmg Fg.kp lk hcd hbg sc__law_heard rfl (.inl rfl) (heard_gives (X := (cxOf CX0 P w K mg base N__law_refused_right "_law_refused_right" (defScope s__law_refused_right) f (.ref T.cR) A outer s H E).nox) T) T.tR rfl (List.mem_cons_self ..) (fun p hp _ => by rw [List.mem_singleton.mp hp]; rfl) (hr.mono (by decide)) (LamX.lamS_by (show LamX.lamSB (defScope s__law_refused_right) _ = true from by decide +kernel)) rfl (fun _ _ _ _ _ => rfl) (fun A outer s H E f c' hr' => pe_can (E := E) (c_is_wanted T.toTxt) hr' (by decide) (passes_call (takes_of rfl rfl rfl rfl) (fun _ _ _ _ h => h)) rfl (pa_cons pe_int (pa_cons pe_int (pa_cons pe_int (pa_cons (pv 4) pa_nil)))))) (pa_cons (pe_lamcallP (p := "_law_x7") (T := [(T.pR, QR)]) (TT := TTheard T.cBadNumber T.cMisfit) (k := 4) rfl hmg Fg.kp lk hcd hbg sc__law_heard rfl (.inl rfl) (heard_gives (X := (cxOf CX0 P w K mg base N__law_refused_right "_law_refused_right" (defScope s__law_refused_right) f (.ref T.cR) A outer s H E).nox) T) T.tR rfl (List.mem_cons_self ..) (fun p hp _ => by rw [List.mem_singleton.mp hp]; rfl) (hr.mono (by decide)) (lamP_by (show lamPB N__law_refused_right (defScope s__law_refused_right) _ _ = true from by decide +kernel)) rfl rfl pe_int (fun _ _ _ _ _ _ _ _ _ hz => BindsTo.of_defaults rfl hz rfl rfl rfl) (fun A outer s H E f c' hr' => pe_can (E := E) (c_is_wanted T.toTxt) hr' (by decide) (passes_call (takes_of rfl rfl rfl rfl) (fun _ _ _ _ h => h)) rfl (pa_cons pe_int (pa_cons pe_int (pa_cons pe_int (pa_cons pe_int pa_nil)))))) (pa_cons (pe_lamcallP (p := "_law_x8") (T := [(T.pR, QR)]) (TT := TTheard T.cBadNumber T.cMisfit) (k := 4) rfl hmg Fg.kp lk hcd hbg sc__law_heard rfl (.inl rfl) (heard_gives (X := (cxOf CX0 P w K mg base N__law_refused_right "_law_refused_right" (defScope s__law_refused_right) f (.ref T.cR) A outer s H E).nox) T) T.tR rfl (List.mem_cons_self ..) (fun p hp _ => by rw [List.mem_singleton.mp hp]; rfl) (hr.mono (by decide)) (lamP_by (show lamPB N__law_refused_right (defScope s__law_refused_right) _ _ = true from by decide +kernel)) rfl rfl pe_int (fun _ _ _ _ _ _ _ _ _ hz => BindsTo.of_defaults rfl hz rfl rfl rfl) (fun A outer s H E f c' hr' => pe_can (E := E) (c_is_wanted T.toTxt) hr' (by decide) (passes_call (takes_of rfl rfl rfl rfl) (fun _ _ _ _ h => h)) rfl (pa_cons pe_int (pa_cons pe_int (pa_cons pe_int (pa_cons pe_int pa_nil)))))) pa_nil)))) pa_nil)))
 (pss_cons (ps_set (i := 2) sc__law_refused_right.nd rfl (Or.inl rfl) (pe_op op_cat (pe_op op_cat (pe_op op_cat (pe_op op_cat (pe_op op_rep (pe_lst (pa_cons (pe_lst (pa_cons pe_str (pa_cons pe_str pa_nil))) pa_nil)) pe_int) (pe_op op_rep (pe_lst (pa_cons (pe_lst (pa_cons pe_str (pa_cons pe_str pa_nil))) pa_nil)) pe_int)) (pe_op op_rep (pe_lst (pa_cons (pe_lst (pa_cons pe_str (pa_cons pe_str pa_nil))) pa_nil)) pe_int)) (pe_op op_rep (pe_lst (pa_cons (pe_lst (pa_cons pe_str (pa_cons pe_str pa_nil))) pa_nil)) pe_int)) (pe_op op_rep (pe_lst (pa_cons (pe_lst (pa_cons pe_str (pa_cons pe_str pa_nil))) pa_nil)) pe_int)))
 (pss_one (ps_ret (pe_cmpR (op_eqD hr.units) (pv 1) (pv 2) (nomark _))))))))))), ?_⟩
    rw [show L2.start N__law_refused_right [(V.ref c)] = [some (V.ref c), none, none, none, none, none] from rfl]; try dsimp only [cxOf]
    obtain ⟨oc0, hcc⟩ := hc.some
    walk_at "go"
    rename_i p3 e3 p2 e2 p1 e1 p0 e0
    have n3 : p3 ≠ c := Ne.symm (ne_of_none (o := oc0) (by walk_at "hp") e3)
    have n2 : p2 ≠ c := Ne.symm (ne_of_none (o := oc0) (by walk_at "hp") e2)
    have n1 : p1 ≠ c := Ne.symm (ne_of_none (o := oc0) (by walk_at "hp") e1)
    have n0 : p0 ≠ c := Ne.symm (ne_of_none (o := oc0) (by walk_at "hp") e0)
    generalize hH : upd _ p0 _ = H1
    have g1 : Grow H H1 := by rw [← hH]; walk_at "gr"
    have f3 : H1 p3 = some (.lst [.int 1]) := by rw [← hH]; walk_at "hp"
    have f2 : H1 p2 = some (.tup [.int 0]) := by rw [← hH]; walk_at "hp"
    have f1 : H1 p1 = some (.dK []) := by rw [← hH]; walk_at "hp"
    have f0 : ∃ L1, H1 p0 = some (.lst L1) ∧ L1 = [.non, .bl true, .bl false, .str "1", .ref p3, .ref p2, .ref p1] := ⟨_, by rw [← hH]; walk_at "hp", rfl⟩
    clear hH
    obtain ⟨L1, f0, d1⟩ := f0
    have m1 : ∀ x ∈ L1, (Kn K H1 x ∧ x ≠ .ref c) ∧ isInt x = false := by
      intro x hx
      rw [d1] at hx
      simp only [List.mem_cons, List.not_mem_nil, or_false] at hx
      rcases hx with rfl | rfl | rfl | rfl | rfl | rfl | rfl
      all_goals first
        | exact ⟨⟨trivial, nofun⟩, rfl⟩
        | exact ⟨⟨kn_lst f3, fun z => n3 (V.ref.inj z)⟩, rfl⟩
        | exact ⟨⟨kn_tup f2, fun z => n2 (V.ref.inj z)⟩, rfl⟩
        | exact ⟨⟨kn_dK f1, fun z => n1 (V.ref.inj z)⟩, rfl⟩
    have l1 : 0 < L1.length ∧ L1.length < 1000000 := by rw [d1]; exact ⟨by simp, by simp⟩
    have hc1 := hc.grow g1
    have ht1 := ht.ext g1
    clear d1 f3 f2 f1 hc ht hcc e0 e1 e2 e3
    refine ⟨c, n, p0, L1, rfl, hc1, by omega, SqL.of f0, n0, l1.1, l1.2, fun od1 k1 H2 hod hk1 hc2 he2 => ?_⟩
    obtain ⟨⟨q1, q2⟩, q3⟩ := m1 od1 hod
    have ko2 := Kn.ext he2 q2 q1
    have ht2 := tabs_ext ht1 hc1 he2
    clear m1 hod q1 f0 hc1 ht1 he2 g1 n0 n1 n2 n3
    walk_at "go"
    rename_i p4 e4
    refine ⟨c, k1, p4, _, rfl, hc2.new e4, by omega, SqL.of upd_same, hc2.ne e4, by simp, by simp, fun zv k2 H3 hz hk2 hc3 he3 => ?_⟩
    obtain ⟨z, rfl, zn⟩ : ∃ z, zv = .int z ∧ z < 0 := by
      simp only [List.mem_cons, List.not_mem_nil, or_false] at hz
      rcases hz with rfl | rfl
      · exact ⟨_, rfl, by decide⟩
      · exact ⟨_, rfl, by decide⟩
    have ko3 := Kn.ext he3 q2 (ko2.grow (Grow.new e4))
    have ht3 := tabs_ext (ht2.ext (Grow.new e4)) (hc2.new e4) he3
    clear hz he3 hc2 ht2 ko2 e4
    walk_at "go"
    rename_i p5 e5
    have ko := ko3.grow (Grow.new e5 (o := .tup [od1, .int z]))
    have tb := ht3.ext (Grow.new e5 (o := .tup [od1, .int z]))
    have hc := hc3.new e5 (o := .tup [od1, .int z])
    clear ko3 ht3 hc3
    generalize upd H3 p5 (.tup [od1, .int z]) = H4 at ko tb hc ⊢
    clear e5
    refine lam_step (a := od1) (b := od1) (c := od1) (d := od1) (mis := false) (part := "done") tb (fun E H' Q' hq => by walk_at "go"; exact hq) (fun H' e => ⟨ExtN.kn e ko, ExtN.kn e ko, ExtN.kn e ko, ExtN.kn e ko⟩) (bad_done (within_no q3)) (fun G1 l1 en t2 ap f1 => ?_)
    clear tb
    have tb := t2
    clear t2
    replace ko := ExtN.kn en ko
    replace hc := ExtN.cloud en hc
    clear en ap
    walk_at "go"
    refine lam_step (a := (.int z)) (b := (.int 0)) (c := (.int 0)) (d := (.int 3)) (mis := false) (part := "done") tb (fun E H' Q' hq => by walk_at "go"; exact hq) (fun H' e => ⟨trivial, trivial, trivial, trivial⟩) (bad_done (neg_no zn)) (fun G2 l2 en t2 ap f2 => ?_)
    clear tb
    have tb := t2
    clear t2
    replace ko := ExtN.kn en ko
    replace hc := ExtN.cloud en hc
    replace f1 := en _ _ f1 nofun
    clear en ap
    walk_at "go"
    refine lam_step (a := (.int 3)) (b := od1) (c := od1) (d := od1) (mis := false) (part := "has") tb (fun E H' Q' hq => by walk_at "go"; exact hq) (fun H' e => ⟨trivial, ExtN.kn e ko, ExtN.kn e ko, ExtN.kn e ko⟩) (bad_has (within_no q3)) (fun G3 l3 en t2 ap f3 => ?_)
    clear tb
    have tb := t2
    clear t2
    replace ko := ExtN.kn en ko
    replace hc := ExtN.cloud en hc
    replace f1 := en _ _ f1 nofun
    replace f2 := en _ _ f2 nofun
    clear en ap
    walk_at "go"
    rename_i pl np
    have fp : upd G3 pl (.lst [.ref l1, .ref l2, .ref l3]) pl = some (.lst [.ref l1, .ref l2, .ref l3]) := upd_same
    have x : LamX.ExtN G3 (upd G3 pl (.lst [.ref l1, .ref l2, .ref l3])) := LamX.ExtN.of (Grow.new np)
    have b1 : l1 ≠ pl := ne_of_none f1 np
    have b2 : l2 ≠ pl := ne_of_none f2 np
    have b3 : l3 ≠ pl := ne_of_none f3 np
    replace f1 := rd_new np f1 (o := .lst [.ref l1, .ref l2, .ref l3])
    replace f2 := rd_new np f2 (o := .lst [.ref l1, .ref l2, .ref l3])
    replace f3 := rd_new np f3 (o := .lst [.ref l1, .ref l2, .ref l3])
    replace tb := tb.ext (Grow.new np (o := .lst [.ref l1, .ref l2, .ref l3]))
    have kb := ko
    have cb := hc
    clear ko hc
    generalize upd G3 pl (.lst [.ref l1, .ref l2, .ref l3]) = J0 at *
    refine ⟨.ref pl, rfl, .inl ⟨rfl, _, SqL.of fp⟩, ?_⟩
    walk_at "go"
    have ko := ExtN.kn x kb
    have hc := ExtN.cloud x cb
    refine lam_step (a := (.int 3)) (b := (.int 2)) (c := (.int 64)) (d := (.int 3)) (mis := false) (part := "has") tb (fun E H' Q' hq => by walk_at "go"; exact hq) (fun H' e => ⟨trivial, trivial, trivial, trivial⟩) (bad_has rfl) (fun G4 l4 en t2 ap f4 => ?_)
    clear tb
    have tb := t2
    clear t2
    replace ko := ExtN.kn en ko
    replace hc := ExtN.cloud en hc
    replace f1 := en _ _ f1 nofun
    replace f2 := en _ _ f2 nofun
    replace f3 := en _ _ f3 nofun
    have b4 := Ne.symm (ap _ _ fp)
    replace fp := en _ _ fp nofun
    replace x := x.trans en
    clear en ap
    walk_at "go"
    refine lam_step (a := (.int 3)) (b := (.int z)) (c := (.int 0)) (d := (.int 3)) (mis := false) (part := "has") tb (fun E H' Q' hq => by walk_at "go"; exact hq) (fun H' e => ⟨trivial, trivial, trivial, trivial⟩) (bad_has (neg_no zn)) (fun G5 l5 en t2 ap f5 => ?_)
    clear tb
    have tb := t2
    clear t2
    replace ko := ExtN.kn en ko
    replace hc := ExtN.cloud en hc
    replace f1 := en _ _ f1 nofun
    replace f2 := en _ _ f2 nofun
    replace f3 := en _ _ f3 nofun
    replace f4 := en _ _ f4 nofun
    have b5 := Ne.symm (ap _ _ fp)
    replace fp := en _ _ fp nofun
    replace x := x.trans en
    clear en ap
    walk_at "go"
    refine lam_step (a := (.int 3)) (b := (.int 0)) (c := od1) (d := od1) (mis := false) (part := "number") tb (fun E H' Q' hq => by walk_at "go"; exact hq) (fun H' e => ⟨trivial, trivial, ExtN.kn e ko, ExtN.kn e ko⟩) (bad_number (within_no q3)) (fun G6 l6 en t2 ap f6 => ?_)
    clear tb
    have tb := t2
    clear t2
    replace ko := ExtN.kn en ko
    replace hc := ExtN.cloud en hc
    replace f1 := en _ _ f1 nofun
    replace f2 := en _ _ f2 nofun
    replace f3 := en _ _ f3 nofun
    replace f4 := en _ _ f4 nofun
    replace f5 := en _ _ f5 nofun
    have b6 := Ne.symm (ap _ _ fp)
    replace fp := en _ _ fp nofun
    replace x := x.trans en
    clear en ap
    walk_at "go"
    rename_i z1 nz
    have bz : pl ≠ z1 := ne_of_none fp nz
    refine ⟨pl, z1, _, _, rfl, rfl, rd_new nz fp, upd_same, (by show 3 + 3 ≤ sizeLine; decide), ?_⟩
    replace f1 : upd (upd G6 z1 (.lst [.ref l4, .ref l5, .ref l6])) pl (.lst [.ref l1, .ref l2, .ref l3, .ref l4, .ref l5, .ref l6]) l1 = some (.lst [.str (kindOf false), .str "done"]) := by rw [upd_ne b1]; exact rd_new nz f1
    replace f2 : upd (upd G6 z1 (.lst [.ref l4, .ref l5, .ref l6])) pl (.lst [.ref l1, .ref l2, .ref l3, .ref l4, .ref l5, .ref l6]) l2 = some (.lst [.str (kindOf false), .str "done"]) := by rw [upd_ne b2]; exact rd_new nz f2
    replace f3 : upd (upd G6 z1 (.lst [.ref l4, .ref l5, .ref l6])) pl (.lst [.ref l1, .ref l2, .ref l3, .ref l4, .ref l5, .ref l6]) l3 = some (.lst [.str (kindOf false), .str "has"]) := by rw [upd_ne b3]; exact rd_new nz f3
    replace f4 : upd (upd G6 z1 (.lst [.ref l4, .ref l5, .ref l6])) pl (.lst [.ref l1, .ref l2, .ref l3, .ref l4, .ref l5, .ref l6]) l4 = some (.lst [.str (kindOf false), .str "has"]) := by rw [upd_ne b4]; exact rd_new nz f4
    replace f5 : upd (upd G6 z1 (.lst [.ref l4, .ref l5, .ref l6])) pl (.lst [.ref l1, .ref l2, .ref l3, .ref l4, .ref l5, .ref l6]) l5 = some (.lst [.str (kindOf false), .str "has"]) := by rw [upd_ne b5]; exact rd_new nz f5
    replace f6 : upd (upd G6 z1 (.lst [.ref l4, .ref l5, .ref l6])) pl (.lst [.ref l1, .ref l2, .ref l3, .ref l4, .ref l5, .ref l6]) l6 = some (.lst [.str (kindOf false), .str "number"]) := by rw [upd_ne b6]; exact rd_new nz f6
    replace tb := tabs_upd (o := .lst [.ref l1, .ref l2, .ref l3, .ref l4, .ref l5, .ref l6]) (tb.ext (Grow.new nz (o := .lst [.ref l4, .ref l5, .ref l6]))) (rd_new nz fp)
    replace x : LamX.ExtN G3 (upd (upd G6 z1 (.lst [.ref l4, .ref l5, .ref l6])) pl (.lst [.ref l1, .ref l2, .ref l3, .ref l4, .ref l5, .ref l6])) := fun b o hb hn => by
      rw [upd_ne (ne_of_none hb np)]
      exact rd_new nz (x b o hb hn)
    replace fp : upd (upd G6 z1 (.lst [.ref l4, .ref l5, .ref l6])) pl (.lst [.ref l1, .ref l2, .ref l3, .ref l4, .ref l5, .ref l6]) pl = some (.lst [.ref l1, .ref l2, .ref l3, .ref l4, .ref l5, .ref l6]) := upd_same
    clear nz bz ko hc
    dsimp only [List.cons_append, List.nil_append]
    generalize upd (upd G6 z1 (.lst [.ref l4, .ref l5, .ref l6])) pl (.lst [.ref l1, .ref l2, .ref l3, .ref l4, .ref l5, .ref l6]) = J1 at *
    walk_at "go"
    refine ⟨.ref pl, rfl, .inl ⟨rfl, _, SqL.of fp⟩, ?_⟩
    walk_at "go"
    have ko := ExtN.kn x kb
    have hc := ExtN.cloud x cb
    refine lam_step (a := (.int 3)) (b := (.int 0)) (c := (.int 64)) (d := (.int 1)) (mis := false) (part := "number") tb (fun E H' Q' hq => by walk_at "go"; exact hq) (fun H' e => ⟨trivial, trivial, trivial, trivial⟩) (bad_number rfl) (fun G7 l7 en t2 ap f7 => ?_)
    clear tb
    have tb := t2
    clear t2
    replace ko := ExtN.kn en ko
    replace hc := ExtN.cloud en hc
    replace f1 := en _ _ f1 nofun
    replace f2 := en _ _ f2 nofun
    replace f3 := en _ _ f3 nofun
    replace f4 := en _ _ f4 nofun
    replace f5 := en _ _ f5 nofun
    replace f6 := en _ _ f6 nofun
    have b7 := Ne.symm (ap _ _ fp)
    replace fp := en _ _ fp nofun
    replace x := x.trans en
    clear en ap
    walk_at "go"
    refine lam_step (a := (.int 3)) (b := (.int 0)) (c := (.int z)) (d := (.int 65)) (mis := false) (part := "number") tb (fun E H' Q' hq => by walk_at "go"; exact hq) (fun H' e => ⟨trivial, trivial, trivial, trivial⟩) (bad_number (neg_no zn)) (fun G8 l8 en t2 ap f8 => ?_)
    clear tb
    have tb := t2
    clear t2
    replace ko := ExtN.kn en ko
    replace hc := ExtN.cloud en hc
    replace f1 := en _ _ f1 nofun
    replace f2 := en _ _ f2 nofun
    replace f3 := en _ _ f3 nofun
    replace f4 := en _ _ f4 nofun
    replace f5 := en _ _ f5 nofun
    replace f6 := en _ _ f6 nofun
    replace f7 := en _ _ f7 nofun
    have b8 := Ne.symm (ap _ _ fp)
    replace fp := en _ _ fp nofun
    replace x := x.trans en
    clear en ap
    walk_at "go"
    refine lam_step (a := (.int 3)) (b := (.int 0)) (c := (.int 1)) (d := od1) (mis := false) (part := "m") tb (fun E H' Q' hq => by walk_at "go"; exact hq) (fun H' e => ⟨trivial, trivial, trivial, ExtN.kn e ko⟩) (bad_m rfl (within_no q3)) (fun G9 l9 en t2 ap f9 => ?_)
    clear tb
    have tb := t2
    clear t2
    replace ko := ExtN.kn en ko
    replace hc := ExtN.cloud en hc
    replace f1 := en _ _ f1 nofun
    replace f2 := en _ _ f2 nofun
    replace f3 := en _ _ f3 nofun
    replace f4 := en _ _ f4 nofun
    replace f5 := en _ _ f5 nofun
    replace f6 := en _ _ f6 nofun
    replace f7 := en _ _ f7 nofun
    replace f8 := en _ _ f8 nofun
    have b9 := Ne.symm (ap _ _ fp)
    replace fp := en _ _ fp nofun
    replace x := x.trans en
    clear en ap
    walk_at "go"
    rename_i z2 nz
    have bz : pl ≠ z2 := ne_of_none fp nz
    refine ⟨pl, z2, _, _, rfl, rfl, rd_new nz fp, upd_same, (by show 6 + 3 ≤ sizeLine; decide), ?_⟩
    replace f1 : upd (upd G9 z2 (.lst [.ref l7, .ref l8, .ref l9])) pl (.lst [.ref l1, .ref l2, .ref l3, .ref l4, .ref l5, .ref l6, .ref l7, .ref l8, .ref l9]) l1 = some (.lst [.str (kindOf false), .str "done"]) := by rw [upd_ne b1]; exact rd_new nz f1
    replace f2 : upd (upd G9 z2 (.lst [.ref l7, .ref l8, .ref l9])) pl (.lst [.ref l1, .ref l2, .ref l3, .ref l4, .ref l5, .ref l6, .ref l7, .ref l8, .ref l9]) l2 = some (.lst [.str (kindOf false), .str "done"]) := by rw [upd_ne b2]; exact rd_new nz f2
    replace f3 : upd (upd G9 z2 (.lst [.ref l7, .ref l8, .ref l9])) pl (.lst [.ref l1, .ref l2, .ref l3, .ref l4, .ref l5, .ref l6, .ref l7, .ref l8, .ref l9]) l3 = some (.lst [.str (kindOf false), .str "has"]) := by rw [upd_ne b3]; exact rd_new nz f3
    replace f4 : upd (upd G9 z2 (.lst [.ref l7, .ref l8, .ref l9])) pl (.lst [.ref l1, .ref l2, .ref l3, .ref l4, .ref l5, .ref l6, .ref l7, .ref l8, .ref l9]) l4 = some (.lst [.str (kindOf false), .str "has"]) := by rw [upd_ne b4]; exact rd_new nz f4
    replace f5 : upd (upd G9 z2 (.lst [.ref l7, .ref l8, .ref l9])) pl (.lst [.ref l1, .ref l2, .ref l3, .ref l4, .ref l5, .ref l6, .ref l7, .ref l8, .ref l9]) l5 = some (.lst [.str (kindOf false), .str "has"]) := by rw [upd_ne b5]; exact rd_new nz f5
    replace f6 : upd (upd G9 z2 (.lst [.ref l7, .ref l8, .ref l9])) pl (.lst [.ref l1, .ref l2, .ref l3, .ref l4, .ref l5, .ref l6, .ref l7, .ref l8, .ref l9]) l6 = some (.lst [.str (kindOf false), .str "number"]) := by rw [upd_ne b6]; exact rd_new nz f6
    replace f7 : upd (upd G9 z2 (.lst [.ref l7, .ref l8, .ref l9])) pl (.lst [.ref l1, .ref l2, .ref l3, .ref l4, .ref l5, .ref l6, .ref l7, .ref l8, .ref l9]) l7 = some (.lst [.str (kindOf false), .str "number"]) := by rw [upd_ne b7]; exact rd_new nz f7
    replace f8 : upd (upd G9 z2 (.lst [.ref l7, .ref l8, .ref l9])) pl (.lst [.ref l1, .ref l2, .ref l3, .ref l4, .ref l5, .ref l6, .ref l7, .ref l8, .ref l9]) l8 = some (.lst [.str (kindOf false), .str "number"]) := by rw [upd_ne b8]; exact rd_new nz f8
    replace f9 : upd (upd G9 z2 (.lst [.ref l7, .ref l8, .ref l9])) pl (.lst [.ref l1, .ref l2, .ref l3, .ref l4, .ref l5, .ref l6, .ref l7, .ref l8, .ref l9]) l9 = some (.lst [.str (kindOf false), .str "m"]) := by rw [upd_ne b9]; exact rd_new nz f9
    replace tb := tabs_upd (o := .lst [.ref l1, .ref l2, .ref l3, .ref l4, .ref l5, .ref l6, .ref l7, .ref l8, .ref l9]) (tb.ext (Grow.new nz (o := .lst [.ref l7, .ref l8, .ref l9]))) (rd_new nz fp)
    replace x : LamX.ExtN G3 (upd (upd G9 z2 (.lst [.ref l7, .ref l8, .ref l9])) pl (.lst [.ref l1, .ref l2, .ref l3, .ref l4, .ref l5, .ref l6, .ref l7, .ref l8, .ref l9])) := fun b o hb hn => by
      rw [upd_ne (ne_of_none hb np)]
      exact rd_new nz (x b o hb hn)
    replace fp : upd (upd G9 z2 (.lst [.ref l7, .ref l8, .ref l9])) pl (.lst [.ref l1, .ref l2, .ref l3, .ref l4, .ref l5, .ref l6, .ref l7, .ref l8, .ref l9]) pl = some (.lst [.ref l1, .ref l2, .ref l3, .ref l4, .ref l5, .ref l6, .ref l7, .ref l8, .ref l9]) := upd_same
    clear nz bz ko hc
    dsimp only [List.cons_append, List.nil_append]
    generalize upd (upd G9 z2 (.lst [.ref l7, .ref l8, .ref l9])) pl (.lst [.ref l1, .ref l2, .ref l3, .ref l4, .ref l5, .ref l6, .ref l7, .ref l8, .ref l9]) = J2 at *
    walk_at "go"
    rename_i p6 e6
    have hc := ExtN.cloud x cb
    have pc : pl ≠ c := cb.ne np
    obtain ⟨lc, cells, rest, cc, _, _⟩ := hc
    have hc := ExtN.cloud x cb
    refine ⟨c, k2, p6, _, rfl, hc.new e6, by omega, SqL.of upd_same, hc.ne e6, by simp, by simp, fun lv k3 H6 hl hk3 hc6 he6 => ?_⟩
    obtain ⟨lw, rfl, low⟩ : ∃ lw, lv = .int lw ∧ within (.int lw) (.int 2) (.int 64) = false := by
      simp only [List.mem_cons, List.not_mem_nil, or_false] at hl
      rcases hl with rfl | rfl | rfl | rfl | rfl <;> exact ⟨_, rfl, rfl⟩
    replace f1 := he6 _ _ (fun z => by rw [z, cc] at f1; cases f1) (rd_new e6 f1)
    replace f2 := he6 _ _ (fun z => by rw [z, cc] at f2; cases f2) (rd_new e6 f2)
    replace f3 := he6 _ _ (fun z => by rw [z, cc] at f3; cases f3) (rd_new e6 f3)
    replace f4 := he6 _ _ (fun z => by rw [z, cc] at f4; cases f4) (rd_new e6 f4)
    replace f5 := he6 _ _ (fun z => by rw [z, cc] at f5; cases f5) (rd_new e6 f5)
    replace f6 := he6 _ _ (fun z => by rw [z, cc] at f6; cases f6) (rd_new e6 f6)
    replace f7 := he6 _ _ (fun z => by rw [z, cc] at f7; cases f7) (rd_new e6 f7)
    replace f8 := he6 _ _ (fun z => by rw [z, cc] at f8; cases f8) (rd_new e6 f8)
    replace f9 := he6 _ _ (fun z => by rw [z, cc] at f9; cases f9) (rd_new e6 f9)
    replace fp := he6 _ _ pc (rd_new e6 fp)
    replace tb := tabs_ext (tb.ext (Grow.new e6)) (hc.new e6) he6
    clear hc hc6 he6 e6 hl cc x cb kb np
    walk_at "go"
    refine ⟨.ref pl, rfl, .inl ⟨rfl, _, SqL.of fp⟩, ?_⟩
    walk_at "go"
    refine lam_step (a := (.int 3)) (b := (.int 0)) (c := (.int 63)) (d := (.int lw)) (mis := false) (part := "m") tb (fun E H' Q' hq => by walk_at "go"; exact hq) (fun H' e => ⟨trivial, trivial, trivial, trivial⟩) (bad_m rfl low) (fun G10 l10 en t2 ap f10 => ?_)
    clear tb
    have tb := t2
    clear t2
    replace f1 := en _ _ f1 nofun
    replace f2 := en _ _ f2 nofun
    replace f3 := en _ _ f3 nofun
    replace f4 := en _ _ f4 nofun
    replace f5 := en _ _ f5 nofun
    replace f6 := en _ _ f6 nofun
    replace f7 := en _ _ f7 nofun
    replace f8 := en _ _ f8 nofun
    replace f9 := en _ _ f9 nofun
    have b10 := Ne.symm (ap _ _ fp)
    replace fp := en _ _ fp nofun
    clear en ap
    walk_at "go"
    refine lam_step (a := (.int 3)) (b := (.int 0)) (c := (.int 63)) (d := (.int 63)) (mis := true) (part := "number") tb (fun E H' Q' hq => by walk_at "go"; exact hq) (fun H' e => ⟨trivial, trivial, trivial, trivial⟩) (rfl) (fun G11 l11 en t2 ap f11 => ?_)
    clear tb
    have tb := t2
    clear t2
    replace f1 := en _ _ f1 nofun
    replace f2 := en _ _ f2 nofun
    replace f3 := en _ _ f3 nofun
    replace f4 := en _ _ f4 nofun
    replace f5 := en _ _ f5 nofun
    replace f6 := en _ _ f6 nofun
    replace f7 := en _ _ f7 nofun
    replace f8 := en _ _ f8 nofun
    replace f9 := en _ _ f9 nofun
    replace f10 := en _ _ f10 nofun
    have b11 := Ne.symm (ap _ _ fp)
    replace fp := en _ _ fp nofun
    clear en ap
    walk_at "go"
    refine lam_step (a := (.int 3)) (b := (.int 1)) (c := (.int 2)) (d := (.int 2)) (mis := true) (part := "number") tb (fun E H' Q' hq => by walk_at "go"; exact hq) (fun H' e => ⟨trivial, trivial, trivial, trivial⟩) (rfl) (fun G12 l12 en t2 ap f12 => ?_)
    clear tb
    have tb := t2
    clear t2
    replace f1 := en _ _ f1 nofun
    replace f2 := en _ _ f2 nofun
    replace f3 := en _ _ f3 nofun
    replace f4 := en _ _ f4 nofun
    replace f5 := en _ _ f5 nofun
    replace f6 := en _ _ f6 nofun
    replace f7 := en _ _ f7 nofun
    replace f8 := en _ _ f8 nofun
    replace f9 := en _ _ f9 nofun
    replace f10 := en _ _ f10 nofun
    replace f11 := en _ _ f11 nofun
    have b12 := Ne.symm (ap _ _ fp)
    replace fp := en _ _ fp nofun
    clear en ap
    walk_at "go"
    rename_i z3 nz
    have bz : pl ≠ z3 := ne_of_none fp nz
    refine ⟨pl, z3, _, _, rfl, rfl, rd_new nz fp, upd_same, (by show 9 + 3 ≤ sizeLine; decide), ?_⟩
    replace f1 : upd (upd G12 z3 (.lst [.ref l10, .ref l11, .ref l12])) pl (.lst [.ref l1, .ref l2, .ref l3, .ref l4, .ref l5, .ref l6, .ref l7, .ref l8, .ref l9, .ref l10, .ref l11, .ref l12]) l1 = some (.lst [.str (kindOf false), .str "done"]) := by rw [upd_ne b1]; exact rd_new nz f1
    replace f2 : upd (upd G12 z3 (.lst [.ref l10, .ref l11, .ref l12])) pl (.lst [.ref l1, .ref l2, .ref l3, .ref l4, .ref l5, .ref l6, .ref l7, .ref l8, .ref l9, .ref l10, .ref l11, .ref l12]) l2 = some (.lst [.str (kindOf false), .str "done"]) := by rw [upd_ne b2]; exact rd_new nz f2
    replace f3 : upd (upd G12 z3 (.lst [.ref l10, .ref l11, .ref l12])) pl (.lst [.ref l1, .ref l2, .ref l3, .ref l4, .ref l5, .ref l6, .ref l7, .ref l8, .ref l9, .ref l10, .ref l11, .ref l12]) l3 = some (.lst [.str (kindOf false), .str "has"]) := by rw [upd_ne b3]; exact rd_new nz f3
    replace f4 : upd (upd G12 z3 (.lst [.ref l10, .ref l11, .ref l12])) pl (.lst [.ref l1, .ref l2, .ref l3, .ref l4, .ref l5, .ref l6, .ref l7, .ref l8, .ref l9, .ref l10, .ref l11, .ref l12]) l4 = some (.lst [.str (kindOf false), .str "has"]) := by rw [upd_ne b4]; exact rd_new nz f4
    replace f5 : upd (upd G12 z3 (.lst [.ref l10, .ref l11, .ref l12])) pl (.lst [.ref l1, .ref l2, .ref l3, .ref l4, .ref l5, .ref l6, .ref l7, .ref l8, .ref l9, .ref l10, .ref l11, .ref l12]) l5 = some (.lst [.str (kindOf false), .str "has"]) := by rw [upd_ne b5]; exact rd_new nz f5
    replace f6 : upd (upd G12 z3 (.lst [.ref l10, .ref l11, .ref l12])) pl (.lst [.ref l1, .ref l2, .ref l3, .ref l4, .ref l5, .ref l6, .ref l7, .ref l8, .ref l9, .ref l10, .ref l11, .ref l12]) l6 = some (.lst [.str (kindOf false), .str "number"]) := by rw [upd_ne b6]; exact rd_new nz f6
    replace f7 : upd (upd G12 z3 (.lst [.ref l10, .ref l11, .ref l12])) pl (.lst [.ref l1, .ref l2, .ref l3, .ref l4, .ref l5, .ref l6, .ref l7, .ref l8, .ref l9, .ref l10, .ref l11, .ref l12]) l7 = some (.lst [.str (kindOf false), .str "number"]) := by rw [upd_ne b7]; exact rd_new nz f7
    replace f8 : upd (upd G12 z3 (.lst [.ref l10, .ref l11, .ref l12])) pl (.lst [.ref l1, .ref l2, .ref l3, .ref l4, .ref l5, .ref l6, .ref l7, .ref l8, .ref l9, .ref l10, .ref l11, .ref l12]) l8 = some (.lst [.str (kindOf false), .str "number"]) := by rw [upd_ne b8]; exact rd_new nz f8
    replace f9 : upd (upd G12 z3 (.lst [.ref l10, .ref l11, .ref l12])) pl (.lst [.ref l1, .ref l2, .ref l3, .ref l4, .ref l5, .ref l6, .ref l7, .ref l8, .ref l9, .ref l10, .ref l11, .ref l12]) l9 = some (.lst [.str (kindOf false), .str "m"]) := by rw [upd_ne b9]; exact rd_new nz f9
    replace f10 : upd (upd G12 z3 (.lst [.ref l10, .ref l11, .ref l12])) pl (.lst [.ref l1, .ref l2, .ref l3, .ref l4, .ref l5, .ref l6, .ref l7, .ref l8, .ref l9, .ref l10, .ref l11, .ref l12]) l10 = some (.lst [.str (kindOf false), .str "m"]) := by rw [upd_ne b10]; exact rd_new nz f10
    replace f11 : upd (upd G12 z3 (.lst [.ref l10, .ref l11, .ref l12])) pl (.lst [.ref l1, .ref l2, .ref l3, .ref l4, .ref l5, .ref l6, .ref l7, .ref l8, .ref l9, .ref l10, .ref l11, .ref l12]) l11 = some (.lst [.str (kindOf true), .str "number"]) := by rw [upd_ne b11]; exact rd_new nz f11
    replace f12 : upd (upd G12 z3 (.lst [.ref l10, .ref l11, .ref l12])) pl (.lst [.ref l1, .ref l2, .ref l3, .ref l4, .ref l5, .ref l6, .ref l7, .ref l8, .ref l9, .ref l10, .ref l11, .ref l12]) l12 = some (.lst [.str (kindOf true), .str "number"]) := by rw [upd_ne b12]; exact rd_new nz f12
    replace tb := tabs_upd (o := .lst [.ref l1, .ref l2, .ref l3, .ref l4, .ref l5, .ref l6, .ref l7, .ref l8, .ref l9, .ref l10, .ref l11, .ref l12]) (tb.ext (Grow.new nz (o := .lst [.ref l10, .ref l11, .ref l12]))) (rd_new nz fp)
    replace fp : upd (upd G12 z3 (.lst [.ref l10, .ref l11, .ref l12])) pl (.lst [.ref l1, .ref l2, .ref l3, .ref l4, .ref l5, .ref l6, .ref l7, .ref l8, .ref l9, .ref l10, .ref l11, .ref l12]) pl = some (.lst [.ref l1, .ref l2, .ref l3, .ref l4, .ref l5, .ref l6, .ref l7, .ref l8, .ref l9, .ref l10, .ref l11, .ref l12]) := upd_same
    clear nz bz
    dsimp only [List.cons_append, List.nil_append]
    generalize upd (upd G12 z3 (.lst [.ref l10, .ref l11, .ref l12])) pl (.lst [.ref l1, .ref l2, .ref l3, .ref l4, .ref l5, .ref l6, .ref l7, .ref l8, .ref l9, .ref l10, .ref l11, .ref l12]) = J3 at *
    walk_at "go"
    rename_i q1 eq1 o1 eo1
    refine w_rep upd_same (by decide) (by decide) (by show 1 * 2 ≤ sizeLine; decide) (fun r1 er1 => ?_)
    generalize hM : upd _ r1 _ = M1
    have y1 : M1 q1 = some (.lst [.str "number", .str "done"]) := by rw [← hM]; walk_at "hp"
    have w1 : M1 r1 = some (.lst [.ref q1, .ref q1]) := by rw [← hM]; exact upd_same
    have gM : Grow J3 M1 := by rw [← hM]; walk_at "gr"
    clear hM
    walk_at "go"
    rename_i q2 eq2 o2 eo2
    refine w_rep upd_same (by decide) (by decide) (by show 1 * 3 ≤ sizeLine; decide) (fun r2 er2 => ?_)
    refine w_cat (by walk_at "hp") upd_same (by show 2 + 3 ≤ sizeLine; decide) (fun c2 ec2 => ?_)
    generalize hM : upd _ c2 _ = M2
    replace y1 : M2 q1 = some (.lst [.str "number", .str "done"]) := by rw [← hM]; walk_at "hp"
    have y2 : M2 q2 = some (.lst [.str "number", .str "has"]) := by rw [← hM]; walk_at "hp"
    have w2 : M2 c2 = some (.lst [.ref q1, .ref q1, .ref q2, .ref q2, .ref q2]) := by rw [← hM]; exact upd_same
    replace gM : Grow J3 M2 := by rw [← hM]; walk_at "gr"
    clear hM
    walk_at "go"
    rename_i q3 eq3 o3 eo3
    refine w_rep upd_same (by decide) (by decide) (by show 1 * 3 ≤ sizeLine; decide) (fun r3 er3 => ?_)
    refine w_cat (by walk_at "hp") upd_same (by show 5 + 3 ≤ sizeLine; decide) (fun c3 ec3 => ?_)
    generalize hM : upd _ c3 _ = M3
    replace y1 : M3 q1 = some (.lst [.str "number", .str "done"]) := by rw [← hM]; walk_at "hp"
    replace y2 : M3 q2 = some (.lst [.str "number", .str "has"]) := by rw [← hM]; walk_at "hp"
    have y3 : M3 q3 = some (.lst [.str "number", .str "number"]) := by rw [← hM]; walk_at "hp"
    have w3 : M3 c3 = some (.lst [.ref q1, .ref q1, .ref q2, .ref q2, .ref q2, .ref q3, .ref q3, .ref q3]) := by rw [← hM]; exact upd_same
    replace gM : Grow J3 M3 := by rw [← hM]; walk_at "gr"
    clear hM
    walk_at "go"
    rename_i q4 eq4 o4 eo4
    refine w_rep upd_same (by decide) (by decide) (by show 1 * 2 ≤ sizeLine; decide) (fun r4 er4 => ?_)
    refine w_cat (by walk_at "hp") upd_same (by show 8 + 2 ≤ sizeLine; decide) (fun c4 ec4 => ?_)
    generalize hM : upd _ c4 _ = M4
    replace y1 : M4 q1 = some (.lst [.str "number", .str "done"]) := by rw [← hM]; walk_at "hp"
    replace y2 : M4 q2 = some (.lst [.str "number", .str "has"]) := by rw [← hM]; walk_at "hp"
    replace y3 : M4 q3 = some (.lst [.str "number", .str "number"]) := by rw [← hM]; walk_at "hp"
    have y4 : M4 q4 = some (.lst [.str "number", .str "m"]) := by rw [← hM]; walk_at "hp"
    have w4 : M4 c4 = some (.lst [.ref q1, .ref q1, .ref q2, .ref q2, .ref q2, .ref q3, .ref q3, .ref q3, .ref q4, .ref q4]) := by rw [← hM]; exact upd_same
    replace gM : Grow J3 M4 := by rw [← hM]; walk_at "gr"
    clear hM
    walk_at "go"
    rename_i q5 eq5 o5 eo5
    refine w_rep upd_same (by decide) (by decide) (by show 1 * 2 ≤ sizeLine; decide) (fun r5 er5 => ?_)
    refine w_cat (by walk_at "hp") upd_same (by show 10 + 2 ≤ sizeLine; decide) (fun c5 ec5 => ?_)
    generalize hM : upd _ c5 _ = M5
    replace y1 : M5 q1 = some (.lst [.str "number", .str "done"]) := by rw [← hM]; walk_at "hp"
    replace y2 : M5 q2 = some (.lst [.str "number", .str "has"]) := by rw [← hM]; walk_at "hp"
    replace y3 : M5 q3 = some (.lst [.str "number", .str "number"]) := by rw [← hM]; walk_at "hp"
    replace y4 : M5 q4 = some (.lst [.str "number", .str "m"]) := by rw [← hM]; walk_at "hp"
    have y5 : M5 q5 = some (.lst [.str "misfit", .str "number"]) := by rw [← hM]; walk_at "hp"
    have w5 : M5 c5 = some (.lst [.ref q1, .ref q1, .ref q2, .ref q2, .ref q2, .ref q3, .ref q3, .ref q3, .ref q4, .ref q4, .ref q5, .ref q5]) := by rw [← hM]; exact upd_same
    replace gM : Grow J3 M5 := by rw [← hM]; walk_at "gr"
    clear hM
    walk_at "go"
    replace f1 := gM _ _ f1
    rw [kf] at f1
    replace f2 := gM _ _ f2
    rw [kf] at f2
    replace f3 := gM _ _ f3
    rw [kf] at f3
    replace f4 := gM _ _ f4
    rw [kf] at f4
    replace f5 := gM _ _ f5
    rw [kf] at f5
    replace f6 := gM _ _ f6
    rw [kf] at f6
    replace f7 := gM _ _ f7
    rw [kf] at f7
    replace f8 := gM _ _ f8
    rw [kf] at f8
    replace f9 := gM _ _ f9
    rw [kf] at f9
    replace f10 := gM _ _ f10
    rw [kf] at f10
    replace f11 := gM _ _ f11
    rw [kt] at f11
    replace f12 := gM _ _ f12
    rw [kt] at f12
    replace fp := gM _ _ fp
    have dh : Dp K M5 (.ref pl) (.list [.list [.str "number", .str "done"], .list [.str "number", .str "done"], .list [.str "number", .str "has"], .list [.str "number", .str "has"], .list [.str "number", .str "has"], .list [.str "number", .str "number"], .list [.str "number", .str "number"], .list [.str "number", .str "number"], .list [.str "number", .str "m"], .list [.str "number", .str "m"], .list [.str "misfit", .str "number"], .list [.str "misfit", .str "number"]]) := .lst (SqL.of fp) (.cons (.lst (SqL.of f1) (.cons (.str _) (.cons (.str _) .nil))) (.cons (.lst (SqL.of f2) (.cons (.str _) (.cons (.str _) .nil))) (.cons (.lst (SqL.of f3) (.cons (.str _) (.cons (.str _) .nil))) (.cons (.lst (SqL.of f4) (.cons (.str _) (.cons (.str _) .nil))) (.cons (.lst (SqL.of f5) (.cons (.str _) (.cons (.str _) .nil))) (.cons (.lst (SqL.of f6) (.cons (.str _) (.cons (.str _) .nil))) (.cons (.lst (SqL.of f7) (.cons (.str _) (.cons (.str _) .nil))) (.cons (.lst (SqL.of f8) (.cons (.str _) (.cons (.str _) .nil))) (.cons (.lst (SqL.of f9) (.cons (.str _) (.cons (.str _) .nil))) (.cons (.lst (SqL.of f10) (.cons (.str _) (.cons (.str _) .nil))) (.cons (.lst (SqL.of f11) (.cons (.str _) (.cons (.str _) .nil))) (.cons (.lst (SqL.of f12) (.cons (.str _) (.cons (.str _) .nil))) .nil))))))))))))
    have dd : Dp K M5 (.ref c5) (.list [.list [.str "number", .str "done"], .list [.str "number", .str "done"], .list [.str "number", .str "has"], .list [.str "number", .str "has"], .list [.str "number", .str "has"], .list [.str "number", .str "number"], .list [.str "number", .str "number"], .list [.str "number", .str "number"], .list [.str "number", .str "m"], .list [.str "number", .str "m"], .list [.str "misfit", .str "number"], .list [.str "misfit", .str "number"]]) := .lst (SqL.of w5) (.cons (.lst (SqL.of y1) (.cons (.str _) (.cons (.str _) .nil))) (.cons (.lst (SqL.of y1) (.cons (.str _) (.cons (.str _) .nil))) (.cons (.lst (SqL.of y2) (.cons (.str _) (.cons (.str _) .nil))) (.cons (.lst (SqL.of y2) (.cons (.str _) (.cons (.str _) .nil))) (.cons (.lst (SqL.of y2) (.cons (.str _) (.cons (.str _) .nil))) (.cons (.lst (SqL.of y3) (.cons (.str _) (.cons (.str _) .nil))) (.cons (.lst (SqL.of y3) (.cons (.str _) (.cons (.str _) .nil))) (.cons (.lst (SqL.of y3) (.cons (.str _) (.cons (.str _) .nil))) (.cons (.lst (SqL.of y4) (.cons (.str _) (.cons (.str _) .nil))) (.cons (.lst (SqL.of y4) (.cons (.str _) (.cons (.str _) .nil))) (.cons (.lst (SqL.of y5) (.cons (.str _) (.cons (.str _) .nil))) (.cons (.lst (SqL.of y5) (.cons (.str _) (.cons (.str _) .nil))) .nil))))))))))))
    refine ⟨_, _, dh, dd, by decide +kernel, by decide +kernel, ?_⟩
    rw [show PyData.eqv (.list [.list [.str "number", .str "done"], .list [.str "number", .str "done"], .list [.str "number", .str "has"], .list [.str "number", .str "has"], .list [.str "number", .str "has"], .list [.str "number", .str "number"], .list [.str "number", .str "number"], .list [.str "number", .str "number"], .list [.str "number", .str "m"], .list [.str "number", .str "m"], .list [.str "misfit", .str "number"], .list [.str "misfit", .str "number"]]) (.list [.list [.str "number", .str "done"], .list [.str "number", .str "done"], .list [.str "number", .str "has"], .list [.str "number", .str "has"], .list [.str "number", .str "has"], .list [.str "number", .str "number"], .list [.str "number", .str "number"], .list [.str "number", .str "number"], .list [.str "number", .str "m"], .list [.str "number", .str "m"], .list [.str "misfit", .str "number"], .list [.str "misfit", .str "number"]]) = true from by decide +kernel]
    walk_at "go"
    exact k _
theorem c__law_refused_right (T : TxtL P w K mg base) : Can P w K mg base CX0 7 "_law_refused_right" ["_law_pen_here"] (spRefused K T.pR) := T.d__law_refused_right.can fun f fd F e => ok__law_refused_right T F e
end
end K35

set_option maxRecDepth 100000
set_option maxHeartbeats 4000000
namespace K35
open PySem L2 FW PyProof.Rows
local macro_rules | `(tactic| walk_at "side") => `(tactic| first
  | omega
  | exact ⟨by omega, by omega⟩
  | exact Or.inl ⟨by omega, by omega⟩
  | exact Or.inr ⟨by omega, by omega⟩
  | exact ⟨by omega, by omega, by omega⟩
  | exact ⟨by decide, by decide, by decide⟩
  | (refine mix2 ?_ ?_ ?_ ?_ ?_ ?_ ?_ ?_ ?_ ?_ <;> omega))
local macro_rules | `(tactic| walk_at "hp") => `(tactic| first
  | assumption | exact upd_same
  | (refine' rd_new ?n ?q; (case n => assumption); (case q => walk_at "hp"))
  | (refine' rd_ne ?n ?q; (case n => first | assumption | (apply Ne.symm; assumption)); (case q => walk_at "hp")))
local macro_rules | `(tactic| walk_at "sq") => `(tactic| first
  | assumption
  | (with_reducible apply SqL.of; walk_at "hp") | (with_reducible apply SqT.of; walk_at "hp")
  | ((with_reducible refine' sqL_new ?n ?q); (case n => assumption); (case q => walk_at "sq"))
  | ((with_reducible refine' sqT_new ?n ?q); (case n => assumption); (case q => walk_at "sq"))
  | ((with_reducible refine' sqL_ne ?n ?q); (case n => first | assumption | (apply Ne.symm; assumption)); (case q => walk_at "sq"))
  | ((with_reducible refine' sqT_ne ?n ?q); (case n => first | assumption | (apply Ne.symm; assumption)); (case q => walk_at "sq"))
  | ((with_reducible refine' Ext.sqL ?e ?n ?q); (case e => assumption); (case n => first | assumption | (apply Ne.symm; assumption)); (case q => walk_at "sq"))
  | ((with_reducible refine' Ext.sqT ?e ?n ?q); (case e => assumption); (case n => first | assumption | (apply Ne.symm; assumption)); (case q => walk_at "sq"))
  | ((with_reducible refine' Grow.sqL ?e ?q); (case e => assumption); (case q => walk_at "sq"))
  | ((with_reducible refine' Grow.sqT ?e ?q); (case e => assumption); (case q => walk_at "sq")))
local macro_rules | `(tactic| walk_at "sqs") => `(tactic| first | assumption | (exact ‹∀ H, SqT _ H _ _› _) | (apply SqT.of; walk_at "hp"))
local macro_rules | `(tactic| walk_at "kn") => `(tactic| first | assumption | exact True.intro)
local macro_rules | `(tactic| walk_at "fw") => `(tactic| with_reducible first
  | refine w_seq ?_ | refine w_asg ?_ | refine w_ret ?_ | refine w_drop ?_ | refine w_next ?_ | refine w_c ?_ | refine w_op ?_ | refine w_un ?_
  | refine w_test ?_ | refine w_B ?_ | refine w_bl ?_ | refine w_not ?_ | refine w_and ?_ | refine w_or ?_ | refine w_andV ?_ | refine w_orV ?_ | refine w_notV ?_
  | refine w_if ?_ | refine w_ifE ?_ | refine w_yes ?_ | refine w_no ?_ | refine w_rfl ?_ | refine w_tr ?_ | refine w_nyes ?_ | refine w_nno ?_ | refine w_T ?_ | refine w_F ?_ | refine w_nil ?_ | refine w_cons ?_ | refine w_cb ?_ | refine w_call ?_ | refine w_lst ?_ | refine w_tup ?_
  | refine w_I0 ?_ | refine w_U ?_ | refine w_int ?_ | refine w_intB ?_ | refine w_abs ?_ | refine w_raise1 ?_ | refine w_sub ?_ | refine w_gcons ?_ | refine w_gnil ?_ | refine w_par ?_ | refine w_chain ?_ | refine w_callNB ?_)
local macro_rules | `(tactic| walk_at "fwv") => `(tactic| first
  | ((with_reducible refine' w_var ?e ?_); (case e => rfl))
  | ((with_reducible refine' w_I ?e ?_); (case e => walk_at "side"))
  | ((with_reducible refine' w_ixL ?s ?e ?_); (case s => walk_at "sq"); (case e => rfl))
  | ((with_reducible refine' w_lenL ?s ?_); (case s => walk_at "sq"); try simp only [List.length_map, List.length_cons, List.length_nil])
  | ((with_reducible refine' w_setL ?e ?f ?_); (case e => walk_at "hp"); (case f => rfl); try simp only [Int.reduceToNat, List.set_cons_zero, List.set_cons_succ, upd_upd])
  | ((with_reducible refine' w_gtup ?s ?l ?_); (case s => walk_at "sq"); (case l => rfl))
  | ((with_reducible refine' w_eq ?e ?_); (case e => rfl))
  | ((with_reducible refine' w_ne ?e ?_); (case e => rfl))
  | ((with_reducible refine' w_mk1 ?o ?n ?_); (case o => apply Exn.oex; assumption); (case n => apply Exn.no; assumption); intro _ _)
  | ((with_reducible refine w_dnew ?_); intro _ _)
  | ((with_reducible refine' w_inT (ss := ?ss) ?s ?_); (case s => walk_at "sqs"))
  | ((with_reducible refine' w_notInT (ss := ?ss) ?s ?_); (case s => walk_at "sqs"))
  | ((with_reducible refine' w_inX ?s ?f ?g ?_); (case s => walk_at "sqs"); (case f => rfl); (case g => rfl))
  | ((with_reducible refine' w_isIntA ?k ?_); (case k => walk_at "kn"))
  | ((with_reducible refine' w_isBlA ?k ?_); (case k => walk_at "kn"))
  | ((with_reducible refine' w_isStrA ?k ?_); (case k => walk_at "kn"))
  | ((with_reducible refine w_par2 ?_); simp only [List.set_cons_zero, List.set_cons_succ])
  | ((with_reducible refine w_name ?_); simp only [List.set_cons_zero, List.set_cons_succ]))
local macro_rules | `(tactic| walk_at "size") => `(tactic| first | (show _ ≤ sizeLine; decide) | (simp only [List.length_cons, List.length_nil]; decide))
local macro_rules | `(tactic| walk_at "mk") => `(tactic| ((with_reducible refine' w_made ?n ?_); (case n => walk_at "size"); intro _ _))
local macro_rules | `(tactic| walk_at "ev") => `(tactic| simp only [reduceCtorEq, V.int.injEq, V.bl.injEq, V.str.injEq, V.ref.injEq, List.append_nil, List.cons_append, List.nil_append, decide_true, decide_false, Bool.not_true, Bool.not_false])
local macro_rules | `(tactic| walk_at "go") => `(tactic| repeat (first | walk_at "fw" | walk_at "fwv" | walk_at "mk" | (dsimp only) | walk_at "ev"))
local macro_rules | `(tactic| walk_at "br") => `(tactic| first | refine w_iteN (fun _ => ?_) (fun _ => ?_) | refine w_iteD (fun _ => ?_) (fun _ => ?_) | refine w_ite (fun _ => ?_) (fun _ => ?_))
local macro_rules | `(tactic| walk_at "fork") => `(tactic| (first | refine w_iteN (fun hx => ?_) (fun hx => ?_) | refine w_iteD (fun hx => ?_) (fun hx => ?_) | refine w_ite (fun hx => ?_) (fun hx => ?_)) <;> first | (exact absurd hx (by decide +kernel)) | skip)
local macro_rules | `(tactic| walk_at "gr") => `(tactic| repeat' (first | exact Grow.refl _ | assumption | refine Grow.trans ?_ (Grow.new (by assumption))))

section
variable {P : Program} {w : World} {K : PySem.W.Frag} {mg : Str → Option Value} {base : Heap}
theorem w_showT {K : PySem.W.Frag} {a : Addr} {H : Hp} {Q : VK} (sq : SqT K H a (rows8.map V.int)) (q : Q (.str (PyData.shown (.tuple (rows8.map PyData.int)))) H) : rShow K [.ref a] H Q :=
  .inr ⟨a, .tuple (rows8.map PyData.int), rfl, .tup sq (dpAll_ints K H rows8), by decide +kernel, by decide +kernel, by decide +kernel, by decide +kernel, q⟩
def spLaw (K : PySem.W.Frag) (p : Addr) : Sp := fun vs H Q _ => ∃ (a : Addr) (ns : List Int), vs = [.ref a] ∧ SqL K H a (ns.map V.int) ∧ ns.length ≤ 63 ∧ LamX.Tabs [(p, QR)] H ∧ ∀ H', Q (.bl true) H'
theorem ok_law {f : Addr} {fd : FuncData} (T : TxtL P w K mg base) (F : Fun K "law" "law" s_law f fd) : FnG P w K mg base CX0 9 f fd ["_law_script"] (spLaw K T.pR) := by
  refine fun_okG F sc_law (fun vs H Q E h => ?_) (fun cdv A outer s H vs Q E hG hr oc od kV doc pm an ct osl lk h => ?_)
  · obtain ⟨a, ns, rfl, _⟩ := h; rfl
  · obtain ⟨a, ns, rfl, sq, hn, ht, k⟩ := h
    refine ⟨_, PSs.nox (pss_cons (ps_set (i := 1) sc_law.nd rfl (Or.inl rfl) (pe_can (E := E0) (c__law_pen T) hr (by decide) pass0 rfl (pa_cons (pv 0) pa_nil)))
 (pss_cons (ps_for PassesOwn.never rfl (pi_range1 (by rfl) T.b_range (pa_cons pe_int pa_nil)) (pg_name (i := 2) sc_law.nd rfl (Or.inl rfl))
 (pss_one (ps_if (PW.pt (pw_or (pt_not (pt_val (pe_canG (E := E0) (c__law_all_right T) hG hr (by decide) pass0 rfl (pa_cons (pv 1) pa_nil)))) (pw_or1 (pt_not (pt_val (pe_can (E := E0) (c__law_elder_right T) hr (by decide) pass0 rfl (pa_cons (pv 1) pa_nil)))))))
 (pss_one (ps_ret pe_bl))
 pss_nil)))
 (pss_one (ps_ret (pe_and (pe_cmpR op_eq (pe_callB (call_show hG hr.units) (by rfl) T.b_repr (by decide +kernel) (pa_cons (pe_glob (v := .ref T.aRows) rfl T.g_ROWS rfl) pa_nil)) (pe_callB (call_show hG hr.units) (by rfl) T.b_repr (by decide +kernel) (pa_cons (pe_tup (pa_cons pe_int (pa_cons pe_int (pa_cons pe_int (pa_cons pe_int (pa_cons pe_int (pa_cons pe_int (pa_cons pe_int (pa_cons pe_int pa_nil))))))))) pa_nil)) (nomark _)) (pe_one (pe_can (E := E0) (c__law_refused_right T) hr (by decide) pass0 rfl (pa_cons (pv 1) pa_nil)))))))), ?_⟩
    rw [show L2.start N_law [(V.ref a)] = [some (V.ref a), none, none] from rfl]; try dsimp only [cxOf]
    walk_at "go"
    refine ⟨a, ns, rfl, sq, hn, fun c H1 nc g1 hc => ?_⟩
    have t1 := ht.ext g1
    clear ht sq
    walk_at "go"
    refine ⟨4, rfl, by decide, by decide, for_range (n := 4) (fun i σ H' => ∃ s2 n, σ = [some (.ref a), some (.ref c), s2] ∧ n ≤ 30 * i ∧ Cloud K H' c n ∧ LamX.Tabs [(T.pR, QR)] H') ?_ ?_ ?_⟩
    · exact ⟨_, 0, rfl, by omega, hc, t1⟩
    · intro i σ H2 hi hx
      obtain ⟨s2, n, rfl, hn2, hc2, ht2⟩ := hx
      walk_at "go"
      refine ⟨c, n, rfl, hc2, by omega, fun n3 H3 hn3 hc3 he3 => ?_⟩
      walk_at "go"
      refine ⟨c, n3, rfl, hc3, by omega, fun n4 H4 hn4 hc4 he4 => ?_⟩
      walk_at "go"
      exact ⟨_, n4, rfl, by omega, hc4, tabs_ext ht2 hc2 (he3.trans he4)⟩
    · intro σ H2 hx
      obtain ⟨s2, n, rfl, hn2, hc2, ht2⟩ := hx
      walk_at "go"
      refine w_showT (T.k_ROWS _) ?_
      walk_at "go"
      rename_i p e
      refine w_showT (SqT.of upd_same) ?_
      refine w_eqSelf rfl ?_
      walk_at "go"
      exact ⟨c, n, rfl, hc2.new e, by omega, ht2.ext (Grow.new e), fun H' => k H'⟩
end
end K35

set_option maxRecDepth 100000
set_option maxHeartbeats 0
namespace K35
open PySem L2 FW PyProof.Rows
abbrev s_BadNumber_init : Stmt := inClass (top 5) 0
abbrev s_Misfit_init : Stmt := inClass (top 6) 0
theorem sc_BadNumber_init : FnScope [("self" : Str), "part"] [("self" : Str), "part"] (defScope s_BadNumber_init) := ⟨rfl, rfl, rfl, by decide +kernel, rfl, by decide +kernel, by decide +kernel⟩
theorem sc_Misfit_init : FnScope [("self" : Str), "part"] [("self" : Str), "part"] (defScope s_Misfit_init) := ⟨rfl, rfl, rfl, by decide +kernel, rfl, by decide +kernel, by decide +kernel⟩
def fa : List He.Fa := [.glo "is_integer", .glo "is_within", .glo "check_numbers", .glo "is_wanted", .glo "_law_pen", .glo "_law_draw", .glo "_law_one_of", .glo "_law_all_right", .glo "_law_elder_right", .glo "_law_heard", .glo "_law_refused_right", .glo "law",
  .glo "ROWS", .glo "BadNumber", .glo "Misfit", .glo "WeatherError", .free "int", .free "bool", .free "len", .free "abs", .free "isinstance", .free "range", .free "repr", .free "min", .free "sum", .int "LEAST_NUMBERS" 2, .int "MOST_NUMBERS" 64, .exm "BadNumber" "WeatherError" true, .exm "Misfit" "WeatherError" true]
def fn : List He.DefD := [dTop "is_integer" s_is_integer, dTop "is_within" s_is_within, dTop "check_numbers" s_check_numbers, dTop "is_wanted" s_is_wanted, dTop "_law_pen" s__law_pen, dTop "_law_draw" s__law_draw, dTop "_law_one_of" s__law_one_of,
  dTop "_law_all_right" s__law_all_right, dTop "_law_elder_right" s__law_elder_right, dTop "_law_heard" s__law_heard, dTop "_law_refused_right" s__law_refused_right, dTop "law" s_law, dIn "BadNumber" "__init__" s_BadNumber_init, dIn "Misfit" "__init__" s_Misfit_init]
def ts : List He.Tab := []
def tf : List He.Defn := [("_law_refused_right", none)]
def ex (K : PySem.W.Frag) : Bool := He.tupB K "ROWS" (rows8.map He.Dv.int) && (exnB K "BadNumber" "part" && (exnB K "Misfit" "part" && (decide (PySem.W.kitAny K (.type "NoneType") [.ref (He.ga K "BadNumber"), .ref (He.ga K "Misfit")] = some false) &&
  (decide (PySem.W.kitAny K (.ref (He.ga K "BadNumber")) [.ref (He.ga K "BadNumber"), .ref (He.ga K "Misfit")] = some true) && (decide (PySem.W.kitAny K (.ref (He.ga K "Misfit")) [.ref (He.ga K "BadNumber"), .ref (He.ga K "Misfit")] = some true) &&
  decide (PySem.W.kitOne K (.ref (He.ga K "Misfit")) (.ref (He.ga K "BadNumber")) = some false))))))
section
variable {P : Program} {w : World} {K : PySem.W.Frag} {mg : Str → Option Value} {base h : Heap}
theorem ex_all (e : ex K = true) : He.tupB K "ROWS" (rows8.map He.Dv.int) = true ∧ exnB K "BadNumber" "part" = true ∧ exnB K "Misfit" "part" = true ∧ PySem.W.kitAny K (.type "NoneType") [.ref (He.ga K "BadNumber"), .ref (He.ga K "Misfit")] = some false ∧
    PySem.W.kitAny K (.ref (He.ga K "BadNumber")) [.ref (He.ga K "BadNumber"), .ref (He.ga K "Misfit")] = some true ∧ PySem.W.kitAny K (.ref (He.ga K "Misfit")) [.ref (He.ga K "BadNumber"), .ref (He.ga K "Misfit")] = some true ∧ PySem.W.kitOne K (.ref (He.ga K "Misfit")) (.ref (He.ga K "BadNumber")) = some false := by
  unfold ex at e
  simp only [Bool.and_eq_true, decide_eq_true_eq] at e
  exact e
theorem ok_init (d : He.SaysD fa fn K) {cn : Str} {st : Stmt} (i : Nat) (e : fn[i]? = some (dIn cn "__init__" st)) (S : FnScope [("self" : Str), "part"] [("self" : Str), "part"] (defScope st))
    (body : ∀ X : Cx, X.N = [("self" : Str), "part"] → X.env.scope = defScope st → PSs X (defBody st) (tOst X.K "part" (tVar 0) (tVar 1)))
    (bind : ∀ (qual : Str) (kV doc pm : Value) (an : Option Addr) (cdv ct : Value) (us : List Value), us.length = 2 → bindArgs (PySem.W.fnOf "__init__" qual (defArgs st) (defBody st) (defScope st) .none kV doc pm an cdv ct) ⟨us, []⟩ = pure (([("self" : Str), "part"] : List Str).zip us)) :
    ∃ (fd : FuncData) (ps : List Str), FnOk P w K mg base CX0 1 (He.ma K (He.ga K cn) "__init__") fd ps (spInit1 K (He.ga K cn) "part") ∧ Binds K fd ps [] := by
  obtain ⟨fd, F⟩ := d.def_ i (d := dIn cn "__init__" st) e
  have F2 : Fun K "__init__" _ st _ fd := fun_of (st := st) F
  exact ⟨fd, [("self" : Str), "part"], init1_ok (p := "part") F2 S body, F2.binds (fun _ _ _ _ _ _ us hl => bind _ _ _ _ _ _ _ us hl)⟩
def txt (X : K.In h) (G : h.Ns mainGlobals mg) (c : He.SaysX fa fn ts tf ex w h K) (TB : LamX.TabB base mg (He.cT K ("_law_refused_right", none)).1 (He.cT K ("_law_refused_right", none)).2) : TxtL P w K mg base :=
  have d := c.t.d
  have xs := ex_all c.more
  { cBadNumber := He.ga K "BadNumber"
    cMisfit := He.ga K "Misfit"
    b_int := free_at X G d 16 rfl
    b_bool := free_at X G d 17 rfl
    b_len := free_at X G d 18 rfl
    b_abs := free_at X G d 19 rfl
    b_isinstance := free_at X G d 20 rfl
    b_range := free_at X G d 21 rfl
    b_repr := free_at X G d 22 rfl
    b_min := free_at X G d 23 rfl
    b_sum := free_at X G d 24 rfl
    g_LEAST_NUMBERS := int_at X G d 25 rfl
    g_MOST_NUMBERS := int_at X G d 26 rfl
    x_BadNumber := exnB_ok xs.2.1 (glo_at X G d 13 rfl) (ok_init d 12 rfl sc_BadNumber_init (fun X hN hS => pss_one (ps_ost (pv 0 (by rw [hN]; rfl) (by rw [hS]; exact .inl (by decide +kernel))) (pv 1 (by rw [hN]; rfl) (by rw [hS]; exact .inl (by decide +kernel))))) (fun _ _ _ _ _ _ _ us hl => match us, hl with | [_, _], _ => rfl))
    x_Misfit := exnB_ok xs.2.2.1 (glo_at X G d 14 rfl) (ok_init d 13 rfl sc_Misfit_init (fun X hN hS => pss_one (ps_ost (pv 0 (by rw [hN]; rfl) (by rw [hS]; exact .inl (by decide +kernel))) (pv 1 (by rw [hN]; rfl) (by rw [hS]; exact .inl (by decide +kernel))))) (fun _ _ _ _ _ _ _ us hl => match us, hl with | [_, _], _ => rfl))
    d_is_integer := defOk_of d 0 rfl (glo_at X G d 0 rfl) (fun _ _ _ _ _ _ us hl => match us, hl with | [_], _ => rfl)
    d_is_within := defOk_of d 1 rfl (glo_at X G d 1 rfl) (fun _ _ _ _ _ _ us hl => match us, hl with | [_, _, _], _ => rfl)
    d_check_numbers := defOk_of d 2 rfl (glo_at X G d 2 rfl) (fun _ _ _ _ _ _ us hl => match us, hl with | [_], _ => rfl)
    d_is_wanted := defOk_of d 3 rfl (glo_at X G d 3 rfl) (fun _ _ _ _ _ _ us hl => match us, hl with | [_, _, _, _], _ => rfl)
    aRows := He.ga K "ROWS"
    cWeather := He.ga K "WeatherError"
    cR := (He.cT K ("_law_refused_right", none)).1
    pR := (He.cT K ("_law_refused_right", none)).2
    tR := TB
    g_ROWS := glo_at X G d 12 rfl
    k_ROWS := fun H => by have z := He.tupB_ok xs.1 H; rw [List.map_map] at z; exact z
    g_Weather := glo_at X G d 15 rfl
    e_BadNumber := He.exm_ok (d.fact 27 (f := .exm "BadNumber" "WeatherError" true) rfl)
    e_Misfit := He.exm_ok (d.fact 28 (f := .exm "Misfit" "WeatherError" true) rfl)
    n_both := xs.2.2.2.1
    i_BadNumber := xs.2.2.2.2.1
    i_Misfit := xs.2.2.2.2.2.1
    i_other := xs.2.2.2.2.2.2
    d__law_pen := defOk_of d 4 rfl (glo_at X G d 4 rfl) (fun _ _ _ _ _ _ us hl => match us, hl with | [_], _ => rfl)
    d__law_draw := defOk_of d 5 rfl (glo_at X G d 5 rfl) (fun _ _ _ _ _ _ us hl => match us, hl with | [_, _], _ => rfl)
    d__law_one_of := defOk_of d 6 rfl (glo_at X G d 6 rfl) (fun _ _ _ _ _ _ us hl => match us, hl with | [_, _], _ => rfl)
    d__law_all_right := defOk_of d 7 rfl (glo_at X G d 7 rfl) (fun _ _ _ _ _ _ us hl => match us, hl with | [_], _ => rfl)
    d__law_elder_right := defOk_of d 8 rfl (glo_at X G d 8 rfl) (fun _ _ _ _ _ _ us hl => match us, hl with | [_], _ => rfl)
    d__law_heard := defOk_of d 9 rfl (glo_at X G d 9 rfl) (fun _ _ _ _ _ _ us hl => match us, hl with | [_], _ => rfl)
    d__law_refused_right := defOkC_of d 10 rfl (glo_at X G d 10 rfl) (fun _ _ _ _ _ _ us hl => match us, hl with | [_], _ => rfl) }
end
abbrev R : PySem.W.OpenRow := PySem.W.OpenLaw.row PySem.Challenge.rw_fairweather_k35_letters_wanted
abbrev hk : PySem.W.Hook := He.hookX 4 fa fn ts tf ex
theorem lawG {w : World} {mg : Str → Option Value} {f : Addr} {h : Heap} (Y : hk.says w h) (G : h.Ns mainGlobals mg) (hm : mg ("law" : Str) = some (.ref f)) : ∃ K : PySem.W.Frag, K.In h ∧ LawG PySem.Challenge.rw_fairweather_k35_letters_wanted w K 9 63 "_law_script" mg f h := by
  obtain ⟨K, X, c⟩ := Y
  have d := c.t.d
  have e := hm.symm.trans (glo_at X G d 11 rfl)
  cases e
  obtain ⟨fd, F⟩ := d.def_ 11 (d := dTop "law" s_law) rfl
  have b := FunD.bindsA (ps := ["_law_script"]) F fun _ _ _ _ _ _ us hl => match us, hl with | [_], _ => rfl
  refine ⟨K, X, fd, [He.cT K ("_law_refused_right", none)], spLaw K (He.cT K ("_law_refused_right", none)).2, ?_, ?_, ?_, fun s u => b s [u] rfl, fun H a ns hl _ ht hs => ⟨a, ns, rfl, hs, hl, fun p hp => ?_, fun _ => rfl⟩, fun base _ _ TB => ?_⟩
  · intro p hp; rw [List.mem_singleton.mp hp]; exact c.empty _ (List.mem_cons_self ..)
  · intro p hp; rw [List.mem_singleton.mp hp]; exact c.out _ (List.mem_cons_self ..)
  · intro p hp; rw [List.mem_singleton.mp hp]; exact PySem.W.codeHd_of_K X (c.hd _ (List.mem_cons_self ..))
  · rw [List.mem_singleton.mp hp]; exact LamX.TabS.nil (ht _ (List.mem_cons_self ..))
  · exact ok_law (txt X G c (TB _ (List.mem_cons_self ..))) (fun_of F)
end K35
open PySem PySem.W PySem.Calls PyProof.Rows
theorem PySem.Challenge.cw_fairweather_k35_letters_wanted_holds : PySem.Challenge.rw_fairweather_k35_letters_wanted.Holds := by
  w_on; o_law
  o_head K35.hk
  case hw => w_witness2
  case hc =>
    refine FW.walkG (l := PySem.Challenge.rw_fairweather_k35_letters_wanted) (n := 63) (k := 9) (x := "_law_script") rfl (by decide) (by kernel_rfl) ⟨rfl, by decide, by decide⟩ ?F
    intro w mg fa h Y G hmg0
    exact K35.lawG Y G hmg0
