import PyProof.Rows.All
import Wide.All
import OpenK.AllK
import Wide.FinOn
import HandS.ForMost
import HandS.ForExc
import HandS.IsInst
import HandS.Wide
import HandS.CallLocal
import HandS.Defaults
import HandS.ExcInit
import HandS.ExcIs
import HandS.ExcField
import HandS.ExcValue
import HandS.RaiseMore
import HandS.Lambda
import HandS.EndTab
import PyProof.ReprRoads
import HandS.Comp
import HandS.Head0
import HandS.Head1
import HandS.Head2
import HandS.HeadEnd
import HandS.HeadHook1
import HandS.HeadHook2
import HandS.HeadHook3
import HandS.HeadHook4
import HandS.WrittenGet
import HandS.More
import PySem.Challenge.RW_fairweather_k02_shorts_reckoned
set_option Elab.async false
set_option linter.all false
set_option maxRecDepth 100000
set_option maxHeartbeats 4000000
/-! fair weather: the ground that all laws stand on -/
namespace FW
open PySem L2 PyProof.Rows

/-! ### readings, a step each -/
section
variable {σ : L2.St} {H : Hp} {D : Ends} {Q : VK} {ta tb te : TE} {t u : TS} {g : TG} {i : Nat} {v x y : V} {r : R2} {tt tu : TT} {QT : Bool → Hp → Prop}
theorem w_seq (h : t { D with nx := u D } σ H) : tSeq t u D σ H := h
theorem w_asg (h : te σ H fun x H1 => g x σ H1 D.nx) : tAsg te g D σ H := h
theorem w_name {QG : L2.St → Hp → Prop} (h : QG (σ.set i (some v)) H) : gName i v σ H QG := h
theorem w_ret (h : te σ H D.rt) : tRet te D σ H := h
theorem w_drop (h : te σ H fun _ H1 => D.nx σ H1) : tDrop te D σ H := h
theorem w_next (h : D.nx σ H) : tNext D σ H := h
theorem w_var (e : σ[i]? = some (some v)) (h : Q v H) : tVar i σ H Q := ⟨v, e, h⟩
theorem w_c (h : Q v H) : tC v σ H Q := h
theorem w_op (h : ta σ H fun x H1 => tb σ H1 fun y H2 => r x y H2 Q) : tOp r ta tb σ H Q := h
theorem w_un {ru : V → Hp → VK → Prop} (h : ta σ H fun x H1 => ru x H1 Q) : tUn ru ta σ H Q := h
theorem w_I0 {f : Int → Int → V} {a b : Int} (h : Q (f a b) H) : rI0 f (.int a) (.int b) H Q := ⟨a, b, rfl, rfl, h⟩
theorem w_I {C : Int → Int → Prop} {f : Int → Int → V} {a b : Int} (c : C a b) (h : Q (f a b) H) : rI C f (.int a) (.int b) H Q := ⟨a, b, rfl, rfl, c, h⟩
theorem w_U {f : Int → V} {a : Int} (h : Q (f a) H) : rU f (.int a) H Q := ⟨a, rfl, h⟩
theorem w_eq (s : scal x y = true) (h : Q (.bl (decide (x = y))) H) : rEq x y H Q := ⟨s, h⟩
theorem w_ne (s : scal x y = true) (h : Q (.bl (!decide (x = y))) H) : rNe x y H Q := ⟨s, h⟩
theorem w_test (h : ta σ H fun x H1 => ∃ c, x = .bl c ∧ QT c H1) : tTest ta σ H QT := h
theorem w_B (h : ta σ H fun x H1 => ∃ c, x = .bl c ∧ QT c H1) : tB ta σ H QT := h
theorem w_bl {b : Bool} {R : Bool → Prop} (h : R b) : ∃ c, V.bl b = .bl c ∧ R c := ⟨b, rfl, h⟩
theorem w_not (h : tt σ H fun c H1 => QT (!c) H1) : tNot tt σ H QT := h
theorem w_and (h : tt σ H fun c H1 => if c = true then tu σ H1 QT else QT false H1) : tAnd tt tu σ H QT := h
theorem w_or (h : tt σ H fun c H1 => if c = true then QT true H1 else tu σ H1 QT) : tOr tt tu σ H QT := h
theorem w_andV (h : ta σ H fun x H1 => ∃ c, x = .bl c ∧ if c = true then tb σ H1 Q else Q (.bl false) H1) : tAndV ta tb σ H Q := h
theorem w_orV (h : ta σ H fun x H1 => ∃ c, x = .bl c ∧ if c = true then Q (.bl true) H1 else tb σ H1 Q) : tOrV ta tb σ H Q := h
theorem w_notV (h : ta σ H fun x H1 => ∃ c, x = .bl c ∧ Q (.bl (!c)) H1) : tNotV ta σ H Q := h
theorem w_if (h : tt σ H fun c H1 => if c = true then t D σ H1 else u D σ H1) : tIfS tt t u D σ H := h
theorem w_ifE (h : tt σ H fun c H1 => if c = true then ta σ H1 Q else tb σ H1 Q) : tIf tt ta tb σ H Q := h
theorem w_ite {c : Bool} {A B : Prop} (h1 : c = true → A) (h2 : c = false → B) : if c = true then A else B := by
  cases c with
  | true => exact h1 rfl
  | false => exact h2 rfl
theorem w_iteD {p : Prop} [Decidable p] {A B : Prop} (h1 : p → A) (h2 : ¬ p → B) : if decide p = true then A else B := by
  by_cases h : p
  · rw [if_pos (decide_eq_true h)]; exact h1 h
  · rw [if_neg (by simp [h])]; exact h2 h
theorem w_iteN {p : Prop} [Decidable p] {A B : Prop} (h1 : ¬ p → A) (h2 : p → B) : if (!decide p) = true then A else B := by
  by_cases h : p
  · rw [if_neg (by simp [h])]; exact h2 h
  · rw [if_pos (by simp [h])]; exact h1 h
theorem w_rfl {A : Prop} (h : A) : V.non = V.non ∧ A := ⟨rfl, h⟩
theorem w_tr {A : Prop} (h : A) : True ∧ A := ⟨trivial, h⟩
theorem w_nyes {A B : Prop} (h : B) : if (!true) = true then A else B := h
theorem w_nno {A B : Prop} (h : A) : if (!false) = true then A else B := h
theorem w_T {A B : Prop} (h : A) : if True then A else B := by rw [if_pos trivial]; exact h
theorem w_F {A B : Prop} (h : B) : if False then A else B := by rw [if_neg not_false]; exact h
theorem w_yes {A B : Prop} (h : A) : if true = true then A else B := h
theorem w_no {A B : Prop} (h : B) : if false = true then A else B := h
theorem w_nil {QA : List V → Hp → Prop} (h : QA [] H) : tNil σ H QA := h
theorem w_cons {ta : TE} {tr : TA} {QA : List V → Hp → Prop} (h : ta σ H fun x H1 => tr σ H1 fun xs H2 => QA (x :: xs) H2) : tCons ta tr σ H QA := h
theorem w_cb {rc : List V → Hp → VK → Prop} {t : TA} (h : t σ H fun vs H1 => rc vs H1 Q) : tCB rc t σ H Q := h
theorem w_call {sp : Sp} {dvs : List V} {E : XK} {t : TA} (h : t σ H fun vs H1 => sp (vs ++ dvs) H1 Q E) : tCall sp dvs E t σ H Q := h
theorem w_lst {t : TA} (h : t σ H fun xs H1 => xs.length ≤ sizeLine ∧ ∀ p, H1 p = none → Q (.ref p) (upd H1 p (.lst xs))) : tLst t σ H Q := h
theorem w_tup {t : TA} (h : t σ H fun xs H1 => xs.length ≤ sizeLine ∧ ∀ p, H1 p = none → Q (.ref p) (upd H1 p (.tup xs))) : tTup t σ H Q := h
theorem w_ixL {K : PySem.W.Frag} {p : Addr} {xs : List V} {k : Int} (s : SqL K H p xs) (e : atI xs k = some v) (h : Q v H) : rIxL K (.ref p) (.int k) H Q := ⟨p, xs, k, v, rfl, rfl, s, e, h⟩
theorem w_sub {ti to : TE} {ts : TSet} {QG : L2.St → Hp → Prop} (h : to σ H fun o H1 => ti σ H1 fun i H2 => ts o i v H2 fun H3 => QG σ H3) : gSub to ti ts v σ H QG := h
theorem w_setL {p : Addr} {xs : List V} {k : Int} {j : Nat} {QH : Hp → Prop} (e : H p = some (.lst xs)) (ej : ixN xs.length k = some j) (h : QH (upd H p (.lst (xs.set j v)))) : rSetL (.ref p) (.int k) v H QH := ⟨p, xs, k, j, rfl, rfl, e, ej, h⟩
end

/-- `int` of an int or of a truth -/
def rInt1 : List V → Hp → VK → Prop := fun xs H Q => match xs with
  | [.int i] => Q (.int i) H
  | [.bl b] => Q (.int (if b then 1 else 0)) H
  | _ => False
theorem call_intA {X : Cx} : CallR X (.type "int") rInt1 := by
  intro pins s σ H xs us Q I r h
  refine call_int1 pins s σ H xs us Q I r ?_
  unfold rInt1 at h
  split at h
  · exact Or.inl ⟨_, rfl, h⟩
  · exact Or.inr ⟨_, rfl, h⟩
  · exact h.elim
theorem w_int {i : Int} {H : Hp} {Q : VK} (h : Q (.int i) H) : rInt1 [.int i] H Q := h
theorem w_intB {b : Bool} {H : Hp} {Q : VK} (h : Q (.int (if b then 1 else 0)) H) : rInt1 [.bl b] H Q := h
def rAbs : List V → Hp → VK → Prop := fun xs H Q => ∃ i, xs = [.int i] ∧ Q (.int (if i < 0 then -i else i)) H
theorem call_absA {X : Cx} : CallR X (.builtin "abs") rAbs := call_abs
theorem w_abs {i : Int} {H : Hp} {Q : VK} (h : Q (.int (if i < 0 then -i else i)) H) : rAbs [.int i] H Q := ⟨i, rfl, h⟩
def rLen (K : PySem.W.Frag) : List V → Hp → VK → Prop := fun xs H Q => ∃ x n, xs = [x] ∧ LenV K x H n ∧ Q (.int n) H
theorem call_lenA {X : Cx} : CallR X (.builtin "len") (rLen X.K) := call_len
theorem w_lenL {K : PySem.W.Frag} {H : Hp} {Q : VK} {p : Addr} {xs : List V} (s : SqL K H p xs) (h : Q (.int xs.length) H) : rLen K [.ref p] H Q := ⟨.ref p, xs.length, rfl, Or.inl ⟨xs, s, rfl⟩, h⟩

/-! ### the cloud: what a law draws from -/
/-- at c a list of the cells (at another place), how many were begun (n), what is left of a great one -/
def Cloud (K : PySem.W.Frag) (H : Hp) (c : Addr) (n : Nat) : Prop :=
  ∃ (l : Addr) (cells : List Int) (rest : Int), H c = some (.lst [.ref l, .int n, .int rest]) ∧ SqL K H l (cells.map V.int) ∧ l ≠ c
/-- all but c is as it was -/
def Ext (c : Addr) (H H' : Hp) : Prop := ∀ b o, b ≠ c → H b = some o → H' b = some o
theorem Ext.refl (c : Addr) (H : Hp) : Ext c H H := fun _ _ _ h => h
theorem Ext.trans {c : Addr} {H H1 H2 : Hp} (a : Ext c H H1) (b : Ext c H1 H2) : Ext c H H2 := fun x o n h => b x o n (a x o n h)
theorem Ext.upd {c : Addr} {H : Hp} {o : HO} : Ext c H (upd H c o) := fun b u n h => by rw [upd_ne n]; exact h
theorem Ext.new {c p : Addr} {H : Hp} {o : HO} (h : H p = none) : Ext c H (L2.upd H p o) := fun b u _ e => by rw [upd_ne (ne_of_none e h)]; exact e
theorem Ext.sqL {c a : Addr} {K : PySem.W.Frag} {H H' : Hp} {xs : List V} (e : Ext c H H') (n : a ≠ c) (h : SqL K H a xs) : SqL K H' a xs := by
  rcases h with (h | ⟨o, h⟩) | h
  · exact .inl (.inl (e _ _ n h))
  · exact .inl (.inr ⟨o, e _ _ n h⟩)
  · exact .inr h
theorem Ext.sqT {c a : Addr} {K : PySem.W.Frag} {H H' : Hp} {xs : List V} (e : Ext c H H') (n : a ≠ c) (h : SqT K H a xs) : SqT K H' a xs := by
  rcases h with (h | ⟨o, h⟩) | h
  · exact .inl (.inl (e _ _ n h))
  · exact .inl (.inr ⟨o, e _ _ n h⟩)
  · exact .inr h
/-- a draw: an int from 0 below many; one cell more was begun at most -/
def spDrop (K : PySem.W.Frag) : Sp := fun vs H Q _ => ∃ (c : Addr) (n : Nat) (many : Int), vs = [.ref c, .int many] ∧ Cloud K H c n ∧ n < 1000000 ∧ 0 < many ∧ many < 1073741824 ∧
  ∀ (r : Int) (n' : Nat) (H' : Hp), 0 ≤ r → r < many → n' ≤ n + 1 → Cloud K H' c n' → Ext c H H' → Q (.int r) H'
/-! ### arithmetic of great ints -/
def CDivA (_ j : Int) : Prop := j ≠ 0 ∧ j.natAbs.log2 < 9000
theorem op_fdivA {X : Cx} : OpR X (binaryOp .FloorDiv) (rI CDivA fun i j => .int (i.fdiv j)) := opI fun _ _ _ _ _ _ _ hc q => floordiv_int hc.1 q (.inl (PyProof.noPylong_of_log2 hc.2))
theorem log2_lt {n k : Nat} (h : n < 2 ^ k) (h0 : 0 < k) : n.log2 < k := PySem.Flt.log2_lt_of h0 h

/-! ### lists of ints as data -/
theorem dpAll_ints (K : PySem.W.Frag) (H : Hp) : ∀ ns : List Int, DpAll K H (ns.map V.int) (ns.map PyData.int)
  | [] => .nil
  | n :: ns => .cons (.int n) (dpAll_ints K H ns)
theorem canLay_ints : ∀ ns : List Int, PyData.canLayAll0 (ns.map PyData.int) = true
  | [] => by simp [PyData.canLayAll0]
  | n :: ns => by simp [PyData.canLayAll0, PyData.canLay0, canLay_ints ns]
theorem shaped_ints (ns : List Int) : SeqAt.shaped (.list (ns.map PyData.int)) = true := by
  have h1 : PyData.canLay0 (.list (ns.map PyData.int)) = true := by simp [PyData.canLay0, canLay_ints]
  have h2 : PyData.depth (.list (ns.map PyData.int)) ≤ 64 := by
    have := depthAll_ints ns
    simp only [PyData.depth]
    omega
  unfold SeqAt.shaped
  rw [h1, decide_eq_true h2]
  rfl
theorem shaped_nil : SeqAt.shaped (.list []) = true := shaped_ints []
/-- xs != [] for a list of ints -/
theorem w_neNil {K : PySem.W.Frag} {H : Hp} {Q : VK} {a p : Addr} {ns : List Int} (h1 : SqL K H a (ns.map V.int)) (h2 : SqL K H p []) (h : Q (.bl (!ns.isEmpty)) H) : rNeD K (.ref a) (.ref p) H Q := by
  refine ⟨_, _, .lst h1 (dpAll_ints K H ns), .lst h2 .nil, shaped_ints ns, shaped_nil, ?_⟩
  have e : PyData.eqv (.list (ns.map PyData.int)) (.list []) = ns.isEmpty := by
    cases ns with
    | nil => simp [PyData.eqv, PyData.eqvAll]
    | cons n ns => simp [PyData.eqv, PyData.eqvAll]
  rw [e]
  exact h
theorem atI_map {ns : List Int} {i : Int} (h0 : 0 ≤ i) (h1 : i < ns.length) : ∃ z, ns[i.toNat]? = some z ∧ atI (ns.map V.int) i = some (.int z) := by
  obtain ⟨j, rfl⟩ : ∃ j : Nat, i = (j : Int) := ⟨i.toNat, by omega⟩
  have hj : j < ns.length := by omega
  refine ⟨ns[j], by simp [hj], at_of rfl (by simp [hj])⟩
theorem sqL_new {K : PySem.W.Frag} {H : Hp} {a p : Addr} {xs : List V} {o : HO} (h : H p = none) (q : SqL K H a xs) : SqL K (upd H p o) a xs := by
  rcases q with (q | ⟨u, q⟩) | q
  · exact .inl (.inl (by rw [upd_ne (ne_of_none q h)]; exact q))
  · exact .inl (.inr ⟨u, by rw [upd_ne (ne_of_none q h)]; exact q⟩)
  · exact .inr q
theorem sqT_new {K : PySem.W.Frag} {H : Hp} {a p : Addr} {xs : List V} {o : HO} (h : H p = none) (q : SqT K H a xs) : SqT K (upd H p o) a xs := by
  rcases q with (q | ⟨u, q⟩) | q
  · exact .inl (.inl (by rw [upd_ne (ne_of_none q h)]; exact q))
  · exact .inl (.inr ⟨u, by rw [upd_ne (ne_of_none q h)]; exact q⟩)
  · exact .inr q
theorem sqL_ne {K : PySem.W.Frag} {H : Hp} {a p : Addr} {xs : List V} {o : HO} (n : a ≠ p) (q : SqL K H a xs) : SqL K (upd H p o) a xs := by
  rcases q with (q | ⟨u, q⟩) | q
  · exact .inl (.inl (by rw [upd_ne n]; exact q))
  · exact .inl (.inr ⟨u, by rw [upd_ne n]; exact q⟩)
  · exact .inr q
theorem sqT_ne {K : PySem.W.Frag} {H : Hp} {a p : Addr} {xs : List V} {o : HO} (n : a ≠ p) (q : SqT K H a xs) : SqT K (upd H p o) a xs := by
  rcases q with (q | ⟨u, q⟩) | q
  · exact .inl (.inl (by rw [upd_ne n]; exact q))
  · exact .inl (.inr ⟨u, by rw [upd_ne n]; exact q⟩)
  · exact .inr q
theorem w_made {n : Nat} {H : Hp} {R : Addr → Prop} (hn : n ≤ sizeLine) (h : ∀ p, H p = none → R p) : n ≤ sizeLine ∧ ∀ p, H p = none → R p := ⟨hn, h⟩
theorem rd_new {H : Hp} {a p : Addr} {o u : HO} (h : H p = none) (q : H a = some u) : upd H p o a = some u := by rw [upd_ne (ne_of_none q h)]; exact q
theorem rd_ne {H : Hp} {a p : Addr} {o u : HO} (n : a ≠ p) (q : H a = some u) : upd H p o a = some u := by rw [upd_ne n]; exact q
theorem mix2 {m n a b c : Int} (m0 : 0 ≤ m) (m1 : m < 2147483648) (n0 : 0 ≤ n) (n1 : n < 1000000) (a0 : 0 ≤ a) (a1 : a ≤ 10000) (b0 : 0 ≤ b) (b1 : b ≤ 1000000) (c0 : 0 ≤ c) (c1 : c ≤ 1000000) :
    CPow (m * (2 * n + a) + b * n * n + c) 3 := by
  refine ⟨by decide, by decide, ?_⟩
  have h1 : 0 ≤ m * (2 * n + a) := Int.mul_nonneg m0 (by omega)
  have h2 : m * (2 * n + a) ≤ 2147483648 * 2010000 := Int.mul_le_mul (by omega) (by omega) (by omega) (by omega)
  have h3 : 0 ≤ b * n := Int.mul_nonneg b0 n0
  have h4 : b * n ≤ 1000000 * 1000000 := Int.mul_le_mul b1 (by omega) n0 (by omega)
  have h5 : 0 ≤ b * n * n := Int.mul_nonneg h3 n0
  have h6 : b * n * n ≤ (1000000 * 1000000) * 1000000 := Int.mul_le_mul h4 (by omega) n0 (by omega)
  omega
/-! ### kinds of values -/
def isInt : V → Bool
  | .int _ => true
  | _ => false
def isIntB : V → Bool
  | .int _ => true
  | .bl _ => true
  | _ => false
def isBl : V → Bool
  | .bl _ => true
  | _ => false
def isStr : V → Bool
  | .str _ => true
  | _ => false
/-- a value of a plain kind: a reference is to a list, a tuple or a dict -/
def Kn (K : PySem.W.Frag) (H : Hp) : V → Prop
  | .ref a => ∃ T, (T = "list" ∨ T = "tuple" ∨ T = "dict") ∧ TyX K H (.ref a) (.type T)
  | .non => True
  | .bl _ => True
  | .int _ => True
  | .str _ => True
  | _ => False
/-- how a value of a plain kind answers to a built-in class -/
theorem kn_ty {K : PySem.W.Frag} {H : Hp} {v : V} (h : Kn K H v) : ∃ T, TyX K H v (.type T) ∧ (T = "list" ∨ T = "tuple" ∨ T = "dict" ∨ T = "NoneType" ∨ T = "bool" ∨ T = "int" ∨ T = "str") ∧
    (isInt v = (T == "int")) ∧ (isBl v = (T == "bool")) ∧ (isStr v = (T == "str")) := by
  cases v with
  | ref a =>
    obtain ⟨T, e, t⟩ := h
    rcases e with rfl | rfl | rfl
    · exact ⟨_, t, by simp, by simp [isInt], by simp [isBl], by simp [isStr]⟩
    · exact ⟨_, t, by simp, by simp [isInt], by simp [isBl], by simp [isStr]⟩
    · exact ⟨_, t, by simp, by simp [isInt], by simp [isBl], by simp [isStr]⟩
  | non => exact ⟨"NoneType", .base .non, by simp, by simp [isInt], by simp [isBl], by simp [isStr]⟩
  | bl b => exact ⟨"bool", .base (.bl b), by simp, by simp [isInt], by simp [isBl], by simp [isStr]⟩
  | int i => exact ⟨"int", .base (.int i), by simp, by simp [isInt], by simp [isBl], by simp [isStr]⟩
  | str x => exact ⟨"str", .base (.str x), by simp, by simp [isInt], by simp [isBl], by simp [isStr]⟩
  | byt _ => exact h.elim
  | flt _ => exact h.elim
  | ty _ => exact h.elim
theorem w_isInt {K : PySem.W.Frag} {H : Hp} {Q : VK} {v : V} (h : Kn K H v) (q : Q (.bl (isIntB v)) H) : rIsi K [v, .ty "int"] H Q := by
  obtain ⟨T, t, e, e1, e2, e3⟩ := kn_ty h
  refine ⟨v, .ty "int", .type T, .type "int", isIntB v, rfl, .ty "int", t, ?_, q⟩
  have q1 : isIntB v = (isInt v || isBl v) := by cases v <;> rfl
  rw [q1, e1, e2]
  rcases e with rfl | rfl | rfl | rfl | rfl | rfl | rfl <;> exact kit_ty (by decide +kernel)
theorem w_isBl {K : PySem.W.Frag} {H : Hp} {Q : VK} {v : V} (h : Kn K H v) (q : Q (.bl (isBl v)) H) : rIsi K [v, .ty "bool"] H Q := by
  obtain ⟨T, t, e, e1, e2, e3⟩ := kn_ty h
  refine ⟨v, .ty "bool", .type T, .type "bool", isBl v, rfl, .ty "bool", t, ?_, q⟩
  rw [e2]
  rcases e with rfl | rfl | rfl | rfl | rfl | rfl | rfl <;> exact kit_ty (by decide +kernel)
theorem w_isStr {K : PySem.W.Frag} {H : Hp} {Q : VK} {v : V} (h : Kn K H v) (q : Q (.bl (isStr v)) H) : rIsi K [v, .ty "str"] H Q := by
  obtain ⟨T, t, e, e1, e2, e3⟩ := kn_ty h
  refine ⟨v, .ty "str", .type T, .type "str", isStr v, rfl, .ty "str", t, ?_, q⟩
  rw [e3]
  rcases e with rfl | rfl | rfl | rfl | rfl | rfl | rfl <;> exact kit_ty (by decide +kernel)

/-! ### a text in a row of texts -/
theorem inV_strs (x : Str) : ∀ ss : List Str, inV (.str x) (ss.map V.str) = ss.contains x
  | [] => rfl
  | s :: ss => by
    have ih := inV_strs x ss
    unfold inV at ih ⊢
    rw [List.map_cons, List.any_cons, ih, List.contains_cons]
    congr 1
    show eqV (.str s) (.str x) = (x == s)
    by_cases h : x = s
    · subst h; simp [eqV]
    · have h2 : ¬ s = x := fun e => h e.symm
      show (s == x) = (x == s)
      rw [beq_eq_false_iff_ne.mpr h, beq_eq_false_iff_ne.mpr h2]
theorem flat_strs : ∀ ss : List Str, (ss.map V.str).all flatV = true
  | [] => rfl
  | s :: ss => by rw [List.map_cons, List.all_cons, flat_strs ss]; rfl
theorem w_inT {K : PySem.W.Frag} {H : Hp} {Q : VK} {p : Addr} {x : Str} {ss : List Str} (s : SqT K H p (ss.map V.str)) (q : Q (.bl (ss.contains x)) H) : rIn K false (.str x) (.ref p) H Q :=
  ⟨p, _, rfl, .inr s, rfl, flat_strs ss, by rw [inV_strs]; exact q⟩
theorem w_notInT {K : PySem.W.Frag} {H : Hp} {Q : VK} {p : Addr} {x : Str} {ss : List Str} (s : SqT K H p (ss.map V.str)) (q : Q (.bl (!ss.contains x)) H) : rIn K true (.str x) (.ref p) H Q :=
  ⟨p, _, rfl, .inr s, rfl, flat_strs ss, by rw [inV_strs]; exact q⟩

/-! ### defs that may be called by their names -/
/-- a def of the text as it stands behind the top, under its name -/
structure DefOk (K : PySem.W.Frag) (mg : Str → Option Value) (x : Str) (st : Stmt) (ps : List Str) : Prop where
  ex : ∃ (f : Addr) (fd : FuncData), Fun K x x st f fd ∧ mg x = some (.ref f) ∧ Binds K fd ps []
structure Can (P : Program) (w : World) (K : PySem.W.Frag) (mg : Str → Option Value) (base : Heap) (CX : CXT) (k : Nat) (x : Str) (ps : List Str) (sp : Sp) : Prop where
  ex : ∃ (f : Addr) (fd : FuncData), FnOk P w K mg base CX k f fd ps sp ∧ mg x = some (.ref f) ∧ PySem.W.keepIn K (.ref f) = true ∧ Binds K fd ps []
theorem DefOk.can {P : Program} {w : World} {K : PySem.W.Frag} {mg : Str → Option Value} {base : Heap} {CX : CXT} {k : Nat} {x : Str} {st : Stmt} {ps : List Str} {sp : Sp} (d : DefOk K mg x st ps)
    (h : ∀ f fd, Fun K x x st f fd → FnOk P w K mg base CX k f fd ps sp) : Can P w K mg base CX k x ps sp := by
  obtain ⟨f, fd, F, m, b⟩ := d.ex
  exact ⟨f, fd, h f fd F, m, F.kp, b⟩
section
variable {X : Cx} {CX : CXT} {k j : Nat} {x : Str} {ps : List Str} {sp : Sp} {E : XK} {p pos : Pos} {e : Expr} {es : List Expr} {t : TA}
theorem pe_can (c : Can X.prog X.w X.K X.mg X.base CX k x ps sp) (hr : Room j X.A) (hk : k ≤ j) (hx : Passes CX X E) (hg : Gl X x) (ha : PA X (e :: es) t) (hdb : (x == ("__debug__" : Str)) = false := by decide)
    (he : starEach (e :: es) X.env = (false, eval e X.env) :: starEach es X.env := by rfl) (hpl : (backTo pos (starEach es X.env)).any (·.1) = false := by rfl) :
    PE X (.Call (.Name x p) (e :: es) [] pos) (tCall sp [] E t) := by
  obtain ⟨f, fd, F, m, kp, b⟩ := c.ex
  exact pe_call F (hr.mono hk) hg m kp b .nil hx ha hdb he hpl
/-- a constant of the text -/
theorem pe_gc {X : Cx} {x : Str} {v : V} {pos : Pos} (hg : Gl X x) (h : ∃ u, X.mg x = some u ∧ RelV v u) (hd : (x == ("__debug__" : Str)) = false := by decide) : PE X (.Name x pos) (tC v) := by
  obtain ⟨u, hm, r⟩ := h
  exact pe_glob hg hm r hd
/-! ### a local name that holds a def -/
def tHeld (P : Program) (w : World) (K : PySem.W.Frag) (mg : Str → Option Value) (base : Heap) (k i : Nat) (t : TA) : TE := fun σ H Q => ∃ f sp, σ[i]? = some (some (.ref f)) ∧ Held P w K mg base k f sp ∧ t σ H fun vs H1 => sp vs H1 Q (fun _ _ _ => False)
theorem pe_held {X : Cx} {k i : Nat} {x : Str} {p pos : Pos} {e : Expr} {es : List Expr} {t : TA} (hr : Room k X.A) (hN : X.N[i]? = some x) (hv : Vis X.env.scope x) (ha : PA X (e :: es) t)
    (hdb : (x == ("__debug__" : Str)) = false := by decide) (hcd : (x == ("__classdict__" : Str)) = false := by decide)
    (he : starEach (e :: es) X.env = (false, eval e X.env) :: starEach es X.env := by rfl) (hpl : (backTo pos (starEach es X.env)).any (·.1) = false := by rfl) : PE X (.Call (.Name x p) (e :: es) [] pos) (tHeld X.prog X.w X.K X.mg X.base k i t) := by
  refine ⟨fun pins s σ H Q I h => ?_⟩
  obtain ⟨f, sp, hs, hS, ht⟩ := h
  exact (pe_callA (p := p) (pos := pos) (S := fun a => if a = f then some sp else none) (fun g sg e => by
    by_cases hg : g = f
    · subst hg; simp at e; subst e; exact hS
    · simp [hg] at e) hr hN hv ha hdb hcd he hpl).run pins s σ H Q I ⟨f, sp, hs, by simp, ht⟩
theorem w_held {P : Program} {w : World} {K : PySem.W.Frag} {mg : Str → Option Value} {base : Heap} {k i : Nat} {t : TA} {σ : L2.St} {H : Hp} {Q : VK} {f : Addr} {sp : Sp} (e : σ[i]? = some (some (.ref f))) (h : Held P w K mg base k f sp)
    (q : t σ H fun vs H1 => sp vs H1 Q (fun _ _ _ => False)) : tHeld P w K mg base k i t σ H Q := ⟨f, sp, e, h, q⟩
end
/-! ### what grows -/
def Grow (H H' : Hp) : Prop := ∀ b o, H b = some o → H' b = some o
theorem Grow.refl (H : Hp) : Grow H H := fun _ _ e => e
theorem Grow.trans {H H1 H2 : Hp} (a : Grow H H1) (b : Grow H1 H2) : Grow H H2 := fun x o e => b x o (a x o e)
theorem Grow.new {H : Hp} {p : Addr} {o : HO} (n : H p = none) : Grow H (upd H p o) := fun b u e => by rw [upd_ne (ne_of_none e n)]; exact e
theorem Grow.ext {c : Addr} {H H' : Hp} (g : Grow H H') : Ext c H H' := fun b o _ e => g b o e
theorem Grow.sqL {K : PySem.W.Frag} {H H' : Hp} {a : Addr} {xs : List V} (g : Grow H H') (h : SqL K H a xs) : SqL K H' a xs := by
  rcases h with (h | ⟨o, h⟩) | h
  · exact .inl (.inl (g _ _ h))
  · exact .inl (.inr ⟨o, g _ _ h⟩)
  · exact .inr h
theorem Grow.sqT {K : PySem.W.Frag} {H H' : Hp} {a : Addr} {xs : List V} (g : Grow H H') (h : SqT K H a xs) : SqT K H' a xs := by
  rcases h with (h | ⟨o, h⟩) | h
  · exact .inl (.inl (g _ _ h))
  · exact .inl (.inr ⟨o, g _ _ h⟩)
  · exact .inr h
theorem Cloud.grow {K : PySem.W.Frag} {H H' : Hp} {c : Addr} {n : Nat} (g : Grow H H') (h : Cloud K H c n) : Cloud K H' c n := by
  obtain ⟨l, cells, rest, h1, h2, h3⟩ := h
  exact ⟨l, cells, rest, g _ _ h1, g.sqL h2, h3⟩
theorem Cloud.new {K : PySem.W.Frag} {H : Hp} {c p : Addr} {n : Nat} {o : HO} (e : H p = none) (h : Cloud K H c n) : Cloud K (upd H p o) c n := h.grow (Grow.new e)
theorem Cloud.some {K : PySem.W.Frag} {H : Hp} {c : Addr} {n : Nat} (h : Cloud K H c n) : ∃ o, H c = some o := by
  obtain ⟨l, cells, rest, h1, _⟩ := h
  exact ⟨_, h1⟩
theorem Cloud.ne {K : PySem.W.Frag} {H : Hp} {c p : Addr} {n : Nat} (h : Cloud K H c n) (e : H p = none) : p ≠ c := by
  obtain ⟨o, q⟩ := h.some
  exact fun z => ne_of_none q e z.symm
/-! ### targets -/
section
variable {K : PySem.W.Frag} {σ : L2.St} {H : Hp} {QG : L2.St → Hp → Prop} {v : V} {vs : List V}
theorem w_gtup {n : Nat} {t : TGs} {a : Addr} (s : SqT K H a vs) (l : vs.length = n) (h : t vs σ H QG) : gTup K n t (.ref a) σ H QG := ⟨a, vs, rfl, s, l, h⟩
theorem w_gcons {t : TG} {u : TGs} (h : t v σ H fun σ' H' => u vs σ' H' QG) : gCons t u (v :: vs) σ H QG := ⟨v, vs, rfl, h⟩
theorem w_gnil (h : QG σ H) : gNil [] σ H QG := ⟨rfl, h⟩
end
theorem w_par {σ : L2.St} {H : Hp} {D : Ends} {i j : Nat} {ta : TA} (h : ta σ H fun vs H1 => ∃ v w, vs = [v, w] ∧ D.nx ((σ.set i (some v)).set j (some w)) H1) : tPar i j ta D σ H := h
theorem w_par2 {v u : V} {R : V → V → Prop} (h : R v u) : ∃ x y, [v, u] = [x, y] ∧ R x y := ⟨v, u, rfl, h⟩
theorem w_inX {K : PySem.W.Frag} {H : Hp} {Q : VK} {p : Addr} {x : V} {vs : List V} (s : SqT K H p vs) (f1 : flatV x = true) (f : vs.all flatV = true) (q : Q (.bl (inV x vs)) H) : rIn K false x (.ref p) H Q := ⟨p, vs, rfl, .inr s, f1, f, q⟩
theorem w_chain {r r' : R2} {ta tb tc : TE} {σ : L2.St} {H : Hp} {Q : VK} (h : ta σ H fun x H1 => tb σ H1 fun y H2 => r x y H2 fun z H3 => ∃ k, z = .bl k ∧ (if k = true then tc σ H3 fun w' H4 => r' y w' H4 Q else Q (.bl false) H3)) : tChain r r' ta tb tc σ H Q := h
theorem w_dnew {σ : L2.St} {H : Hp} {Q : VK} (h : ∀ p, H p = none → Q (.ref p) (upd H p (.dK []))) : tDNewK σ H Q := h
theorem w_callNB {n m : Nat} {sp : Sp} {gV : List V → List V → List V} {E : XK} {t tk : TA} {σ : L2.St} {H : Hp} {Q : VK} (h : t σ H fun vs H1 => tk σ H1 fun zs H2 => vs.length = n ∧ zs.length = m ∧ sp (gV vs zs) H2 Q E) : tCallN n m sp gV E t tk σ H Q := h
end FW

set_option maxRecDepth 100000
set_option maxHeartbeats 4000000
/-! fair weather: exceptions that are kept -/
namespace PySem.W
open PySem PySem.Spec PySem.Calls PyProof.Rows
section
variable {prog : Program} {w : World} {A : Around} {E : Value → Shared → Prop} {s : Shared} {K : Frag} {x D : Addr} {ox : Obj} {od : Option Obj}
theorem fw_findClass (dct : hasDictIn K D = true) (ha : findIn K (.ref D) "__class__" = some (some (.builtin "object.__class__"))) (hn : specialIn K (.builtin "object.__class__") "__get__" = some (some (.builtin "getset_descriptor.__get__")))
    (htk : takesIn K (.builtin "object.__class__") = some true) : findObj K D od "__class__" = some (.bind (.builtin "getset_descriptor.__get__") (.builtin "object.__class__")) := by
  obtain ⟨cd, hc, _⟩ := any_some dct
  unfold findObj
  rw [hc, Option.bind_some, ha, Option.bind_some]
  simp [hn, htk]
/-- the class of an own exception, asked by isinstance: whether it has a dict or not -/
theorem fw_class {Q : Option Value → Shared → Prop} (C : L2.ExcC K D) (X : K.In s.heap) (I : InstAt s.heap x ox D od) (h : Q (some (.ref D)) { s with toks := s.toks + 1 }) : wpAny (model prog w) A (getAttr? (.ref x) "__class__") Q E s := by
  have hf := fw_findClass (od := od) C.hd C.ha C.hn C.ht
  obtain ⟨hp, gs, dr, tk, os⟩ := s
  have l0 := I.type (M := model prog w)
  have l1 := looks_findIn (M := model prog w) X C.hg
  have l2 := looks_findIn (M := model prog w) X C.hk
  have l3 := looks_find (M := model prog w) X I hf
  have ls : Looks (model prog w) hp (isInstance (.ref x) (.type "BaseException")) true := l0.andThen (looks_subIn X C.hs)
  have b0 : (false && onTheHeap (Value.builtin "BaseException.__getattribute__")) = false := rfl
  have b2 : (Value.builtin "BaseException.__getattribute__" == Value.builtin "object.__getattribute__") = false := by decide +kernel
  have b1 : (onTheHeap (Value.ref D) && Value.builtin "BaseException.__getattribute__" == Value.builtin "object.__getattribute__") = false := by rw [b2]; rfl
  unfold getAttr? getAttrBy? getAttrBy
  refine wpAny_bind (wpAny_mkText (wpAny_bind (wpAny_attempt (wpAny_holding (wpAny_bind (l0.at (wpAny_bind (l1.at ?_))))))))
  show wpAny _ _ (if (onTheHeap (Value.ref D) && Value.builtin "BaseException.__getattribute__" == Value.builtin "object.__getattribute__") = true then _ else _) _ _ _
  rw [b1, if_neg Bool.false_ne_true]; unfold getAttrByItsOwn hookBefore
  refine wpAny_bind ?_
  rw [if_pos (show onTheHeap (Value.ref D) = true from rfl)]
  refine l2.at ?_
  refine wpAny_bind (wpAny_attempt (wpAny_holding ?_))
  unfold callGetattribute; rw [b0, if_neg Bool.false_ne_true]; unfold boundAndCalled
  rw [PySem.F.excAttr_ValueError.ga.bind (.ref x)]
  refine wpAny_bind (wpAny_pure ?_)
  show wpAny _ _ (call (.builtin "BaseException.__getattribute__") [.ref x, .str "__class__" tk]) _ _ _
  refine wpAny_call (codeAny_call_builtin PySem.F.excAttr_ValueError.ga.plain PySem.F.entry_bexc_ga ?_)
  refine @check_slot (model prog w) _ _ ⟨hp, gs, dr, tk + 1, os⟩ "BaseException.__getattribute__" "BaseException" "__getattribute__" (.ref x) [.str "__class__" tk] [] _ (by decide +kernel) (by decide +kernel) ls (PySem.F.args_bexc_ga (.ref x) (.str "__class__" tk)) ?_
  unfold Builtin.«object.__getattribute__»
  refine wpAny_bind (wpAny_of_eq (a := ((Value.ref x : Value), [Value.str "__class__" tk])) (by first | rfl | (simp only [slotArgs]; rfl)) ?_)
  refine wpAny_bind (wpAny_pure (wpAny_bind (l0.at (wpAny_bind (l3.at ?_)))))
  show wpAny _ _ (holding [Value.builtin "object.__class__"] (call (.builtin "getset_descriptor.__get__") [.builtin "object.__class__", .ref x, .ref D]) >>= ret) _ _ _
  refine wpAny_bind (wpAny_holding (wpAny_call (class_get (s := ⟨hp, gs, dr, tk + 1, os⟩) (ox := ox) (od := od) X I C.hm ?_)))
  refine wpAny_pure ?_
  show wpAny _ _ (handedOut (.ref D)) _ _ _
  rw [handedOut_of (v := .ref D) rfl]
  first
    | exact wpAny_pure (wpAny_pure h)
    | exact wpAny_pure h
    | exact wpAny_pure (wpAny_bind (wpAny_pure (wpAny_pure h)))
theorem fw_kitx (C : L2.ExcC K D) : KitX K (.ref x) (.ref D) (fun h => InstAt h x ox D od) where
  ty := fun _ _ _ I => I.type
  it := fun _ _ X _ => by
    obtain ⟨cd, hc, _⟩ := any_some C.hd
    unfold clsIn at hc; split at hc
    · rename_i ho
      intro A Q E s k q; unfold isType loadHead
      exact wpAny_bind (wpAny_loadPart (k _ _ (X _ _ ho)) (wpAny_pure q))
    · exact nomatch hc
  ne := fun h tp dd its n sl X htp => (handS_kitx_exc (x := x) (ox := ox) C.hg C.hk C.hs C.hd C.ha C.hn C.ht C.hm).ne h tp dd its n sl X htp
  ca := fun X I k => fw_class C X I k
end
end PySem.W

namespace FW
open PySem L2 PyProof.Rows
/-- an exception that is kept, at a: its class, its dict -/
def ExT (a : Addr) (cls : Value) (d : Option Addr) : HO := .ext fun h => ∃ (oe : Obj) (vs : Array Value), h.get? a = some oe ∧ Zc cls d oe ∧ oe.data = .fields vs
theorem exT_ok {P : Program} {w : World} {H : Hp} {h : Heap} {a : Addr} {cls : Value} {d : Option Addr} {oe : Obj} {vs : Array Value} (e : h.get? a = some oe) (z : Zc cls d oe) (f : oe.data = .fields vs) : ObjOk P w H h a (ExT a cls d) :=
  ⟨⟨oe, vs, e, z, f⟩, ⟨oe, e⟩, fun _ _ ⟨o, v, q, r⟩ k => ⟨o, v, k o q, r⟩⟩
theorem exT_at {P : Program} {w : World} {H : Hp} {h : Heap} {a : Addr} {cls : Value} {d : Option Addr} (ok : HOk P w H h) (e : H a = some (ExT a cls d)) : ∃ (oe : Obj) (vs : Array Value), h.get? a = some oe ∧ Zc cls d oe ∧ oe.data = .fields vs := by
  have x : ObjOk P w H h a (.ext fun h => ∃ (oe : Obj) (vs : Array Value), h.get? a = some oe ∧ Zc cls d oe ∧ oe.data = .fields vs) := ok a _ e
  exact x.1
section
variable {X : Cx} {pins : List (Addr × Obj)} {σ : L2.St} {H : Hp} {sI s' : Shared} {B : Heap} {a : Addr} {cls : Value} {d : Option Addr} {oe : Obj} {vs : Array Value}
/-- an exception has landed, and is kept from now on -/
theorem landT (I : Inv X pins σ H sI) (nb : ∀ b o, sI.heap.get? b = some o → b ∉ frs X.stack → B.get? b = some o) (ba : B.get? a = none) (na : H a = none) (nfr : a ∉ frs X.stack) (st : B.StaysIn s'.heap) (up : sI.heap.UpToSlots s'.heap) (os : s'.os = sI.os)
    (ag : AllBare s'.gens) (e : s'.heap.get? a = some oe) (z : Zc cls d oe) (f : oe.data = .fields vs) : Inv X pins σ (upd H a (ExT a cls d)) s' := by
  have gone : sI.heap.get? a = none := by
    cases q : sI.heap.get? a with
    | none => rfl
    | some o => have := nb a o q nfr; rw [ba] at this; exact nomatch this
  have ne : ∀ b o, sI.heap.get? b = some o → b ≠ a := fun b o q y => by rw [y, gone] at q; exact nomatch q
  have slot : ∀ b ∈ frs X.stack, ∀ o, sI.heap.get? b = some o → ∃ sl, s'.heap.get? b = some { o with slots := sl } := fun b hb o q => by
    obtain ⟨_, o', q', hd⟩ := I.stack.mem hb
    rw [q] at q'; cases q'
    exact up b o q hd
  refine I.call' (ch := []) os ⟨fun b o q _ hb _ => st b o (nb b o q hb), fun b o q _ hb _ => slot b hb o q, fun b o q n _ => by rw [upd_ne (ne b o q)]; exact n, fun b o q _ => ?_, fun b xs q => by rw [upd_ne (ne_of_none q na)]; exact q,
    fun b o u q => by rw [upd_ne (ne_of_none q na)]; exact q, fun b ps q => ⟨#[], by rw [upd_ne (ne_of_none q na), q]; simp⟩⟩ ?_ ag (fun _ y => nomatch y)
  · by_cases hb : b ∈ frs X.stack
    · obtain ⟨sl, y⟩ := slot b hb o q
      exact ⟨_, y⟩
    · exact ⟨o, st b o (nb b o q hb)⟩
  · exact HOk.laidN ((I.inGround nb).kept st) (fun _ _ y => y) na (exT_ok e z f)
/-- into a suite whose exception is kept -/
theorem toSuite (I : Inv X pins σ H sI) : Inv (X.suite a (X.pn ++ pins)) [] σ H sI :=
  ⟨I.ok.suite _ _, I.os, I.bare, I.base, I.loc, I.cell, I.free, I.freeC, fun p hp => by rw [List.append_nil] at hp; exact I.pin p hp, I.hok, I.len⟩
theorem ofSuite {pn' : List (Addr × Obj)} (I : Inv (X.suite a (X.pn ++ pins)) pn' σ H sI) (ok : X.Ok) : Inv X pins σ H sI :=
  ⟨ok, I.os, I.bare, I.base, I.loc, I.cell, I.free, I.freeC, fun p hp => I.pin p (List.mem_append_left _ hp), I.hok, I.len⟩
end
/-- what is wished of an exception by «except c as n: y = n»: it is kept; slot i is n's, slot j is y's -/
def wKeep (K : PySem.W.Frag) (c : Value) (n i j : Nat) (D : Ends) : WX := fun cls d σ H => PySem.W.exmOne K cls c = some true ∧ ∀ a, H a = none → σ.length = n → D.nx (((σ.set i (some (.ref a))).set j (some (.ref a))).set i none) (upd H a (ExT a cls d))
section
variable {X : Cx} {x n y : Str} {c : Value} {i j : Nat} {body : List Stmt} {np py pn' pa pos pos' : Pos} {tb : WX → TS}
theorem ps_try_keep (hs : X.stack = X.env :: X.outer) (hf : X.env.frame = some X.env.locals) (hN : X.N.Nodup) (hi : X.N[i]? = some n) (hln : X.env.kindOf n = some .local) (hj : X.N[j]? = some y) (hly : X.env.kindOf y = some .local) (hij : i ≠ j) (hc : Names X x c)
    (hb : ∀ (W : WX) (pn : List (Addr × Obj)) (xe : Value → Shared → Prop), Takes (X.tr pn xe) W → PassesOwn (model X.prog X.w) X.A X.env xe → PSs (X.tr pn xe) body (tb W))
    (hsw : swapsWith (.Name n pn') (some (.Name y py)) pa.line X.env = pure false := by rfl) (hdn : (n == ("__debug__" : Str)) = false := by decide) (hcn : (n == ("__classdict__" : Str)) = false := by decide) :
    PS X (.Try body [.ExceptHandler (some (.Name x np)) (some n) [.Assign [.Name y py] (.Name n pn') pa] pos'] [] [] pos) (fun D σ H => i < σ.length ∧ tb (wKeep X.K c X.N.length i j D) D σ H) := by
  refine ⟨fun pins s σ H D I h => ?_⟩
  obtain ⟨hlen, h⟩ := h
  have ok := I.ok
  have hfr : X.A.frames = some (X.env :: X.outer) := by rw [ok.frames, hs]
  refine wpAny_Try_except ?_
  refine wpAny_mono ((hb (wKeep X.K c X.N.length i j D) (X.pn ++ pins) _ (fun u s1 xx => ?c1) PassesOwn.looking).run [] s σ H D (I.toTry _) h) (fun f s1 hsp => ?flow) (fun e s1 he => he)
  case flow =>
    cases f with
    | next => obtain ⟨σ1, H1, J, q⟩ := hsp; exact wpAny_execs_nil ⟨σ1, H1, J.ofTry ok, q⟩
    | brk => obtain ⟨σ1, H1, J, q⟩ := hsp; exact ⟨σ1, H1, J.ofTry ok, q⟩
    | cont => obtain ⟨σ1, H1, J, q⟩ := hsp; exact ⟨σ1, H1, J.ofTry ok, q⟩
    | ret u => obtain ⟨v, σ1, H1, J, r, q⟩ := hsp; exact ⟨v, σ1, H1, J.ofTry ok, r, q⟩
  case c1 =>
    obtain ⟨a, B, sI, pins1, σ1, H1, cls, d, rfl, J1, nb, up, sky, na, os, ag, hm, hyes⟩ := xx
    have J : Inv X pins σ1 H1 sI := J1.ofTry ok
    have sky1 : Sky B (X.env :: X.outer) a (Zc cls d) X.env.locals s1.heap := by rw [← hs]; exact sky
    show wpAny (model X.prog X.w) X.A (noteFrame (.ref a) X.env) _ _ _
    refine Sky.land Zc.steady hfr hf sky1 fun h3 fl3 up3 => ?_
    obtain ⟨oe3, vs3, he3, hz3, hd3⟩ := fl3.there
    have notFr : a ∉ frs X.stack := fun hmem => by
      rw [hs] at hmem
      obtain ⟨_, o', e', hnf⟩ := fl3.2.2.1.mem hmem
      rw [he3] at e'; cases e'
      exact hnf _ hd3
    have J3 : Inv X pins σ1 (upd H1 a (ExT a cls d)) { s1 with heap := h3 } := landT J nb fl3.2.1 na notFr fl3.1 (up.trans up3) os ag he3 hz3 hd3
    have S3 : Inv (X.suite a (X.pn ++ pins)) [] σ1 (upd H1 a (ExT a cls d)) { s1 with heap := h3 } := toSuite J3
    refine wpAny_handleBy_cons (codeAny_handlers_test ?_) (by intro q; cases q)
    have lt : PySem.W.Looks (model X.prog X.w) h3 (typeOf (.ref a)) cls := fun A Q E s k q => wpAny_typeOf_ref (k _ _ he3) (by rw [hz3.1]; exact q)
    have lm := PySem.W.exm_one (M := model X.prog X.w) J3.kIn lt hm
    have test : ∀ {Q : Value → Shared → Prop} {E : Value → Shared → Prop}, Q c { s1 with heap := h3 } → wpAny (model X.prog X.w) (X.A.mark (some (.ref a))) (eval (.Name x np) X.env) Q E { s1 with heap := h3 } := fun {Q E} q => by
      obtain ⟨g1, g2, g3 | ⟨g3, g4, g5⟩⟩ := hc
      · exact ld_glob (X := X.suite a (X.pn ++ pins)) S3 g1 g3 q g2
      · exact ld_blt (X := X.suite a (X.pn ++ pins)) S3 g1 g3 g4 q g5 g2
    refine test (lm.here ?_)
    refine codeAny_handlers_suite_as (HandSPX.lands_againZ fl3 fun h4 fl4 up4 => ?_)
    obtain ⟨oe4, vs4, he4, hz4, hd4⟩ := fl4.there
    have J4 : Inv X pins σ1 (upd H1 a (ExT a cls d)) { s1 with heap := h4 } := landT J nb fl4.2.1 na notFr fl4.1 ((up.trans up3).trans up4) os ag he4 hz4 hd4
    refine store_ok (X := X.suite a (X.pn ++ pins)) (v := .ref a) (toSuite J4) hN hi (.inl hln) rfl (fun s5 S5 => ?_) (.inr hln)
    have suite : PSs (X.suite a (X.pn ++ pins)) [.Assign [.Name y py] (.Name n pn') pa] (tAsg (tVar i) (gName j)) :=
      pss_one (ps_set hN hj (.inl hly) (pe_var hi (.inl hln) hdn hcn) hsw (.inr hly))
    refine wpAny_mono (suite.run [] s5 _ _ { nx := fun σ6 H6 => D.nx (σ6.set i none) H6, rt := fun _ _ => False } S5 ?_) (fun f s6 hsp => ?_) (fun _ _ z => z.elim)
    · refine ⟨.ref a, ?_, ?_⟩
      · have : i < σ1.length := by rw [J.len]; rw [I.len] at hlen; exact hlen
        rw [List.getElem?_set_self this]
      · exact hyes a na J.len
    · cases f with
      | next =>
        obtain ⟨σ6, H6, S6, q6⟩ := hsp
        exact gone_ok (ofSuite S6 ok) hN hi hln fun s7 J7 => ⟨_, _, J7, q6⟩
      | brk => obtain ⟨σ6, H6, S6, q6⟩ := hsp; exact q6.elim
      | cont => obtain ⟨σ6, H6, S6, q6⟩ := hsp; exact q6.elim
      | ret u => obtain ⟨v6, σ6, H6, S6, r6, q6⟩ := hsp; exact q6.elim
end

/-- isinstance(e, c), e an exception that is kept -/
def rIsX (K : PySem.W.Frag) : List V → Hp → VK → Prop := fun xs H Q => ∃ (a D : Addr) (d : Option Addr) (c : V) (cv : Value) (b : Bool), xs = [.ref a, c] ∧ H a = some (ExT a (.ref D) d) ∧ ExcC K D ∧
  (d = none ∨ ∃ (dd : Addr) (fs : List (Str × V)), d = some dd ∧ H dd = some (.xd fs)) ∧ ClsV c cv ∧ PySem.W.kitOne K (.ref D) cv = some b ∧ Q (.bl b) H
theorem inst_of {X : Cx} {pins : List (Addr × Obj)} {σ : L2.St} {H : Hp} {s : Shared} {a D : Addr} {d : Option Addr} (I : Inv X pins σ H s) (e : H a = some (ExT a (.ref D) d)) (hd : d = none ∨ ∃ (dd : Addr) (fs : List (Str × V)), d = some dd ∧ H dd = some (.xd fs)) :
    ∃ (ox : Obj) (od : Option Obj), PySem.W.InstAt s.heap a ox D od := by
  obtain ⟨oe, vs, h1, h2, h3⟩ := exT_at I.hok e
  obtain ⟨oc, ob, odt, osl⟩ := oe
  obtain ⟨z1, z2⟩ := h2
  dsimp only at z1 z2 h3
  subst z1 z2 h3
  rcases hd with rfl | ⟨dd, fs, rfl, hx⟩
  · exact ⟨_, none, h1, rfl, rfl, trivial⟩
  · obtain ⟨mA, ⟨o, es, ep, ho, _⟩, _⟩ := (show ObjOk X.prog X.w H s.heap dd (.xd fs) from I.hok dd _ hx)
    exact ⟨_, some o, h1, rfl, rfl, ho⟩
theorem call_isX {X : Cx} : CallR X (.builtin "isinstance") (rIsX X.K) := by
  intro pins s σ H xs us Q I r h
  obtain ⟨a, D, d, c, cv, b, rfl, e, C, hd, k, q1, q⟩ := h
  obtain ⟨u1, u2, rfl, r1, r2⟩ := vals2 r
  cases (show u1 = Value.ref a from r1)
  have e2 := k.eq r2
  subst e2
  obtain ⟨ox, od, J⟩ := inst_of I e hd
  exact PySem.W.kia_one (PySem.W.fw_kitx C) I.kIn J q1 (fun z => nomatch z) fun tk => ⟨.bl b, H, I.tok tk, rfl, q⟩
/-- isinstance of a plain value, or of an exception that is kept -/
def rIsA (K : PySem.W.Frag) : List V → Hp → VK → Prop := fun xs H Q => rIsi K xs H Q ∨ rIsX K xs H Q
theorem call_isA {X : Cx} : CallR X (.builtin "isinstance") (rIsA X.K) := by
  intro pins s σ H xs us Q I r h
  rcases h with h | h
  · exact call_isi pins s σ H xs us Q I r h
  · exact call_isX pins s σ H xs us Q I r h
theorem w_isIntA {K : PySem.W.Frag} {H : Hp} {Q : VK} {v : V} (h : Kn K H v) (q : Q (.bl (isIntB v)) H) : rIsA K [v, .ty "int"] H Q := Or.inl (w_isInt h q)
theorem w_isBlA {K : PySem.W.Frag} {H : Hp} {Q : VK} {v : V} (h : Kn K H v) (q : Q (.bl (isBl v)) H) : rIsA K [v, .ty "bool"] H Q := Or.inl (w_isBl h q)
theorem w_isStrA {K : PySem.W.Frag} {H : Hp} {Q : VK} {v : V} (h : Kn K H v) (q : Q (.bl (isStr v)) H) : rIsA K [v, .ty "str"] H Q := Or.inl (w_isStr h q)
/-- e.f, e an exception that is kept -/
def tXt (K : PySem.W.Frag) (f : Str) (te : TE) : TE := fun σ H Q => te σ H fun x H1 => ∃ (a C dd : Addr) (fs : List (Str × V)) (v : V), x = .ref a ∧ H1 a = some (ExT a (.ref C) (some dd)) ∧ H1 dd = some (.xd fs) ∧ XfC K C ∧
  PySem.W.findIn K (.ref C) f = some none ∧ fs.lookup f = some v ∧ Q v H1
theorem pe_xt {X : Cx} {e : Expr} {te : TE} {pos : Pos} {f : Str} (he : PE X e te) (hb : attributeBase e f X.env (eval e X.env) = eval e X.env := by rfl) : PE X (.Attribute e f pos) (tXt X.K f te) := by
  refine ⟨fun pins s σ H Q I h => attr_of hb (thn (he.run pins s σ H _ I h) fun u s1 ⟨x, H1, I1, rx, a, C, dd, fs, v, ex, ea, ed, T, hno, hl, q⟩ => ?_)⟩
  subst ex
  obtain rfl : u = Value.ref a := rx
  obtain ⟨oe, vs, h1, h2, h3⟩ := exT_at I1.hok ea
  obtain ⟨mA, hns, hr⟩ := (show ObjOk X.prog X.w H1 s1.heap dd (.xd fs) from I1.hok dd _ ed)
  obtain ⟨od, ho, l⟩ := lookIn_ns hns
  obtain ⟨z, hz, rz⟩ := RelO.some_of (v := v) (o := mA f) (by rw [← hl]; exact hr f)
  have J : PySem.W.InstAt s1.heap a oe C (some od) := ⟨h1, h2.1, by unfold PySem.W.notCls; rw [h3] <;> rfl, by rw [h2.2]; exact ho⟩
  exact HandSPX.exc_get I1.kIn J T.ga T.gg T.exC (PySem.W.findObj_own T.hdC hno rfl (by rw [l, hz])) (handed_of rz) ⟨v, H1, I1.tok _, rz, q⟩

/-! ### an own exception of one field, made and raised -/
/-- its __init__: self.f = v -/
def spInit1 (K : PySem.W.Frag) (C : Addr) (f : Str) : Sp := fun vs H Q _ => ∃ (a : Addr) (v : V), vs = [.ref a, v] ∧ OexC K C ∧ PySem.W.findIn K (.ref C) f = some none ∧ H a = some (exo a C none) ∧
  ∀ dx, H dx = none → dx ≠ a → Q .non (upd (upd H dx (exd dx [(f, v)])) a (exo a C (some dx)))
/-- what the text says of such a class -/
structure Exn (P : Program) (w : World) (K : PySem.W.Frag) (mg : Str → Option Value) (base : Heap) (cn f : Str) (C : Addr) : Prop where
  oex : OexC K C
  gC : mg cn = some (.ref C)
  no : PySem.W.findIn K (.ref C) f = some none
  xf : XfC K C
  exc : ExcC K C
  init : ∃ (fI : Addr) (fd : FuncData) (ps : List Str), PySem.W.findIn K (.ref C) "__init__" = some (some (.ref fI)) ∧ PySem.W.typeIn K (.ref fI) = some (.type "function") ∧ FnOk P w K mg base CX0 1 fI fd ps (spInit1 K C f) ∧ Binds K fd ps []
theorem del_upd {H : Hp} {a d : Addr} {o1 o2 o3 o4 : HO} (n : H a = none) (hne : d ≠ a) : upd (del (upd (upd (upd H a o1) d o2) a o3) a) d o4 = upd H d o4 := by
  funext b
  by_cases h1 : b = d
  · subst h1; rw [upd_same, upd_same]
  · rw [upd_ne h1, upd_ne h1]
    by_cases h2 : b = a
    · subst h2; rw [del_same, n]
    · rw [del_ne h2, upd_ne h2, upd_ne h1, upd_ne h2]
def rMk1 (K : PySem.W.Frag) (C : Addr) (f : Str) (Q : XK) : List V → Hp → Prop := fun vs H1 => vs.length ≤ 1000 ∧ ∀ a, H1 a = none → spInit1 K C f (.ref a :: (vs ++ [])) (upd H1 a (exo a C none))
  (fun v H2 => v = .non ∧ ∃ (d : Addr) (fs : List (Str × V)), H2 a = some (exo a C (some d)) ∧ H2 d = some (exd d fs) ∧ H1 d = none ∧ Q (.ref C) (some d) (upd (del H2 a) d (.xd fs))) (fun _ _ _ => False)
theorem w_mk1 {K : PySem.W.Frag} {C : Addr} {f : Str} {Q : XK} {v : V} {H1 : Hp} (T : OexC K C) (no : PySem.W.findIn K (.ref C) f = some none) (q : ∀ d, H1 d = none → Q (.ref C) (some d) (upd H1 d (.xd [(f, v)]))) : rMk1 K C f Q [v] H1 := by
  refine ⟨by simp, fun a na => ⟨a, v, rfl, T, no, upd_same, fun dx n1 n2 => ⟨rfl, dx, [(f, v)], upd_same, ?_, ?_, ?_⟩⟩⟩
  · rw [upd_ne n2, upd_same]
  · rw [upd_ne n2] at n1; exact n1
  · rw [del_upd na n2]; rw [upd_ne n2] at n1; exact q dx n1
def tRaise1 (K : PySem.W.Frag) (C : Addr) (f : Str) (W : WX) (ta : TA) : TS := fun _ σ H => ta σ H (rMk1 K C f fun cls d H' => W cls d σ H')
theorem ps_raise1 {X : Cx} {W : WX} {cn f : Str} {C : Addr} {e : Expr} {ta : TA} {p pos pos2 : Pos} (T : Exn X.prog X.w X.K X.mg X.base cn f C) (hc : X.calm = true) (hr : Room 2 X.A) (tk : Takes X W) (ha : PA X [e] ta) (hg : Gl X cn)
    (hdb : (cn == ("__debug__" : Str)) = false := by decide) (he : starEach (e :: []) X.env = (false, eval e X.env) :: starEach [] X.env := by rfl) (hpl : (backTo pos (starEach [] X.env)).any (·.1) = false := by rfl) :
    PS X (.Raise (some (.Call (.Name cn p) [e] [] pos)) none pos2) (tRaise1 X.K C f W ta) := by
  obtain ⟨fI, fd, ps, iC, tI, F, b⟩ := T.init
  exact ps_raise hc tk (pmk_oex (p := p) (dvs := []) (ds := []) T.oex iC tI F hr b .nil (fun _ _ _ _ _ _ _ z => z.elim) hg T.gC ha hdb he hpl)
theorem w_raise1 {K : PySem.W.Frag} {C : Addr} {f : Str} {W : WX} {ta : TA} {σ : L2.St} {H : Hp} {D : Ends} (h : ta σ H (rMk1 K C f fun cls d H' => W cls d σ H')) : tRaise1 K C f W ta D σ H := h
end FW

set_option maxRecDepth 100000
set_option maxHeartbeats 4000000
/-! fair weather: repr of what a law makes; defs that are promised where no repr is under way -/
namespace FW
open PySem L2 PyProof.Rows
/-- what repr shows of a value -/
def rShow (K : PySem.W.Frag) : List V → Hp → VK → Prop := fun xs H Q =>
  (∃ i, xs = [.int i] ∧ i.natAbs.log2 < 1920 ∧ Q (.str (PyData.shown (.int i))) H) ∨
  (∃ (a : Addr) (d : PyData), xs = [.ref a] ∧ Dp K H (.ref a) d ∧ d.showable = true ∧ d.hasDict = false ∧ d.depth ≤ 60 ∧ d.shown.length ≤ sizeLine ∧ Q (.str d.shown) H)
theorem call_show {X : Cx} (hg : X.A.guards = some []) (hu : X.A.units + 64 < cLine) : CallR X (.builtin "repr") (rShow X.K) := by
  intro pins s σ H xs us Q I r h
  rcases h with ⟨i, rfl, hz, q⟩ | ⟨a, d, rfl, hd, h1, h2, h3, h4, q⟩
  · exact SkE.call_repr_int pins s σ H [.int i] us Q I r ⟨i, rfl, hz, q⟩
  · obtain ⟨u, rfl, e⟩ := vals1 r
    obtain rfl : u = Value.ref a := e
    obtain ⟨as, rd⟩ := Dp.reads I d (.ref a) (.ref a) hd rfl
    exact repr_of_reads' rd h1 (PyData.noDict_hsm h2) hg (by omega) (fun _ _ e => e) (fun h' u tk hk => ⟨.str d.shown, H, I.kept hk, ⟨u, rfl⟩, q⟩) h4
/-- a def's promise, where no repr is under way -/
structure FnG (P : Program) (w : World) (K : PySem.W.Frag) (mg : Str → Option Value) (base : Heap) (CX : CXT) (k : Nat) (f : Addr) (fd : FuncData) (ps : List Str) (sp : Sp) : Prop where
  size : ∀ vs H Q E, sp vs H Q E → vs.length = ps.length
  goes : ∀ (A : Around) (outer : List Env) (s : Shared) (H : Hp) (args : Args) (us : List Value) (vs : List V) (Q : VK) (E : XK), A.guards = some [] → Room k A → Env0 P w K mg base A outer s H → BindsTo s fd args (ps.zip us) → Vals vs us →
    sp vs H Q E → codeAny (model P w) A (.call (.ref f) args) (CR CX outer P w H s Q E) s
section
variable {P : Program} {w : World} {K : PySem.W.Frag} {mg : Str → Option Value} {base : Heap} {CX : CXT}
theorem FnG.of {k : Nat} {f : Addr} {fd : FuncData} {ps : List Str} {sp : Sp} (F : FnOk P w K mg base CX k f fd ps sp) : FnG P w K mg base CX k f fd ps sp :=
  ⟨F.len, fun A outer s H args us vs Q E _ hr e0 hb hv hs => F.run A outer s H args us vs Q E hr e0 hb hv hs⟩
theorem guards_in {A : Around} {env : Env} (h : A.guards = some []) : (A.deeper env).guards = some [] := by
  exact h
theorem fun_okG {x qual : Str} {st : Stmt} {f : Addr} {fd : FuncData} {N ps : List Str} {k : Nat} {sp : Sp} (F : Fun K x qual st f fd) (S : FnScope N ps (defScope st)) (size : ∀ vs H Q E, sp vs H Q E → vs.length = ps.length)
    (walk : ∀ (cdv : Value) (A : Around) (outer : List Env) (s : Shared) (H : Hp) (vs : List V) (Q : VK) (E : XK), (A.deeper (envOfC qual (defScope st) s.heap.objs.size f cdv)).guards = some [] → Room k (A.deeper (envOfC qual (defScope st) s.heap.objs.size f cdv)) →
      (∀ oc od kV doc pm an ct osl, K.lookup f = some ⟨oc, od, .func (PySem.W.fnOf x qual (defArgs st) (defBody st) (defScope st) .none kV doc pm an cdv ct), osl⟩ → sp vs H Q E →
      ∃ t, PSs (cxOf CX P w K mg base N qual (defScope st) f cdv A outer s H E) (defBody st) t ∧ t { nx := fun _ H' => Q .non H', rt := Q } (L2.start N vs) H)) : FnG P w K mg base CX (k + 1) f fd ps sp := by
  obtain ⟨oc, od, kV, doc, pm, an, cdv, ct, osl, rfl, lk, hcd⟩ := F.ex
  exact ⟨size, fun A outer s H args us vs Q E hG hr e0 hb hv hs => LamX.run_ofS lk hcd S hr e0 hb hv (size _ _ _ _ hs) fun hr' => walk cdv A outer s H vs Q E (guards_in hG) hr' oc od kV doc pm an ct osl lk hs⟩
/-- a def under its name that is so promised -/
structure CanG (P : Program) (w : World) (K : PySem.W.Frag) (mg : Str → Option Value) (base : Heap) (CX : CXT) (k : Nat) (x : Str) (ps : List Str) (sp : Sp) : Prop where
  at_ : ∃ (f : Addr) (fd : FuncData), FnG P w K mg base CX k f fd ps sp ∧ mg x = some (.ref f) ∧ PySem.W.keepIn K (.ref f) = true ∧ Binds K fd ps []
theorem CanG.of {k : Nat} {x : Str} {ps : List Str} {sp : Sp} (c : Can P w K mg base CX k x ps sp) : CanG P w K mg base CX k x ps sp := by
  obtain ⟨f, fd, F, m, kp, b⟩ := c.ex
  exact ⟨f, fd, .of F, m, kp, b⟩
theorem canG_of {k : Nat} {x : Str} {st : Stmt} {ps : List Str} {sp : Sp} (d : DefOk K mg x st ps) (h : ∀ f fd, Fun K x x st f fd → FnG P w K mg base CX k f fd ps sp) : CanG P w K mg base CX k x ps sp := by
  obtain ⟨f, fd, F, m, b⟩ := d.ex
  exact ⟨f, fd, h f fd F, m, F.kp, b⟩
end
section
variable {X : Cx} {CX : CXT} {k j : Nat} {x : Str} {ps : List Str} {sp : Sp} {E : XK} {p pos : Pos} {e : Expr} {es : List Expr} {t : TA}
theorem pe_canG (c : CanG X.prog X.w X.K X.mg X.base CX k x ps sp) (hG : X.A.guards = some []) (hr : Room j X.A) (hk : k ≤ j) (hx : Passes CX X E) (hg : Gl X x) (ha : PA X (e :: es) t) (hdb : (x == ("__debug__" : Str)) = false := by decide)
    (he : starEach (e :: es) X.env = (false, eval e X.env) :: starEach es X.env := by rfl) (hpl : (backTo pos (starEach es X.env)).any (·.1) = false := by rfl) :
    PE X (.Call (.Name x p) (e :: es) [] pos) (tCall sp [] E t) := by
  obtain ⟨f, fd, F, m, kp, b⟩ := c.at_
  refine ⟨fun pins s σ H Q I h => wpAny_Call_Name_kw (ld_glob I hg m (PySem.W.callWith_K (h₀ := X.base) I.ok.mod.kin kp (thn (ha.run pos pins s σ H _ I h) fun us s1 y => ?_) he hpl) hdb)⟩
  obtain ⟨vs, H1, J, r, q⟩ := y
  rw [List.append_nil] at q
  have n : us.length = ps.length := by rw [← r.length]; exact F.size _ _ _ _ q
  have bind := b s1 us J.kIn (by rw [List.append_nil]; exact n)
  rw [List.append_nil] at bind
  refine ⟨J.kIn, wpAny_call (codeAny_mono (F.goes X.A X.stack s1 H1 ⟨us, []⟩ us vs Q E hG (hr.mono hk) J.env0 bind r q) fun z s2 hz => ?_)⟩
  match z, hz with
  | .error err, hz => exact hx pins σ H1 s1 err s2 J hz
  | .ok (.ret u), hz => exact J.after hz
  | .ok .next, hz => exact (show False from hz).elim
  | .ok .brk, hz => exact (show False from hz).elim
  | .ok .cont, hz => exact (show False from hz).elim
end
end FW

set_option maxRecDepth 100000
set_option maxHeartbeats 4000000
/-! fair weather: from the promise of a law's def to the row, where no repr is under way -/
namespace FW
open PySem L2 PyProof.Rows LamX
section
variable {P : Program} {w : World} {K : PySem.W.Frag} {mg mb : Str → Option Value} {a : Addr} {cs : List (Addr × Addr)} {vs : List Value} {ns : List Int} {s : Shared}
/-- what stands behind the top, when the law is called -/
structure Ready (K : PySem.W.Frag) (mg mb : Str → Option Value) (a : Addr) (cs : List (Addr × Addr)) (vs : List Value) (ns : List Int) (s : Shared) : Prop where
  kin : K.In s.heap
  glo : s.heap.Ns mainGlobals mg
  blt : s.heap.Ns builtinsNs mb
  same : ∀ x : Str, x ≠ "__name__" → mb x = bootBuiltins x
  lim : s.heap.NoLimit
  gens : s.gens = #[]
  tabs : ∀ p ∈ cs, s.heap.get? p.2 = some { cls := .none, data := .fields #[] }
  off : ∀ p ∈ cs, K.lookup p.2 = none
  heads : ∀ p ∈ cs, PySem.W.CodeHd s.heap p.1 p.2
  bmain : ∃ (bm : Addr) (ob : Obj), mg "__builtins__" = some (.ref bm) ∧ bm ≠ builtinsNs ∧ s.heap.get? bm = some ob ∧ ob.cls = .type "module" ∧ ob.dict = some builtinsNs ∧ ob.data = .plain
  list : s.heap.get? a = some { cls := .type "list", data := .seq vs.toArray }
  nums : IntsAre vs ns
  size : ns.length ≤ sizeLine
/-- what an abstract heap may track then -/
structure Tracks (K : PySem.W.Frag) (a : Addr) (cs : List (Addr × Addr)) (H : Hp) : Prop where
  all : ∀ b u, H b = some u → (b = a ∧ K.lookup a = none ∧ ∃ o xs, u = .frz o (.lst xs)) ∨ ∃ p ∈ cs, b = p.2 ∧ u = .tbl #[]
  tab : ∀ p ∈ cs, H p.2 = some (.tbl #[])
variable {H : Hp}
theorem Ready.lone (R : Ready K mg mb a cs vs ns s) {p : Addr × Addr} (hp : p ∈ cs) : p.2 ≠ a := fun z => by
  have q := R.tabs p hp
  rw [z, R.list] at q
  cases q
/-- an object that is no list and no table is not tracked -/
theorem Ready.other (R : Ready K mg mb a cs vs ns s) (T : Tracks K a cs H) {b : Addr} {o : Obj} (e : s.heap.get? b = some o) (h1 : ∀ us n, o.data ≠ .seq us n) (h2 : o.data ≠ .fields #[]) : H b = none := by
  match q : H b with
  | none => rfl
  | some u =>
    rcases T.all b u q with ⟨rfl, _⟩ | ⟨p, hp, rfl, _⟩
    · rw [R.list] at e; cases e; exact (h1 _ _ rfl).elim
    · rw [R.tabs p hp] at e; cases e; exact (h2 rfl).elim
theorem Ready.under (R : Ready K mg mb a cs vs ns s) (T : Tracks K a cs H) {b : Addr} {m : Str → Option Value} (h : s.heap.Ns b m) : (hidT s.heap H).Ns b m := by
  obtain ⟨o, es, ep, e, d, r⟩ := h
  refine ⟨o, es, ep, hidT_get e (R.other T e (fun us n z => ?_) (fun z => ?_)), d, r⟩ <;> (rw [d] at z; cases z)
theorem Ready.kbase (R : Ready K mg mb a cs vs ns s) (T : Tracks K a cs H) : K.In (hidT s.heap H) := by
  intro b o e
  refine hidT_get (R.kin b o e) ?_
  match q : H b with
  | none => rfl
  | some u =>
    rcases T.all b u q with ⟨rfl, n, _⟩ | ⟨p, hp, rfl, _⟩
    · rw [n] at e; cases e
    · rw [R.off p hp] at e; cases e
theorem Ready.tabB (R : Ready K mg mb a cs vs ns s) (T : Tracks K a cs H) {p : Addr × Addr} (hp : p ∈ cs) : TabB (hidT s.heap H) mg p.1 p.2 := by
  have tb := R.tabs p hp
  constructor
  · obtain ⟨o, us, file, tf, flags, tg, inF, text, tt, e, r1, r2, r3, rest⟩ := R.heads p hp
    refine ⟨o, us, file, tf, flags, tg, inF, text, tt, hidT_get e (R.other T e (fun _ _ z => ?_) (fun z => ?_)), r1, r2, r3, rest⟩ <;> (rw [r2] at z; cases z)
    simp at r3
  · obtain ⟨bm, ob, b1, b2, b3, b4, b5, b6⟩ := R.bmain
    have plain : H bm = none := R.other T b3 (fun _ _ z => by rw [b6] at z; cases z) (fun z => by rw [b6] at z; cases z)
    refine ⟨bm, ob, b1, b2, fun q => ?_, fun q => ?_, hidT_get b3 plain, b4, b5, b6⟩
    · obtain ⟨o, es, ep, e, d, _⟩ := R.glo
      rw [q, e] at b3; cases b3
      rw [d] at b6; cases b6
    · rw [q, tb] at b3; cases b3; cases b6
  · intro z
    obtain ⟨o, es, ep, e, d, _⟩ := R.glo
    rw [z, tb] at e; cases e; cases d
theorem Ready.env (R : Ready K mg mb a cs vs ns s) (T : Tracks K a cs H) (ok : HOk P w H s.heap) : Env0 P w K mg (hidT s.heap H) callerA [] s H where
  frames := rfl
  mod := ⟨R.kbase T, R.under T R.glo, ⟨mb, R.under T R.blt, R.same⟩, by obtain ⟨mc, h1, h2⟩ := R.lim; exact ⟨mc, R.under T h1, h2⟩⟩
  bs := fun b o e => of_hidT e
  bsz := Nat.le_of_eq (hidT_size _ _)
  funs := trivial
  frf := fun b hb => nomatch (show b ∈ ([] : List Addr) from hb)
  hok := ok
  bare := .of_eq R.gens
/-- the law's call, from such a heap -/
theorem Ready.call (R : Ready K mg mb a cs vs ns s) (T : Tracks K a cs H) (ok : HOk P w H s.heap) (sq : SqL K H a (ns.map V.int)) {CX : CXT} {k : Nat} {fa : Addr} {fd : FuncData} {x : Str} {sp : Sp} (hr : Room k callerA)
    (F : ∀ base : Heap, K.In base → base.Ns mainGlobals mg → (∀ p ∈ cs, TabB base mg p.1 p.2) → FnG P w K mg base CX k fa fd [x] sp) (bind : ∀ (s : Shared) (u : Value), BindsTo s fd ⟨[u], []⟩ [(x, u)])
    (hsp : sp [.ref a] H (fun v _ => v = .bl true) fun _ _ _ => False) (hCX : ∀ H e s', CX [] H s (fun _ _ _ => False) e s' → False) :
    codeAny (model P w) callerA (.call (.ref fa) ⟨[.ref a], []⟩) (fun r s' => r = .ok (.ret (.bool true)) ∧ OldK s.heap s'.heap ∧ s'.os = s.os ∧ AllBare s'.gens) s := by
  have G := F _ (R.kbase T) (R.under T R.glo) (fun p hp => R.tabB T hp)
  refine codeAny_mono (G.goes callerA [] s H ⟨[.ref a], []⟩ [.ref a] [.ref a] (fun v _ => v = .bl true) (fun _ _ _ => False) rfl hr (R.env T ok) (bind s (.ref a)) (.cons rfl .nil) hsp) fun z s' hz => ?_
  match z, hz with
  | .error err, hz => exact (hCX H err s' hz).elim
  | .ok .next, hz => exact (show False from hz).elim
  | .ok .brk, hz => exact (show False from hz).elim
  | .ok .cont, hz => exact (show False from hz).elim
  | .ok (.ret u), hz =>
    obtain ⟨v, H', os, bare, un, ok', rv, rfl⟩ := hz
    obtain rfl : u = Value.bool true := rv
    have old : ∀ b o, (∀ p ∈ cs, p.2 ≠ b) → s.heap.get? b = some o → s'.heap.get? b = some o := fun b o nb e => by
      match q : H b with
      | none => exact un.keep b o e q (fun z => nomatch (show b ∈ ([] : List Addr) from z)) (by simp)
      | some u =>
        rcases T.all b u q with ⟨rfl, _, ob, xs, rfl⟩ | ⟨p, hp, e2, _⟩
        · have e1 := (ok b _ q).1
          have e2 := (ok' b _ (un.frzs b ob _ q)).1
          rw [e] at e1; cases e1
          exact e2
        · exact (nb p hp e2.symm).elim
    have more : ∀ p ∈ cs, ∃ m : Array Value, s'.heap.get? p.2 = some { cls := .none, data := .fields m } := fun p hp => by
      obtain ⟨m, q⟩ := un.tbls p.2 #[] (T.tab p hp)
      exact ⟨_, ok' p.2 _ q⟩
    refine ⟨rfl, ⟨fun b o e => ?_, fun b o e => ?_⟩, os, bare⟩
    · by_cases hb : ∃ p ∈ cs, p.2 = b
      · obtain ⟨p, hp, rfl⟩ := hb
        obtain ⟨m, hm⟩ := more p hp
        have tb := R.tabs p hp
        rw [tb] at e; cases e
        exact .inr (.inl ⟨((R.heads p hp).tab tb).isCodeTable, rfl, #[], m, rfl, by rw [Array.empty_append]; exact hm⟩)
      · exact .inl (old b o (fun p hp z => hb ⟨p, hp, z⟩) e)
    · by_cases hb : ∃ p ∈ cs, p.2 = b
      · obtain ⟨p, hp, rfl⟩ := hb
        obtain ⟨m, hm⟩ := more p hp
        exact ⟨_, hm⟩
      · exact ⟨o, old b o (fun p hp z => hb ⟨p, hp, z⟩) e⟩
open Classical in
/-- the heap that tracks the tables, and the script where the text's part of the heap does not hold it -/
noncomputable def H0 (K : PySem.W.Frag) (a : Addr) (cs : List (Addr × Addr)) (vs : List Value) (ns : List Int) : Hp := fun b =>
  if ∃ p ∈ cs, p.2 = b then some (.tbl #[]) else if b = a ∧ K.lookup a = none then some (.frz { cls := .type "list", data := .seq vs.toArray } (.lst (ns.map V.int))) else none
theorem h0_tab {b : Addr} (h : ∃ p ∈ cs, p.2 = b) : H0 K a cs vs ns b = some (.tbl #[]) := by unfold H0; exact if_pos h
theorem h0_list (h : ¬ ∃ p ∈ cs, p.2 = a) (n : K.lookup a = none) : H0 K a cs vs ns a = some (.frz { cls := .type "list", data := .seq vs.toArray } (.lst (ns.map V.int))) := by
  unfold H0; rw [if_neg h]; exact if_pos ⟨rfl, n⟩
theorem Ready.tracks (R : Ready K mg mb a cs vs ns s) : Tracks K a cs (H0 K a cs vs ns) := by
  refine ⟨fun b u e => ?_, fun p hp => h0_tab ⟨p, hp, rfl⟩⟩
  unfold H0 at e
  split at e
  · rename_i h; obtain ⟨p, hp, e2⟩ := h; cases e
    exact .inr ⟨p, hp, e2.symm, rfl⟩
  · split at e
    · rename_i h; cases e
      exact .inl ⟨h.1, h.2, _, _, rfl⟩
    · cases e
theorem Ready.ok0 (R : Ready K mg mb a cs vs ns s) : HOk P w (H0 K a cs vs ns) s.heap := by
  intro b u e
  unfold H0 at e
  split at e
  · rename_i h; obtain ⟨p, hp, rfl⟩ := h; cases e
    exact R.tabs p hp
  · split at e
    · rename_i h; cases e
      obtain ⟨rfl, _⟩ := h
      exact ⟨R.list, by rw [List.length_map]; exact R.size, vs, _, vals_ints R.nums, R.list⟩
    · cases e
theorem Ready.sq0 (R : Ready K mg mb a cs vs ns s) : SqL K (H0 K a cs vs ns) a (ns.map V.int) := by
  have no : ¬ ∃ p ∈ cs, p.2 = a := fun ⟨p, hp, z⟩ => R.lone hp z
  match q : K.lookup a with
  | none => exact .inl (.inr ⟨_, h0_list no q⟩)
  | some o =>
    have e := R.kin a o q
    rw [R.list] at e; cases e
    exact .inr ⟨_, vs.toArray, _, q, rfl, rfl, rfl, by rw [List.size_toArray, R.nums.length]; exact R.size, by simpa using vals_ints R.nums⟩
end
/-- what is known of a law's promise behind the top -/
structure LawG (l : PySem.W.OpenLaw) (w : World) (K : PySem.W.Frag) (k n : Nat) (x : Str) (mg : Str → Option Value) (fa : Addr) (h : Heap) : Prop where
  ex : ∃ (fd : FuncData) (cs : List (Addr × Addr)) (sp : Sp), (∀ p ∈ cs, h.get? p.2 = some { cls := .none, data := .fields #[] }) ∧ (∀ p ∈ cs, K.lookup p.2 = none) ∧ (∀ p ∈ cs, PySem.W.CodeHd h p.1 p.2) ∧ (∀ (s : Shared) (u : Value), BindsTo s fd ⟨[u], []⟩ [(x, u)]) ∧
    (∀ (H : Hp) (a : Addr) (ns : List Int), ns.length ≤ n → (∀ z ∈ ns, Builtin.Int.intBits z ≤ 1048576) → (∀ p ∈ cs, H p.2 = some (.tbl #[])) → SqL K H a (ns.map V.int) → sp [.ref a] H (fun v _ => v = .bl true) fun _ _ _ => False) ∧
    ∀ base : Heap, K.In base → base.Ns mainGlobals mg → (∀ p ∈ cs, TabB base mg p.1 p.2) → FnG l.prog w K mg base L2.CX0 k fa fd [x] sp
theorem walkG {l : PySem.W.OpenLaw} {n k : Nat} {q : Program} {loose : List Str} {XP : (Str → Option Value) → Heap → Prop} {YP : World → Heap → Prop} {d : DefRec} {x : Str} (hn : l.most = some n) (hn2 : n ≤ sizeLine) (hdf : d.params.defaults = []) (hr : Room k callerA)
    (F : ∀ (w : World) (mg : Str → Option Value) (fa : Addr) (h : Heap), YP w h → h.Ns mainGlobals mg → mg d.name = some (.ref fa) → ∃ K : PySem.W.Frag, K.In h ∧ LawG l w K k n x mg fa h) : PySem.W.WalkO q loose XP YP l.row.toRowW d [] (fun f vs => PySem.call f vs) := by
  refine Att.attach_callB hn hdf fun w s₀ s mg mb fa o pm cd doc a vs ns G Y ho hd hcd hmg hobj hints hlen hbits hg => ?_
  obtain ⟨K, KX, ⟨fd, cs, sp, hT, nT, C, hb, hsp, hF⟩⟩ := F w mg fa s.heap Y G.T.g hmg
  have R : Ready K mg mb a cs vs ns s := ⟨KX, G.T.g, G.T.b, G.T.builtins, G.T.nolimit, hg, hT, nT, C, G.T.bmain, hobj, hints, Nat.le_trans hlen hn2⟩
  exact R.call R.tracks R.ok0 R.sq0 hr hF hb (hsp _ a ns hlen hbits R.tracks.tab R.sq0) fun H e s' z => z
end FW

set_option maxRecDepth 100000
set_option maxHeartbeats 4000000
/-! fair weather: what the laws have in common -/
namespace FW
open PySem L2 PyProof.Rows
/-! ### kinds of values, carried on -/
theorem TyX.grow {K : PySem.W.Frag} {c : Addr} {H H' : Hp} {a : Addr} {t : Value} (e : Ext c H H') (n : a ≠ c) (h : TyX K H (.ref a) t) : TyX K H' (.ref a) t := by
  cases h with
  | base b =>
    refine .base ?_
    cases b with
    | lst h => exact .lst (e _ _ n h)
    | frz h => exact .frz (e _ _ n h)
    | tup h => exact .tup (e _ _ n h)
    | dK h => exact .dK (e _ _ n h)
    | dT h => exact .dT (e _ _ n h)
    | ins h a1 a2 a3 a4 a5 => exact .ins (e _ _ n h) a1 a2 a3 a4 a5
  | set h => exact .set (e _ _ n h)
  | kList h k => exact .kList h k
  | kTuple h k => exact .kTuple h k
  | kDict h k => exact .kDict h k
  | fTuple h => exact .fTuple (e _ _ n h)
  | fDict h => exact .fDict (e _ _ n h)
theorem Kn.ext {K : PySem.W.Frag} {c : Addr} {H H' : Hp} {v : V} (e : Ext c H H') (n : v ≠ .ref c) (h : Kn K H v) : Kn K H' v := by
  cases v with
  | ref a =>
    obtain ⟨T, hT, t⟩ := h
    exact ⟨T, hT, TyX.grow e (fun z => n (by rw [z])) t⟩
  | _ => exact h
theorem kn_lst {K : PySem.W.Frag} {H : Hp} {p : Addr} {xs : List V} (e : H p = some (.lst xs)) : Kn K H (.ref p) := ⟨"list", .inl rfl, .base (.lst e)⟩
theorem kn_tup {K : PySem.W.Frag} {H : Hp} {p : Addr} {xs : List V} (e : H p = some (.tup xs)) : Kn K H (.ref p) := ⟨"tuple", .inr (.inl rfl), .base (.tup e)⟩
theorem kn_dK {K : PySem.W.Frag} {H : Hp} {p : Addr} {xs : List (Key × V)} (e : H p = some (.dK xs)) : Kn K H (.ref p) := ⟨"dict", .inr (.inr rfl), .base (.dK e)⟩
/-! ### a def whose code object is known -/
structure DefOkC (K : PySem.W.Frag) (mg : Str → Option Value) (x : Str) (st : Stmt) (ps : List Str) (c : Addr) : Prop where
  ex : ∃ (f : Addr) (fd : FuncData), Fun K x x st f fd ∧ mg x = some (.ref f) ∧ Binds K fd ps [] ∧ fd.code = .ref c
section
variable {P : Program} {w : World} {K : PySem.W.Frag} {mg : Str → Option Value} {base : Heap} {CX : CXT} {k : Nat} {x : Str} {st : Stmt} {ps N : List Str} {sp : Sp} {c : Addr}
theorem DefOkC.can (d : DefOkC K mg x st ps c) (h : ∀ f fd, Fun K x x st f fd → fd.code = .ref c → FnOk P w K mg base CX k f fd ps sp) : Can P w K mg base CX k x ps sp := by
  obtain ⟨f, fd, F, m, b, e⟩ := d.ex
  exact ⟨f, fd, h f fd F e, m, F.kp, b⟩
theorem fun_okC {f : Addr} {fd : FuncData} (F : Fun K x x st f fd) (hc : fd.code = .ref c) (S : FnScope N ps (defScope st)) (len : ∀ vs H Q E, sp vs H Q E → vs.length = ps.length)
    (walk : ∀ (A : Around) (outer : List Env) (s : Shared) (H : Hp) (vs : List V) (Q : VK) (E : XK), Room k (A.deeper (envOfC x (defScope st) s.heap.objs.size f (.ref c))) → sp vs H Q E →
      ∃ t, PSs (cxOf CX P w K mg base N x (defScope st) f (.ref c) A outer s H E) (defBody st) t ∧ t { nx := fun _ H' => Q .non H', rt := Q } (L2.start N vs) H) : FnOk P w K mg base CX (k + 1) f fd ps sp := by
  obtain ⟨oc, od, kV, doc, pm, an, cdv, ct, osl, rfl, lk, hcd⟩ := F.ex
  obtain rfl : cdv = .ref c := hc
  exact fn_of lk hcd S len walk
end
/-! ### what a lambda leaves as it was, tables of code objects -/
section
variable {K : PySem.W.Frag} {H H' : Hp} {c : Addr} {n : Nat} {T : List (Addr × Str)}
theorem ExtN.sqL {a : Addr} {xs : List V} (e : LamX.ExtN H H') (h : SqL K H a xs) : SqL K H' a xs := by
  rcases h with (h | ⟨o, h⟩) | h
  · exact .inl (.inl (e _ _ h nofun))
  · exact .inl (.inr ⟨o, e _ _ h nofun⟩)
  · exact .inr h
theorem ExtN.cloud (e : LamX.ExtN H H') (h : Cloud K H c n) : Cloud K H' c n := by
  obtain ⟨l, cells, rest, h1, h2, h3⟩ := h
  exact ⟨l, cells, rest, e _ _ h1 nofun, ExtN.sqL e h2, h3⟩
theorem ExtN.kn {v : V} (e : LamX.ExtN H H') (h : Kn K H v) : Kn K H' v := by
  cases v with
  | ref a =>
    obtain ⟨S, hS, t⟩ := h
    refine ⟨S, hS, ?_⟩
    cases t with
    | base b =>
      refine .base ?_
      cases b with
      | lst h => exact .lst (e _ _ h nofun)
      | frz h => exact .frz (e _ _ h nofun)
      | tup h => exact .tup (e _ _ h nofun)
      | dK h => exact .dK (e _ _ h nofun)
      | dT h => exact .dT (e _ _ h nofun)
    | set h => exact .set (e _ _ h nofun)
    | kList h k => exact .kList h k
    | kTuple h k => exact .kTuple h k
    | kDict h k => exact .kDict h k
    | fTuple h => exact .fTuple (e _ _ h nofun)
    | fDict h => exact .fDict (e _ _ h nofun)
  | _ => exact h
theorem tabs_ext (t : LamX.Tabs T H) (h : Cloud K H c n) (e : Ext c H H') : LamX.Tabs T H' := by
  obtain ⟨l, cells, rest, h1, _, _⟩ := h
  intro p hp
  obtain ⟨ps, t1, t2, t3⟩ := t p hp
  refine ⟨ps, e _ _ (fun z => by rw [z, h1] at t1; cases t1) t1, t2, fun pos cv hcv => ?_⟩
  obtain ⟨d, e1, e2⟩ := t3 pos cv hcv
  exact ⟨d, e1, e _ _ (fun z => by rw [z, h1] at e2; exact nomatch (show HO.lst _ = HO.ext _ from Option.some.inj e2)) e2⟩
end
/-- one value of two, by a test -/
theorem w_ifM {c : Bool} {Q : VK} {H : Hp} {x y : V} {A B : Prop} (ha : Q x H → A) (hb : Q y H → B) (h : Q (if c = true then x else y) H) : if c = true then A else B := by
  cases c with
  | true => exact ha h
  | false => exact hb h
theorem w_ifCC {c : Bool} {Q : VK} {σ : L2.St} {H : Hp} {x y : V} (h : Q (if c = true then x else y) H) : if c = true then tC x σ H Q else tC y σ H Q := by
  cases c with
  | true => exact h
  | false => exact h
theorem w_ifVC {c : Bool} {Q : VK} {σ : L2.St} {H : Hp} {i : Nat} {x y : V} (e : σ[i]? = some (some x)) (h : Q (if c = true then x else y) H) : if c = true then tVar i σ H Q else tC y σ H Q := by
  cases c with
  | true => exact ⟨x, e, h⟩
  | false => exact h
theorem Kn.grow {K : PySem.W.Frag} {H H' : Hp} {v : V} (g : Grow H H') (h : Kn K H v) : Kn K H' v := ExtN.kn (LamX.ExtN.of g) h
theorem w_neSelf {x : V} {H : Hp} {Q : VK} (s : scal x x = true) (q : Q (.bl false) H) : rNe x x H Q := ⟨s, by simp only [decide_true, Bool.not_true]; exact q⟩
theorem w_eqSelf {x : V} {H : Hp} {Q : VK} (s : scal x x = true) (q : Q (.bl true) H) : rEq x x H Q := ⟨s, by simp only [decide_true]; exact q⟩
/-! ### what repr shows of rows -/
theorem text_le (b : Nat) : ∀ (ts : List Str) (k : Nat) (acc : Str), (∀ t ∈ ts, t.length ≤ b) → (textFrom k acc ts).length ≤ acc.length + (b + 2) * ts.length
  | [], k, acc, _ => by show acc.length ≤ _; omega
  | t :: r, k, acc, h => by
    have ih := text_le b r (k + 1) (acc ++ (if k > 0 then ", " else "" : String) ++ t) (fun x hx => h x (List.mem_cons_of_mem _ hx))
    have ht := h t (List.mem_cons_self ..)
    have hs : ((if k > 0 then ", " else "" : String) : Str).length ≤ 2 := by split <;> decide
    show (textFrom (k + 1) (acc ++ (if k > 0 then ", " else "" : String) ++ t) r).length ≤ _
    rw [Str.length_append, Str.length_append] at ih
    rw [List.length_cons, Nat.mul_add]
    omega
theorem shownAll_ints : ∀ ns : List Int, PyData.shownAll (ns.map PyData.int) = ns.map fun n => PyData.shown (.int n)
  | [] => rfl
  | n :: ns => by show _ :: PyData.shownAll (ns.map PyData.int) = _; rw [shownAll_ints ns]; rfl
theorem showable_ints : ∀ ns : List Int, (∀ n ∈ ns, n.natAbs.log2 < 1920) → PyData.showableAll (ns.map PyData.int) = true
  | [], _ => rfl
  | n :: ns, h => by
    show (PyData.showable (.int n) && PyData.showableAll (ns.map PyData.int)) = true
    rw [showable_ints ns fun m hm => h m (List.mem_cons_of_mem _ hm), Bool.and_true]
    exact decide_eq_true (h n (List.mem_cons_self ..))
theorem noDict_ints : ∀ ns : List Int, PyData.hasDictAll (ns.map PyData.int) = false
  | [] => rfl
  | n :: ns => by show (PyData.hasDict (.int n) || PyData.hasDictAll (ns.map PyData.int)) = false; rw [noDict_ints ns]; rfl
theorem shown_ints {ns : List Int} (h : ∀ n ∈ ns, n.natAbs.log2 < 1920) (hl : ns.length ≤ 1000) : (PyData.shown (.list (ns.map PyData.int))).length ≤ sizeLine := by
  show (listText (PyData.shownAll (ns.map PyData.int))).length ≤ _
  rw [shownAll_ints, sizeLine_eq]
  unfold listText
  rw [Str.length_append]
  have z := text_le 1921 (ns.map fun n => PyData.shown (.int n)) 0 "[" (fun t ht => by
    obtain ⟨n, hn, rfl⟩ := List.mem_map.mp ht
    exact int_text_len_1921 (h n hn))
  rw [List.length_map] at z
  have e1 : (("[" : String) : Str).length = 1 := by decide
  have e2 : (("]" : String) : Str).length = 1 := by decide
  rw [e1] at z
  rw [e2]
  omega
theorem w_showI {K : PySem.W.Frag} {i : Int} {H : Hp} {Q : VK} (h : i.natAbs.log2 < 1920) (q : Q (.str (PyData.shown (.int i))) H) : rShow K [.int i] H Q := .inl ⟨i, rfl, h, q⟩
theorem w_showN {K : PySem.W.Frag} {a : Addr} {ns : List Int} {H : Hp} {Q : VK} (sq : SqL K H a (ns.map V.int)) (h : ∀ n ∈ ns, n.natAbs.log2 < 1920) (hl : ns.length ≤ 1000) (q : Q (.str (PyData.shown (.list (ns.map PyData.int)))) H) : rShow K [.ref a] H Q :=
  .inr ⟨a, .list (ns.map PyData.int), rfl, .lst sq (dpAll_ints K H ns), showable_ints ns h, noDict_ints ns, by have := depthAll_ints ns; simp only [PyData.depth]; omega, shown_ints h hl, q⟩
theorem dpAll_strs (K : PySem.W.Frag) (H : Hp) : ∀ ss : List Str, DpAll K H (ss.map V.str) (ss.map PyData.str)
  | [] => .nil
  | s :: ss => .cons (.str s) (dpAll_strs K H ss)
theorem w_showS {K : PySem.W.Frag} {a : Addr} {ss : List Str} {H : Hp} {Q : VK} (sq : SqT K H a (ss.map V.str)) (h : (PyData.tuple (ss.map PyData.str)).showable = true ∧ (PyData.tuple (ss.map PyData.str)).hasDict = false ∧ (PyData.tuple (ss.map PyData.str)).depth ≤ 60 ∧ (PyData.tuple (ss.map PyData.str)).shown.length ≤ sizeLine)
    (q : Q (.str (PyData.shown (.tuple (ss.map PyData.str)))) H) : rShow K [.ref a] H Q := .inr ⟨a, .tuple (ss.map PyData.str), rfl, .tup sq (dpAll_strs K H ss), h.1, h.2.1, h.2.2.1, h.2.2.2, q⟩
/-! ### calls by keywords alone -/
structure CanW (P : Program) (w : World) (K : PySem.W.Frag) (mg : Str → Option Value) (base : Heap) (CX : CXT) (k : Nat) (x : Str) (ks : List Str) (gV : List V → List V → List V) (sp : Sp) : Prop where
  at_ : ∃ (f : Addr) (fd : FuncData) (ps : List Str) (g : List Value → List Value → List Value), FnOk P w K mg base CX k f fd ps sp ∧ mg x = some (.ref f) ∧ PySem.W.keepIn K (.ref f) = true ∧ KBn K fd ps 0 ks g gV
theorem canW_of {P : Program} {w : World} {K : PySem.W.Frag} {mg : Str → Option Value} {base : Heap} {CX : CXT} {k : Nat} {x : Str} {st : Stmt} {ps ks : List Str} {sp : Sp} (π : {α : Type} → List α → List α) (d : DefOk K mg x st ps) (h : ∀ f fd, Fun K x x st f fd → FnOk P w K mg base CX k f fd ps sp)
    (rel : ∀ {zs : List V} {ws : List Value}, Vals zs ws → Vals (π zs) (π ws))
    (bind : ∀ (kV doc pm : Value) (an : Option Addr) (cdv ct : Value) (ws : List Value), ws.length = ks.length → bindArgs (PySem.W.fnOf x x (defArgs st) (defBody st) (defScope st) .none kV doc pm an cdv ct) ⟨[], ks.zip ws⟩ = pure (ps.zip (π ws))) :
    CanW P w K mg base CX k x ks (fun _ zs => π zs) sp := by
  obtain ⟨f, fd, F, m, _⟩ := d.ex
  have G := h f fd F
  have kp := F.kp
  obtain ⟨oc, od, kV, doc, pm, an, cdv, ct, osl, rfl, lk, hcd⟩ := F.ex
  refine ⟨f, _, ps, fun _ ws => π ws, G, m, kp, ⟨fun s us ws _ l1 l2 => ?_, fun _ r => rel r⟩⟩
  cases us with
  | nil => exact .of_eq (bind kV doc pm an cdv ct ws l2)
  | cons _ _ => cases l1
theorem pe_canW {X : Cx} {CX : CXT} {k j : Nat} {x : Str} {ks : List Str} {gV : List V → List V → List V} {sp : Sp} {E : XK} {p pos : Pos} {kws : List Keyword} {tk : TA} (c : CanW X.prog X.w X.K X.mg X.base CX k x ks gV sp) (hr : Room j X.A) (hk : k ≤ j) (hx : Passes CX X E) (hg : Gl X x) (hkw : PK X kws tk)
    (hall : (backToKw pos (keywordEach kws X.env)).all (·.1.isSome) = true := by rfl) (hks : (backToKw pos (keywordEach kws X.env)).filterMap (·.1) = ks := by rfl) (hdb : (x == ("__debug__" : Str)) = false := by decide)
    (hpl : ((backTo pos (starEach [] X.env)).any (·.1) || (backToKw pos (keywordEach kws X.env)).any (·.1.isNone)) = false := by rfl) : PE X (.Call (.Name x p) [] kws pos) (tCallN 0 ks.length sp gV E tNil tk) := by
  obtain ⟨f, fd, ps, g, F, m, kp, b⟩ := c.at_
  refine ⟨fun pins s σ H Q I h => wpAny_Call_Name_kw (ld_glob I hg m (PySem.W.callWith_KW0 (h₀ := X.base) I.ok.mod.kin kp hall (thn (hkw.run pos pins s σ H _ I h) fun ws s2 y => ?_) hpl) hdb)⟩
  obtain ⟨zs, H2, J, rz, l1, l2, q⟩ := y
  refine ⟨J.kIn, ?_⟩
  rw [hks]
  exact run_fnN (us := []) (vs := []) F (hr.mono hk) b hx J .nil rz l1 l2 q
theorem w_callN {n m : Nat} {sp : Sp} {gV : List V → List V → List V} {E : XK} {t tk : TA} {σ : L2.St} {H : Hp} {Q : VK} (h : t σ H fun vs H1 => tk σ H1 fun zs H2 => vs.length = n ∧ zs.length = m ∧ sp (gV vs zs) H2 Q E) : tCallN n m sp gV E t tk σ H Q := h
/-- one way or its opposite -/
theorem w_negV {c : Bool} {Q : VK} {σ : L2.St} {H : Hp} {i : Nat} {a : Int} (e : σ[i]? = some (some (.int a))) (h : Q (.int (if c = true then -a else a)) H) : if c = true then tUn (rU fun i => .int (-i)) (tVar i) σ H Q else tVar i σ H Q := by
  cases c with
  | true => exact ⟨_, e, a, rfl, h⟩
  | false => exact ⟨_, e, h⟩
/-! ### comprehensions: a value made of each item, the heap growing -/
section
variable {K : PySem.W.Frag} {te : TE} {i : Nat} {σ : L2.St} {H1 : Hp} {Q : VK} {a : Addr}
theorem pe_lc1 {X : Cx} {x : Str} {i : Nat} {elt tg iter : Expr} {ifs : List Expr} {scope : Scope} {pos : Pos} {wi : TI} {g : TG} {tt : TT} {te : TE} (hc : X.calm = true) (hN : X.N.Nodup) (hi : PI X tg iter wi) (ok : BlkOk X.N X.env.scope scope [(x, i)])
    (hg : ∀ (s : Shared) (H : Hp) (C : Addr) (cl : List (Str × Addr)) (fp : List Addr), PG (X.blk s H scope (compEnvC scope cl C X.env) fp) tg g) (ht : ∀ (s : Shared) (H : Hp) (C : Addr) (cl : List (Str × Addr)) (fp : List Addr), PTs (X.blk s H scope (compEnvC scope cl C X.env) fp) ifs tt)
    (he : ∀ (s : Shared) (H : Hp) (C : Addr) (cl : List (Str × Addr)) (fp : List Addr), PE (X.blk s H scope (compEnvC scope cl C X.env) fp) elt te) (hs : ∀ x, foldedSetIterable iter X.env x = pure x := by intro _; rfl) : PE X (.ListComp elt [⟨tg, iter, ifs, 0⟩] scope pos) (tLc wi g tt te [i]) :=
  pe_lc (own := [(x, i)]) hc hN hi ok hg ht he hs
theorem ps_setLc1 {X : Cx} {k i : Nat} {x y : Str} {py : Pos} {elt tg iter : Expr} {ifs : List Expr} {scope : Scope} {pos spos : Pos} {wi : TI} {g : TG} {tt : TT} {te : TE} (hc : X.calm = true) (hN : X.N.Nodup) (hy : X.N[i]? = some y) (hyl : X.env.scope.names.lookup y = some .local)
    (hsw : swapsWith (.ListComp elt [⟨tg, iter, ifs, 0⟩] scope pos) (some (.Name y py)) spos.line X.env = pure true) (hi : PI X tg iter wi) (ok : BlkOk X.N X.env.scope scope [(x, k)])
    (hg : ∀ (s : Shared) (H : Hp) (C : Addr) (cl : List (Str × Addr)) (fp : List Addr), PG (X.blk s H scope (compEnvC scope cl C X.env) fp) tg g) (ht : ∀ (s : Shared) (H : Hp) (C : Addr) (cl : List (Str × Addr)) (fp : List Addr), PTs (X.blk s H scope (compEnvC scope cl C X.env) fp) ifs tt)
    (he : ∀ (s : Shared) (H : Hp) (C : Addr) (cl : List (Str × Addr)) (fp : List Addr), PE (X.blk s H scope (compEnvC scope cl C X.env) fp) elt te) (hs : ∀ x, foldedSetIterable iter X.env x = pure x := by intro _; rfl) :
    PS X (.Assign [.Name y py] (.ListComp elt [⟨tg, iter, ifs, 0⟩] scope pos) spos) (tAsg (tLc wi g tt te [k]) (gName i)) := ps_setLc (own := [(x, k)]) hc hN hy hyl hsw hi ok hg ht he hs
/-- a turn: of the j-th item the j-th value is made -/
def Turns (te : TE) (i : Nat) (σ : L2.St) (H1 : Hp) (xs ys : List V) : Prop := ∀ (j : Nat) (x y : V) (H' : Hp) (R : VK), xs[j]? = some x → ys[j]? = some y → Grow H1 H' → (∀ H2, Grow H' H2 → R y H2) → te ((wipe σ [i]).set i (some x)) H' R
theorem lc_turn {xs ys : List V} {D : Addr} (hw : ∀ x, wipe ((wipe σ [i]).set i (some x)) [i] = wipe σ [i]) (hl : ys.length = xs.length) (hs : xs.length < sizeLine) (turn : Turns te i σ H1 xs ys) (nD : H1 D = none)
    (j : Nat) (x : V) (H' : Hp) (ex : xs[j]? = some x) (p : H' D = some (.lst (ys.take j)) ∧ Grow H1 H') :
    gName i x (wipe σ [i]) H' fun σ2 H2 => wipe σ2 [i] = wipe σ [i] ∧ tYes σ2 H2 fun b H3 => if b = true then te σ2 H3 fun y H4 => ∃ acc, H4 D = some (.lst acc) ∧ acc.length < sizeLine ∧
      (upd H4 D (.lst (acc ++ [y])) D = some (.lst (ys.take (j + 1))) ∧ Grow H1 (upd H4 D (.lst (acc ++ [y])))) else (H3 D = some (.lst (ys.take (j + 1))) ∧ Grow H1 H3) := by
  refine ⟨hw x, ?_⟩
  unfold tYes
  refine w_yes ?_
  have hj : j < ys.length := by rw [hl]; exact (List.getElem?_eq_some_iff.mp ex).1
  refine turn j x ys[j] H' _ ex (by simp [hj]) p.2 fun H2 g => ⟨ys.take j, g _ _ p.1, by rw [List.length_take]; omega, ?_, fun b o e => ?_⟩
  · rw [upd_same, List.take_succ_eq_append_getElem hj]
  · rw [upd_ne (ne_of_none e nD)]; exact g _ _ (p.2 _ _ e)
theorem lcL {Qd : Addr → Hp → Prop} {xs ys : List V} (hw : ∀ x, wipe ((wipe σ [i]).set i (some x)) [i] = wipe σ [i]) (hl : ys.length = xs.length) (hs : xs.length < sizeLine) (sq : SqL K H1 a xs) (turn : Turns te i σ H1 xs ys)
    (done : ∀ D H', H1 D = none → H' D = some (.lst ys) → Grow H1 H' → Qd D H') (D : Addr) (nD : H1 D = none) :
    ∃ W : Nat → Nat → Hp → Prop, (∃ m, W 0 m (upd H1 D (.lst []))) ∧ ∀ j m H, W j m H →
      ((Itl K a).stop j H ∧ Qd D H) ∨ ((Itl K a).go j H ∧ ∃ Nx : Hp → Prop, (∀ H', Nx H' → ∃ m', m' < m ∧ W (j + 1) m' H') ∧ ∀ x H', (Itl K a).yld j H x H' → gName i x (wipe σ [i]) H' fun σ2 H2 => wipe σ2 [i] = wipe σ [i] ∧ tYes σ2 H2 fun b H3 =>
        if b = true then te σ2 H3 fun y H4 => ∃ acc, H4 D = some (.lst acc) ∧ acc.length < sizeLine ∧ Nx (upd H4 D (.lst (acc ++ [y]))) else Nx H3) :=
  lc_list (xs := xs) (fun j H' => H' D = some (.lst (ys.take j)) ∧ Grow H1 H') ⟨upd_same, Grow.new nD⟩ (fun j H' _ p => p.2.sqL sq) (lc_turn hw hl hs turn nD) (fun H' p => done D H' nD (by rw [← hl, List.take_length] at p; exact p.1) p.2)
theorem lcT {Qd : Addr → Hp → Prop} {xs ys : List V} (hw : ∀ x, wipe ((wipe σ [i]).set i (some x)) [i] = wipe σ [i]) (hl : ys.length = xs.length) (hs : xs.length < sizeLine) (sq : SqT K H1 a xs) (turn : Turns te i σ H1 xs ys)
    (done : ∀ D H', H1 D = none → H' D = some (.lst ys) → Grow H1 H' → Qd D H') (D : Addr) (nD : H1 D = none) :
    ∃ W : Nat → Nat → Hp → Prop, (∃ m, W 0 m (upd H1 D (.lst []))) ∧ ∀ j m H, W j m H →
      ((Itt K a).stop j H ∧ Qd D H) ∨ ((Itt K a).go j H ∧ ∃ Nx : Hp → Prop, (∀ H', Nx H' → ∃ m', m' < m ∧ W (j + 1) m' H') ∧ ∀ x H', (Itt K a).yld j H x H' → gName i x (wipe σ [i]) H' fun σ2 H2 => wipe σ2 [i] = wipe σ [i] ∧ tYes σ2 H2 fun b H3 =>
        if b = true then te σ2 H3 fun y H4 => ∃ acc, H4 D = some (.lst acc) ∧ acc.length < sizeLine ∧ Nx (upd H4 D (.lst (acc ++ [y]))) else Nx H3) :=
  lc_tup (xs := xs) (fun j H' => H' D = some (.lst (ys.take j)) ∧ Grow H1 H') ⟨upd_same, Grow.new nD⟩ (fun j H' _ p => p.2.sqT sq) (lc_turn hw hl hs turn nD) (fun H' p => done D H' nD (by rw [← hl, List.take_length] at p; exact p.1) p.2)
end
/-- a part of a list of ints -/
theorem cut_ints (ns : List Int) (lo hi : Option Int) : ∃ ms : List Int, cutV (ns.map V.int) lo hi = ms.map V.int ∧ ms.length ≤ ns.length := by
  refine ⟨(ns.drop (HT.sIx (ns.map V.int).length 0 lo)).take (HT.sIx (ns.map V.int).length (ns.map V.int).length hi - HT.sIx (ns.map V.int).length 0 lo), ?_, ?_⟩
  · unfold cutV
    rw [List.map_take, List.map_drop]
  · rw [List.length_take, List.length_drop]; omega
/-! ### promises that all laws have -/
/-- the cloud of a script -/
def spBegin (K : PySem.W.Frag) : Sp := fun vs H Q _ => ∃ (a : Addr) (ns : List Int), vs = [.ref a] ∧ SqL K H a (ns.map V.int) ∧ ns.length ≤ 63 ∧ ∀ c H', H c = none → Grow H H' → Cloud K H' c 0 → Q (.ref c) H'
/-- one of some -/
def spOneOf (K : PySem.W.Frag) : Sp := fun vs H Q _ => ∃ (c : Addr) (n : Nat) (p : Addr) (xs : List V), vs = [.ref c, .ref p] ∧ Cloud K H c n ∧ n < 999990 ∧ SqL K H p xs ∧ p ≠ c ∧ 0 < xs.length ∧ xs.length < 1000000 ∧
  ∀ (x : V) (n' : Nat) (H' : Hp), x ∈ xs → n' ≤ n + 1 → Cloud K H' c n' → Ext c H H' → Q x H'
end FW

set_option maxRecDepth 100000
set_option maxHeartbeats 4000000
/-! fair weather: what stands behind the top, by names -/
namespace FW
open PySem L2 PyProof.Rows
/-- a def of the top, no defaults -/
def dTop (x : Str) (st : Stmt) : He.DefD := ⟨(x, none), x, x, defArgs st, defBody st, defScope st, [], []⟩
/-- a method of a class of the top -/
def dIn (c m : Str) (st : Stmt) : He.DefD := ⟨(c, some m), m, c ++ "." ++ m, defArgs st, defBody st, defScope st, [], []⟩
theorem fun_of {K : PySem.W.Frag} {x qual : Str} {st : Stmt} {f : Addr} {fd : FuncData} (F : FunD K x qual (defArgs st) (defBody st) (defScope st) [] [] f fd) : Fun K x qual st f fd := by
  obtain ⟨oc, od, dV, kV, doc, pm, an, cdv, ct, osl, rfl, lk, hcd, hD, hK⟩ := F.ex
  have e : dV = .none := by
    rcases hD with ⟨_, e⟩ | ⟨e, _⟩
    · exact e
    · exact absurd rfl e
  subst e
  exact ⟨⟨oc, od, kV, doc, pm, an, cdv, ct, osl, rfl, lk, hcd⟩, F.kp⟩
/-! ### an own exception of one field -/
def oexB (K : PySem.W.Frag) (C : Addr) : Bool := match K.lookup C with
  | some ⟨.type t, _, .cls cd, sl⟩ => t == "type" && (cd.hasDict && (!cd.hasDel && (match cd.mro, sl.toList with
    | .ref c :: bm, [_, _, _, _, some (.builtin n), _] => c == C && (n == "ValueError.__new__" && PySem.HandSPX.refsVE bm)
    | _, _ => false)))
  | _ => false
theorem oexB_ok {K : PySem.W.Frag} {C : Addr} (h : oexB K C = true) : ∃ nm q N bs bm sn sub ab col dd k0 k1 k2 k3 k5, K.lookup C = some (excClassObj nm q C N bs bm true sn sub ab col dd k0 k1 k2 k3 k5 "ValueError.__new__") ∧ PySem.HandSPX.refsVE bm = true := by
  unfold oexB at h
  split at h
  · rename_i t dd cd sl ho
    simp only [Bool.and_eq_true, beq_iff_eq, Bool.not_eq_true'] at h
    obtain ⟨rfl, h1, h2, h3⟩ := h
    split at h3
    · rename_i c bm k0 k1 k2 k3 n k5 hm hs
      simp only [Bool.and_eq_true, beq_iff_eq] at h3
      obtain ⟨rfl, rfl, h4⟩ := h3
      obtain ⟨nm, bs, mro, ns, qn, hd, sn, sub, ab, col, del⟩ := cd
      dsimp only at hm h1 h2
      subst hm h1 h2
      have hsl : sl = #[k0, k1, k2, k3, some (.builtin "ValueError.__new__"), k5] := by
        obtain ⟨l⟩ := sl
        simp only at hs
        rw [hs]
      subst hsl
      exact ⟨nm, qn, ns, bs, bm, sn, sub, ab, col, dd, k0, k1, k2, k3, k5, ho, h4⟩
    · cases h3
  · cases h
def exnB (K : PySem.W.Frag) (x f : Str) : Bool :=
  oexB K (He.ga K x) && (decide (PySem.W.findIn K (.ref (He.ga K x)) "__setattr__" = some (some (.builtin "object.__setattr__"))) && (decide (PySem.W.typeIn K (.ref (He.ga K x)) = some (.type "type")) && (PySem.W.keepIn K (.ref (He.ga K x)) &&
  (decide (PySem.W.findIn K (.ref (He.ga K x)) f = some none) && (xfB K (He.ga K x) && (decide (PySem.W.findIn K (.ref (He.ga K x)) "__class__" = some (some (.builtin "object.__class__"))) &&
  (decide (PySem.W.specialIn K (.builtin "object.__class__") "__get__" = some (some (.builtin "getset_descriptor.__get__"))) && (decide (PySem.W.takesIn K (.builtin "object.__class__") = some true) && (decide (PySem.W.mroIn K (He.ga K x) (.type "object") = some true) &&
  (decide (PySem.W.findIn K (.ref (He.ga K x)) "__init__" = some (some (.ref (He.ma K (He.ga K x) "__init__")))) && decide (PySem.W.typeIn K (.ref (He.ma K (He.ga K x) "__init__")) = some (.type "function"))))))))))))
theorem exnB_ok {P : Program} {w : World} {K : PySem.W.Frag} {mg : Str → Option Value} {base : Heap} {x f : Str} (h : exnB K x f = true) (g : mg x = some (.ref (He.ga K x)))
    (init : ∃ (fd : FuncData) (ps : List Str), FnOk P w K mg base CX0 1 (He.ma K (He.ga K x) "__init__") fd ps (spInit1 K (He.ga K x) f) ∧ Binds K fd ps []) : Exn P w K mg base x f (He.ga K x) := by
  unfold exnB at h
  simp only [Bool.and_eq_true, decide_eq_true_eq] at h
  obtain ⟨h1, h2, h3, h4, h5, h6, h7, h8, h9, h10, h11, h12⟩ := h
  have xf := xfB_ok h6
  obtain ⟨fd, ps, F, b⟩ := init
  exact ⟨⟨oexB_ok h1, h2, xf.exC, h3, h4⟩, g, h5, xf, ⟨xf.ga, xf.gg, xf.exC, xf.hdC, h7, h8, h9, h10⟩, ⟨_, fd, ps, h11, h12, F, b⟩⟩
/-! ### the facts, one by one -/
section
variable {K : PySem.W.Frag} {h : Heap} {mg : Str → Option Value} {fa : List He.Fa} {fn : List He.DefD}
theorem glo_at (X : K.In h) (G : h.Ns mainGlobals mg) (c : He.SaysD fa fn K) (i : Nat) {x : Str} (e : fa[i]? = some (.glo x)) : mg x = some (.ref (He.ga K x)) := He.glo_ok X G (c.fact i e)
theorem free_at (X : K.In h) (G : h.Ns mainGlobals mg) (c : He.SaysD fa fn K) (i : Nat) {x : Str} (e : fa[i]? = some (.free x)) : mg x = none := He.free_ok X G (c.fact i e)
theorem int_at (X : K.In h) (G : h.Ns mainGlobals mg) (c : He.SaysD fa fn K) (i : Nat) {x : Str} {n : Int} (e : fa[i]? = some (.int x n)) : ∃ u, mg x = some u ∧ RelV (.int n) u := by
  obtain ⟨t, q⟩ := He.int_ok X G (c.fact i e)
  exact ⟨_, q, t, rfl⟩
theorem fun_at (c : He.SaysD fa fn K) (i : Nat) {x : Str} {st : Stmt} (e : fn[i]? = some (dTop x st)) : ∃ fd, Fun K x x st (He.ga K x) fd := by
  obtain ⟨fd, F⟩ := c.def_ i e
  exact ⟨fd, fun_of F⟩
theorem defOk_of (c : He.SaysD fa fn K) (i : Nat) {x : Str} {st : Stmt} {ps : List Str} (e : fn[i]? = some (dTop x st)) (g : mg x = some (.ref (He.ga K x)))
    (b : ∀ (kV doc pm : Value) (an : Option Addr) (cdv ct : Value) (us : List Value), us.length = ps.length → bindArgs (PySem.W.fnOf x x (defArgs st) (defBody st) (defScope st) .none kV doc pm an cdv ct) ⟨us, []⟩ = pure (ps.zip us)) : DefOk K mg x st ps := by
  obtain ⟨fd, F⟩ := fun_at c i e
  exact ⟨_, fd, F, g, F.binds b⟩
theorem defOkC_of (c : He.SaysD fa fn K) (i : Nat) {x : Str} {st : Stmt} {ps : List Str} (e : fn[i]? = some (dTop x st)) (g : mg x = some (.ref (He.ga K x)))
    (b : ∀ (kV doc pm : Value) (an : Option Addr) (cdv ct : Value) (us : List Value), us.length = ps.length → bindArgs (PySem.W.fnOf x x (defArgs st) (defBody st) (defScope st) .none kV doc pm an cdv ct) ⟨us, []⟩ = pure (ps.zip us)) : DefOkC K mg x st ps (He.codeOf K (x, none)) := by
  obtain ⟨fd, F⟩ := fun_at c i e
  have F2 := F
  obtain ⟨oc, od, kV, doc, pm, an, cdv, ct, osl, rfl, lk, hcd⟩ := F2.ex
  obtain ⟨cc, rfl⟩ := He.codeIn_ref hcd
  exact ⟨_, _, F, g, F.binds b, by rw [He.codeOf_eq (p := (x, none)) lk rfl]⟩
theorem kdct_of {w : World} {a : Addr} {es : Array DictEntry} {n : Nat} {kvs : List (Str × He.Dv)} (d : KDict K w a es n) (v : He.valsB K a kvs = true) {q : Str × He.Dv} (hq : q ∈ kvs) : KDct K w a q.1 (q.2.v K) := by
  obtain ⟨u, e1, e2⟩ := He.valsB_ok v hq
  exact ⟨es, n, u, d.at_, d.lit, e1, e2⟩
theorem init1_ok {P : Program} {w : World} {base : Heap} {qual f : Str} {st : Stmt} {a C : Addr} {fd : FuncData} {p : Str} (F : Fun K "__init__" qual st a fd) (S : FnScope [("self" : Str), p] [("self" : Str), p] (defScope st))
    (body : ∀ X : Cx, X.N = [("self" : Str), p] → X.env.scope = defScope st → PSs X (defBody st) (tOst X.K f (tVar 0) (tVar 1))) : FnOk P w K mg base CX0 1 a fd [("self" : Str), p] (spInit1 K C f) := by
  refine F.ok S (fun vs H Q E h => ?_) (fun cdv A outer s H vs Q E hr h => ⟨_, body _ rfl rfl, ?_⟩)
  · obtain ⟨a, v, rfl, _⟩ := h; rfl
  · obtain ⟨a, v, rfl, T, no, ha, k⟩ := h
    exact ⟨v, rfl, .ref a, rfl, a, C, rfl, T, no, .inl ⟨ha, fun dx n1 n2 => k dx n1 n2⟩⟩
end
end FW

set_option maxRecDepth 100000
set_option maxHeartbeats 4000000
namespace K02
open PySem L2 FW
def top (i : Nat) : Stmt := PySem.Challenge.pw_fairweather_k02_shorts_reckoned.main.body.getD i (.Pass ⟨0, 0, 0, 0⟩)
local macro_rules | `(tactic| walk_at "side") => `(tactic| first
  | omega
  | exact ⟨by omega, by omega⟩
  | exact Or.inl ⟨by omega, by omega⟩
  | exact Or.inr ⟨by omega, by omega⟩
  | exact ⟨by omega, by omega, by omega⟩
  | exact ⟨by decide, by decide, by decide⟩
  | (refine mix2 ?_ ?_ ?_ ?_ ?_ ?_ ?_ ?_ ?_ ?_ <;> omega))
local macro_rules | `(tactic| walk_at "hp") => `(tactic| first
  | assumption | exact upd_same
  | (refine' rd_new ?n ?q; (case n => assumption); (case q => walk_at "hp"))
  | (refine' rd_ne ?n ?q; (case n => first | assumption | (apply Ne.symm; assumption)); (case q => walk_at "hp")))
local macro_rules | `(tactic| walk_at "sq") => `(tactic| first
  | assumption
  | (with_reducible apply SqL.of; walk_at "hp") | (with_reducible apply SqT.of; walk_at "hp")
  | ((with_reducible refine' sqL_new ?n ?q); (case n => assumption); (case q => walk_at "sq"))
  | ((with_reducible refine' sqT_new ?n ?q); (case n => assumption); (case q => walk_at "sq"))
  | ((with_reducible refine' sqL_ne ?n ?q); (case n => first | assumption | (apply Ne.symm; assumption)); (case q => walk_at "sq"))
  | ((with_reducible refine' sqT_ne ?n ?q); (case n => first | assumption | (apply Ne.symm; assumption)); (case q => walk_at "sq"))
  | ((with_reducible refine' Ext.sqL ?e ?n ?q); (case e => assumption); (case n => first | assumption | (apply Ne.symm; assumption)); (case q => walk_at "sq"))
  | ((with_reducible refine' Ext.sqT ?e ?n ?q); (case e => assumption); (case n => first | assumption | (apply Ne.symm; assumption)); (case q => walk_at "sq"))
  | ((with_reducible refine' Grow.sqL ?e ?q); (case e => assumption); (case q => walk_at "sq"))
  | ((with_reducible refine' Grow.sqT ?e ?q); (case e => assumption); (case q => walk_at "sq")))
local macro_rules | `(tactic| walk_at "sqs") => `(tactic| first | assumption | (exact ‹∀ H, SqT _ H _ _› _) | (apply SqT.of; walk_at "hp"))
local macro_rules | `(tactic| walk_at "kn") => `(tactic| first | assumption | exact True.intro)
local macro_rules | `(tactic| walk_at "fw") => `(tactic| with_reducible first
  | refine w_seq ?_ | refine w_asg ?_ | refine w_ret ?_ | refine w_drop ?_ | refine w_next ?_ | refine w_c ?_ | refine w_op ?_ | refine w_un ?_
  | refine w_test ?_ | refine w_B ?_ | refine w_bl ?_ | refine w_not ?_ | refine w_and ?_ | refine w_or ?_ | refine w_andV ?_ | refine w_orV ?_ | refine w_notV ?_
  | refine w_if ?_ | refine w_ifE ?_ | refine w_yes ?_ | refine w_no ?_ | refine w_rfl ?_ | refine w_tr ?_ | refine w_nyes ?_ | refine w_nno ?_ | refine w_T ?_ | refine w_F ?_ | refine w_nil ?_ | refine w_cons ?_ | refine w_cb ?_ | refine w_call ?_ | refine w_lst ?_ | refine w_tup ?_
  | refine w_I0 ?_ | refine w_U ?_ | refine w_int ?_ | refine w_intB ?_ | refine w_abs ?_ | refine w_raise1 ?_ | refine w_sub ?_ | refine w_gcons ?_ | refine w_gnil ?_ | refine w_par ?_ | refine w_chain ?_ | refine w_callNB ?_)
local macro_rules | `(tactic| walk_at "fwv") => `(tactic| first
  | ((with_reducible refine' w_var ?e ?_); (case e => rfl))
  | ((with_reducible refine' w_I ?e ?_); (case e => walk_at "side"))
  | ((with_reducible refine' w_ixL ?s ?e ?_); (case s => walk_at "sq"); (case e => rfl))
  | ((with_reducible refine' w_lenL ?s ?_); (case s => walk_at "sq"); try simp only [List.length_map, List.length_cons, List.length_nil])
  | ((with_reducible refine' w_setL ?e ?f ?_); (case e => walk_at "hp"); (case f => rfl); try simp only [Int.reduceToNat, List.set_cons_zero, List.set_cons_succ, upd_upd])
  | ((with_reducible refine' w_gtup ?s ?l ?_); (case s => walk_at "sq"); (case l => rfl))
  | ((with_reducible refine' w_eq ?e ?_); (case e => rfl))
  | ((with_reducible refine' w_ne ?e ?_); (case e => rfl))
  | ((with_reducible refine' w_mk1 ?o ?n ?_); (case o => apply Exn.oex; assumption); (case n => apply Exn.no; assumption); intro _ _)
  | ((with_reducible refine w_dnew ?_); intro _ _)
  | ((with_reducible refine' w_inT (ss := ?ss) ?s ?_); (case s => walk_at "sqs"))
  | ((with_reducible refine' w_notInT (ss := ?ss) ?s ?_); (case s => walk_at "sqs"))
  | ((with_reducible refine' w_inX ?s ?f ?g ?_); (case s => walk_at "sqs"); (case f => rfl); (case g => rfl))
  | ((with_reducible refine' w_isIntA ?k ?_); (case k => walk_at "kn"))
  | ((with_reducible refine' w_isBlA ?k ?_); (case k => walk_at "kn"))
  | ((with_reducible refine' w_isStrA ?k ?_); (case k => walk_at "kn"))
  | ((with_reducible refine w_par2 ?_); simp only [List.set_cons_zero, List.set_cons_succ])
  | ((with_reducible refine w_name ?_); simp only [List.set_cons_zero, List.set_cons_succ]))
local macro_rules | `(tactic| walk_at "size") => `(tactic| first | (show _ ≤ sizeLine; decide) | (simp only [List.length_cons, List.length_nil]; decide))
local macro_rules | `(tactic| walk_at "mk") => `(tactic| ((with_reducible refine' w_made ?n ?_); (case n => walk_at "size"); intro _ _))
local macro_rules | `(tactic| walk_at "ev") => `(tactic| simp only [reduceCtorEq, V.int.injEq, V.bl.injEq, V.str.injEq, V.ref.injEq, List.append_nil, List.cons_append, List.nil_append, decide_true, decide_false, Bool.not_true, Bool.not_false])
local macro_rules | `(tactic| walk_at "go") => `(tactic| repeat (first | walk_at "fw" | walk_at "fwv" | walk_at "mk" | (dsimp only) | walk_at "ev"))
local macro_rules | `(tactic| walk_at "br") => `(tactic| first | refine w_iteN (fun _ => ?_) (fun _ => ?_) | refine w_iteD (fun _ => ?_) (fun _ => ?_) | refine w_ite (fun _ => ?_) (fun _ => ?_))
local macro_rules | `(tactic| walk_at "fork") => `(tactic| (first | refine w_iteN (fun hx => ?_) (fun hx => ?_) | refine w_iteD (fun hx => ?_) (fun hx => ?_) | refine w_ite (fun hx => ?_) (fun hx => ?_)) <;> first | (exact absurd hx (by decide +kernel)) | skip)
local macro_rules | `(tactic| walk_at "gr") => `(tactic| repeat' (first | exact Grow.refl _ | assumption | refine Grow.trans ?_ (Grow.new (by assumption))))

/-! ### the mathematics -/
def wrap (n : Int) : Int := (n + 2147483648) % 4294967296 - 2147483648
def Sh (n : Int) : Prop := -2147483648 ≤ n ∧ n ≤ 2147483647
theorem wrap_sh (n : Int) : Sh (wrap n) := by unfold wrap Sh; omega
theorem wrap_of {n : Int} (h : Sh n) : wrap n = n := by unfold wrap; unfold Sh at h; omega
def signs : List Str := ["+", "-", "*", "div", "rem", "<", "=", "and", "or"]
def actOf (x : Str) (a b : Int) : Int :=
  if x = "+" then wrap (a + b) else if x = "-" then wrap (a - b) else if x = "*" then wrap (a * b) else if x = "div" then (if b = 0 then 0 else wrap (a.fdiv b)) else
  if x = "rem" then (if b = 0 then 0 else a.fmod b) else if x = "<" then (if a < b then 1 else 0) else if x = "=" then (if a = b then 1 else 0) else
  if x = "and" then (if a = 0 ∨ b = 0 then 0 else 1) else (if a = 0 ∧ b = 0 then 0 else 1)
theorem act1 (a b : Int) : actOf "+" a b = wrap (a + b) := by unfold actOf; exact if_pos rfl
theorem act2 (a b : Int) : actOf "-" a b = wrap (a - b) := by unfold actOf; rw [if_neg (by decide +kernel)]; exact if_pos rfl
theorem act3 (a b : Int) : actOf "*" a b = wrap (a * b) := by unfold actOf; rw [if_neg (by decide +kernel), if_neg (by decide +kernel)]; exact if_pos rfl
theorem act4 (a b : Int) : actOf "div" a b = if b = 0 then 0 else wrap (a.fdiv b) := by unfold actOf; rw [if_neg (by decide +kernel), if_neg (by decide +kernel), if_neg (by decide +kernel)]; exact if_pos rfl
theorem act5 (a b : Int) : actOf "rem" a b = if b = 0 then 0 else a.fmod b := by unfold actOf; rw [if_neg (by decide +kernel), if_neg (by decide +kernel), if_neg (by decide +kernel), if_neg (by decide +kernel)]; exact if_pos rfl
theorem act6 (a b : Int) : actOf "<" a b = if a < b then 1 else 0 := by unfold actOf; rw [if_neg (by decide +kernel), if_neg (by decide +kernel), if_neg (by decide +kernel), if_neg (by decide +kernel), if_neg (by decide +kernel)]; exact if_pos rfl
theorem act7 (a b : Int) : actOf "=" a b = if a = b then 1 else 0 := by unfold actOf; rw [if_neg (by decide +kernel), if_neg (by decide +kernel), if_neg (by decide +kernel), if_neg (by decide +kernel), if_neg (by decide +kernel), if_neg (by decide +kernel)]; exact if_pos rfl
theorem act8 (a b : Int) : actOf "and" a b = if a = 0 ∨ b = 0 then 0 else 1 := by unfold actOf; rw [if_neg (by decide +kernel), if_neg (by decide +kernel), if_neg (by decide +kernel), if_neg (by decide +kernel), if_neg (by decide +kernel), if_neg (by decide +kernel), if_neg (by decide +kernel)]; exact if_pos rfl
theorem act9 (a b : Int) : actOf "or" a b = if a = 0 ∧ b = 0 then 0 else 1 := by unfold actOf; rw [if_neg (by decide +kernel), if_neg (by decide +kernel), if_neg (by decide +kernel), if_neg (by decide +kernel), if_neg (by decide +kernel), if_neg (by decide +kernel), if_neg (by decide +kernel), if_neg (by decide +kernel)]
def within (v lo hi : V) : Bool := match v with
  | .int i => (match lo with | .int l => decide (l ≤ i) | _ => true) && (match hi with | .int h => decide (i ≤ h) | _ => true)
  | _ => false
def isSh (v : V) : Bool := match v with
  | .int i => decide (-2147483648 ≤ i) && decide (i ≤ 2147483647)
  | _ => false
theorem isSh_within (v : V) : within v (.int (-2147483648)) (.int 2147483647) = isSh v := by cases v <;> rfl
theorem isSh_iff {i : Int} : isSh (.int i) = true ↔ Sh i := by unfold isSh Sh; simp
/-! ### what the text says -/
abbrev s_is_integer : Stmt := top 3
def N_is_integer : List Str := ["value"]
theorem sc_is_integer : FnScope N_is_integer ["value"] (defScope s_is_integer) := ⟨rfl, rfl, rfl, by decide +kernel, rfl, by decide +kernel, by decide +kernel⟩
abbrev s_is_within : Stmt := top 4
def N_is_within : List Str := ["value", "least", "most"]
theorem sc_is_within : FnScope N_is_within ["value", "least", "most"] (defScope s_is_within) := ⟨rfl, rfl, rfl, by decide +kernel, rfl, by decide +kernel, by decide +kernel⟩
abbrev s_is_short : Stmt := top 5
def N_is_short : List Str := ["value"]
theorem sc_is_short : FnScope N_is_short ["value"] (defScope s_is_short) := ⟨rfl, rfl, rfl, by decide +kernel, rfl, by decide +kernel, by decide +kernel⟩
abbrev s_short_of : Stmt := top 11
def N_short_of : List Str := ["number"]
theorem sc_short_of : FnScope N_short_of ["number"] (defScope s_short_of) := ⟨rfl, rfl, rfl, by decide +kernel, rfl, by decide +kernel, by decide +kernel⟩
abbrev s_wrapped : Stmt := top 12
def N_wrapped : List Str := ["number"]
theorem sc_wrapped : FnScope N_wrapped ["number"] (defScope s_wrapped) := ⟨rfl, rfl, rfl, by decide +kernel, rfl, by decide +kernel, by decide +kernel⟩
abbrev s_added : Stmt := top 13
def N_added : List Str := ["one", "other"]
theorem sc_added : FnScope N_added ["one", "other"] (defScope s_added) := ⟨rfl, rfl, rfl, by decide +kernel, rfl, by decide +kernel, by decide +kernel⟩
abbrev s_taken_from : Stmt := top 14
def N_taken_from : List Str := ["one", "other"]
theorem sc_taken_from : FnScope N_taken_from ["one", "other"] (defScope s_taken_from) := ⟨rfl, rfl, rfl, by decide +kernel, rfl, by decide +kernel, by decide +kernel⟩
abbrev s_multiplied : Stmt := top 15
def N_multiplied : List Str := ["one", "other"]
theorem sc_multiplied : FnScope N_multiplied ["one", "other"] (defScope s_multiplied) := ⟨rfl, rfl, rfl, by decide +kernel, rfl, by decide +kernel, by decide +kernel⟩
abbrev s_divided : Stmt := top 16
def N_divided : List Str := ["one", "other"]
theorem sc_divided : FnScope N_divided ["one", "other"] (defScope s_divided) := ⟨rfl, rfl, rfl, by decide +kernel, rfl, by decide +kernel, by decide +kernel⟩
abbrev s_left_over : Stmt := top 17
def N_left_over : List Str := ["one", "other"]
theorem sc_left_over : FnScope N_left_over ["one", "other"] (defScope s_left_over) := ⟨rfl, rfl, rfl, by decide +kernel, rfl, by decide +kernel, by decide +kernel⟩
abbrev s_is_less : Stmt := top 18
def N_is_less : List Str := ["one", "other"]
theorem sc_is_less : FnScope N_is_less ["one", "other"] (defScope s_is_less) := ⟨rfl, rfl, rfl, by decide +kernel, rfl, by decide +kernel, by decide +kernel⟩
abbrev s_is_equal : Stmt := top 19
def N_is_equal : List Str := ["one", "other"]
theorem sc_is_equal : FnScope N_is_equal ["one", "other"] (defScope s_is_equal) := ⟨rfl, rfl, rfl, by decide +kernel, rfl, by decide +kernel, by decide +kernel⟩
abbrev s_are_both : Stmt := top 20
def N_are_both : List Str := ["one", "other"]
theorem sc_are_both : FnScope N_are_both ["one", "other"] (defScope s_are_both) := ⟨rfl, rfl, rfl, by decide +kernel, rfl, by decide +kernel, by decide +kernel⟩
abbrev s_is_any : Stmt := top 21
def N_is_any : List Str := ["one", "other"]
theorem sc_is_any : FnScope N_is_any ["one", "other"] (defScope s_is_any) := ⟨rfl, rfl, rfl, by decide +kernel, rfl, by decide +kernel, by decide +kernel⟩
abbrev s_reckoned : Stmt := top 23
def N_reckoned : List Str := ["sign", "one", "other", "act"]
theorem sc_reckoned : FnScope N_reckoned ["sign", "one", "other"] (defScope s_reckoned) := ⟨rfl, rfl, rfl, by decide +kernel, rfl, by decide +kernel, by decide +kernel⟩
/-! ### promises -/
def spIsInteger (K : PySem.W.Frag) : Sp := fun vs H Q _ => ∃ v, vs = [v] ∧ Kn K H v ∧ Q (.bl (isInt v)) H
def OrN (v : V) : Prop := v = .non ∨ ∃ i, v = .int i
def spWithin (K : PySem.W.Frag) : Sp := fun vs H Q _ => ∃ v lo hi, vs = [v, lo, hi] ∧ Kn K H v ∧ OrN lo ∧ OrN hi ∧ Q (.bl (within v lo hi)) H
def spIsShort (K : PySem.W.Frag) : Sp := fun vs H Q _ => ∃ v, vs = [v] ∧ Kn K H v ∧ Q (.bl (isSh v)) H
def spShortOf : Sp := fun vs H Q _ => ∃ n, vs = [.int n] ∧ Q (.int (wrap n)) H
def spAct (f : Int → Int → Int) : Sp := fun vs H Q _ => ∃ a b, vs = [.int a, .int b] ∧ Sh a ∧ Sh b ∧ Q (.int (f a b)) H
def spWrapped (K : PySem.W.Frag) (C : Addr) : Sp := fun vs H Q E => ∃ v, vs = [v] ∧ Kn K H v ∧ (∀ n, v = .int n → Q (.int (wrap n)) H) ∧ (isInt v = false → ∀ d, H d = none → E (.ref C) (some d) (upd H d (.xd [("part", .str "number")])))
/-- the part that is told, if any -/
def isSign (v : V) : Bool := match v with
  | .str x => signs.contains x
  | _ => false
def badPart (s a b : V) : Option Str := if isSign s = false then some "sign" else if isSh a = false then some "one" else if isSh b = false then some "other" else none
def spReckoned (K : PySem.W.Frag) (C : Addr) : Sp := fun vs H Q E => ∃ s a b, vs = [s, a, b] ∧ Kn K H s ∧ Kn K H a ∧ Kn K H b ∧
  (badPart s a b = none → ∀ x i j, s = .str x → a = .int i → b = .int j → Q (.int (actOf x i j)) H) ∧
  (∀ p, badPart s a b = some p → ∀ d, H d = none → E (.ref C) (some d) (upd H d (.xd [("part", .str p)])))
/-- a sign's act in the table at aA -/
structure ActAt (P : Program) (w : World) (K : PySem.W.Frag) (aA : Addr) (x : Str) (nm : Str) (st : Stmt) : Prop where
  ex : ∃ (f : Addr) (fd : FuncData), KDct K w aA x (.ref f) ∧ Fun K nm nm st f fd ∧ Binds K fd ["one", "other"] []
structure Txt (P : Program) (w : World) (K : PySem.W.Frag) (mg : Str → Option Value) (base : Heap) where
  aS : Addr
  aA : Addr
  cBadNumber : Addr
  b_int : mg "int" = none
  b_bool : mg "bool" = none
  b_str : mg "str" = none
  b_len : mg "len" = none
  b_abs : mg "abs" = none
  b_isinstance : mg "isinstance" = none
  g_LEAST_SHORT : ∃ u, mg "LEAST_SHORT" = some u ∧ RelV (.int (-2147483648)) u
  g_MOST_SHORT : ∃ u, mg "MOST_SHORT" = some u ∧ RelV (.int 2147483647) u
  g_SIGNS : mg "SIGNS" = some (.ref aS)
  k_SIGNS : ∀ H, SqT K H aS (signs.map V.str)
  g_ACTS : mg "ACTS" = some (.ref aA)
  a_added : ActAt P w K aA "+" "added" s_added
  a_taken_from : ActAt P w K aA "-" "taken_from" s_taken_from
  a_multiplied : ActAt P w K aA "*" "multiplied" s_multiplied
  a_divided : ActAt P w K aA "div" "divided" s_divided
  a_left_over : ActAt P w K aA "rem" "left_over" s_left_over
  a_is_less : ActAt P w K aA "<" "is_less" s_is_less
  a_is_equal : ActAt P w K aA "=" "is_equal" s_is_equal
  a_are_both : ActAt P w K aA "and" "are_both" s_are_both
  a_is_any : ActAt P w K aA "or" "is_any" s_is_any
  x_BadNumber : Exn P w K mg base "BadNumber" "part" cBadNumber
  d_is_integer : DefOk K mg "is_integer" s_is_integer ["value"]
  d_is_within : DefOk K mg "is_within" s_is_within ["value", "least", "most"]
  d_is_short : DefOk K mg "is_short" s_is_short ["value"]
  d_short_of : DefOk K mg "short_of" s_short_of ["number"]
  d_wrapped : DefOk K mg "wrapped" s_wrapped ["number"]
  d_reckoned : DefOk K mg "reckoned" s_reckoned ["sign", "one", "other"]
section
variable {P : Program} {w : World} {K : PySem.W.Frag} {mg : Str → Option Value} {base : Heap}
theorem ok_is_integer {f : Addr} {fd : FuncData} (T : Txt P w K mg base) (F : Fun K "is_integer" "is_integer" s_is_integer f fd) : FnOk P w K mg base CX0 1 f fd ["value"] (spIsInteger K) := by
  refine F.ok sc_is_integer (fun vs H Q E h => ?_) (fun cdv A outer s H vs Q E hr h => ?_)
  · obtain ⟨v, rfl, _⟩ := h; rfl
  · obtain ⟨v, rfl, kn, k⟩ := h
    refine ⟨_, (pss_one (ps_ret (pe_and (pe_callB call_isA (by rfl) T.b_isinstance (by decide +kernel) (pa_cons (pv 0) (pa_cons (pe_bltn (v := .ty "int") (u := .type "int") rfl T.b_int (by decide +kernel) rfl) pa_nil))) (pe_one (pe_not (pe_callB call_isA (by rfl) T.b_isinstance (by decide +kernel) (pa_cons (pv 0) (pa_cons (pe_bltn (v := .ty "bool") (u := .type "bool") rfl T.b_bool (by decide +kernel) rfl) pa_nil)))))))), ?_⟩
    rw [show L2.start N_is_integer [v] = [some v] from rfl]; try dsimp only [cxOf]
    walk_at "go"
    walk_at "br"
    · walk_at "go"
      cases v <;> simp_all [isIntB, isBl, isInt]
    · cases v <;> simp_all [isIntB, isBl, isInt]
theorem c_is_integer (T : Txt P w K mg base) : Can P w K mg base CX0 1 "is_integer" ["value"] (spIsInteger K) := T.d_is_integer.can fun f fd F => ok_is_integer T F
theorem ok_is_within {f : Addr} {fd : FuncData} (T : Txt P w K mg base) (F : Fun K "is_within" "is_within" s_is_within f fd) : FnOk P w K mg base CX0 2 f fd ["value", "least", "most"] (spWithin K) := by
  refine F.ok sc_is_within (fun vs H Q E h => ?_) (fun cdv A outer s H vs Q E hr h => ?_)
  · obtain ⟨v, lo, hi, rfl, _⟩ := h; rfl
  · obtain ⟨v, lo, hi, rfl, kn, hlo, hhi, k⟩ := h
    refine ⟨_, (pss_cons (ps_if (pt_not (pt_val (pe_can (E := E0) (c_is_integer T) hr (by decide) pass0 rfl (pa_cons (pv 0) pa_nil))))
 (pss_one (ps_ret pe_bl))
 pss_nil)
 (pss_cons (ps_if (PW.pt (pw_and (pt_cmpR op_notN (pv 1) pe_non (nomark _)) (pw_and1 (pt_cmpR op_lt (pv 0) (pv 1) (nomark _)))))
 (pss_one (ps_ret pe_bl))
 pss_nil)
 (pss_one (ps_ret (pe_or (pe_cmpR op_isN (pv 2) pe_non (nomark _)) (pe_one (pe_cmpR op_le (pv 0) (pv 2) (nomark _)))))))), ?_⟩
    rw [show L2.start N_is_within [(v), (lo), (hi)] = [some (v), some (lo), some (hi)] from rfl]; try dsimp only [cxOf]
    walk_at "go"
    refine ⟨v, rfl, kn, ?_⟩
    walk_at "go"
    cases hv : isInt v with
    | false =>
      walk_at "go"
      have e : within v lo hi = false := by cases v <;> first | rfl | cases hv
      rw [← e]; exact k
    | true =>
      obtain ⟨i, rfl⟩ : ∃ i, v = .int i := by cases v <;> first | exact ⟨_, rfl⟩ | cases hv
      rcases hlo with rfl | ⟨l, rfl⟩ <;> rcases hhi with rfl | ⟨u, rfl⟩
      · walk_at "go"; exact k
      · walk_at "go"; simp only [within, Bool.true_and] at k; exact k
      · walk_at "go"; refine w_iteD (fun h => ?_) (fun h => ?_)
        · walk_at "go"; simp only [within, Bool.and_true, decide_eq_false (show ¬ l ≤ i by omega)] at k; exact k
        · walk_at "go"; simp only [within, Bool.and_true, decide_eq_true (show l ≤ i by omega)] at k; exact k
      · walk_at "go"; refine w_iteD (fun h => ?_) (fun h => ?_)
        · walk_at "go"; simp only [within, decide_eq_false (show ¬ l ≤ i by omega), Bool.false_and] at k; exact k
        · walk_at "go"; simp only [within, decide_eq_true (show l ≤ i by omega), Bool.true_and] at k; exact k
theorem c_is_within (T : Txt P w K mg base) : Can P w K mg base CX0 2 "is_within" ["value", "least", "most"] (spWithin K) := T.d_is_within.can fun f fd F => ok_is_within T F
theorem ok_is_short {f : Addr} {fd : FuncData} (T : Txt P w K mg base) (F : Fun K "is_short" "is_short" s_is_short f fd) : FnOk P w K mg base CX0 3 f fd ["value"] (spIsShort K) := by
  refine F.ok sc_is_short (fun vs H Q E h => ?_) (fun cdv A outer s H vs Q E hr h => ?_)
  · obtain ⟨v, rfl, _⟩ := h; rfl
  · obtain ⟨v, rfl, kn, k⟩ := h
    refine ⟨_, (pss_one (ps_ret (pe_can (E := E0) (c_is_within T) hr (by decide) pass0 rfl (pa_cons (pv 0) (pa_cons (pe_gc rfl T.g_LEAST_SHORT) (pa_cons (pe_gc rfl T.g_MOST_SHORT) pa_nil)))))), ?_⟩
    rw [show L2.start N_is_short [(v)] = [some (v)] from rfl]; try dsimp only [cxOf]
    walk_at "go"
    refine ⟨_, _, _, rfl, kn, .inr ⟨_, rfl⟩, .inr ⟨_, rfl⟩, ?_⟩
    rw [isSh_within]
    exact k
theorem c_is_short (T : Txt P w K mg base) : Can P w K mg base CX0 3 "is_short" ["value"] (spIsShort K) := T.d_is_short.can fun f fd F => ok_is_short T F
theorem ok_short_of {f : Addr} {fd : FuncData} (T : Txt P w K mg base) (F : Fun K "short_of" "short_of" s_short_of f fd) : FnOk P w K mg base CX0 1 f fd ["number"] spShortOf := by
  refine F.ok sc_short_of (fun vs H Q E h => ?_) (fun cdv A outer s H vs Q E hr h => ?_)
  · obtain ⟨v, rfl, _⟩ := h; rfl
  · obtain ⟨n, rfl, k⟩ := h
    refine ⟨_, (pss_one (ps_ret (pe_op op_sub (pe_op op_mod (pe_op op_add (pv 0) pe_int) pe_int) pe_int))), ?_⟩
    rw [show L2.start N_short_of [(V.int n)] = [some (V.int n)] from rfl]; try dsimp only [cxOf]
    walk_at "go"
    exact k
theorem c_short_of (T : Txt P w K mg base) : Can P w K mg base CX0 1 "short_of" ["number"] spShortOf := T.d_short_of.can fun f fd F => ok_short_of T F
theorem ok_wrapped {f : Addr} {fd : FuncData} (T : Txt P w K mg base) (F : Fun K "wrapped" "wrapped" s_wrapped f fd) : FnOk P w K mg base (L2.CX P w) 3 f fd ["number"] (spWrapped K T.cBadNumber) := by
  refine F.okX sc_wrapped (fun vs H Q E h => ?_) (fun cdv A outer s H vs Q E hr h => ?_)
  · obtain ⟨v, rfl, _⟩ := h; rfl
  · obtain ⟨v, rfl, kn, k1, k2⟩ := h
    have xN := T.x_BadNumber
    refine ⟨_, (pss_cons (ps_if (pt_not (pt_val (pe_can (E := E0) (c_is_integer T) hr (by decide) pass0 rfl (pa_cons (pv 0) pa_nil))))
 (pss_one (ps_raise1 T.x_BadNumber rfl (hr.mono (by decide)) (takes_of rfl rfl rfl rfl) (pa_cons pe_str pa_nil) rfl))
 pss_nil)
 (pss_one (ps_ret (pe_can (E := E0) (c_short_of T) hr (by decide) pass0 rfl (pa_cons (pv 0) pa_nil))))), ?_⟩
    rw [show L2.start N_wrapped [(v)] = [some (v)] from rfl]; try dsimp only [cxOf]
    walk_at "go"
    refine ⟨v, rfl, kn, ?_⟩
    walk_at "go"
    cases hv : isInt v with
    | false =>
      walk_at "go"
      exact k2 hv _ ‹_›
    | true =>
      obtain ⟨i, rfl⟩ : ∃ i, v = .int i := by cases v <;> first | exact ⟨_, rfl⟩ | cases hv
      walk_at "go"
      exact ⟨i, rfl, k1 _ rfl⟩
theorem c_wrapped (T : Txt P w K mg base) : Can P w K mg base (L2.CX P w) 3 "wrapped" ["number"] (spWrapped K T.cBadNumber) := T.d_wrapped.can fun f fd F => ok_wrapped T F
theorem ok_added {f : Addr} {fd : FuncData} (T : Txt P w K mg base) (F : Fun K "added" "added" s_added f fd) : FnOk P w K mg base CX0 2 f fd ["one", "other"] (spAct (actOf "+")) := by
  refine F.ok sc_added (fun vs H Q E h => ?_) (fun cdv A outer s H vs Q E hr h => ?_)
  · obtain ⟨a, b, rfl, _⟩ := h; rfl
  · obtain ⟨a, b, rfl, ⟨ha1, ha2⟩, ⟨hb1, hb2⟩, k⟩ := h
    refine ⟨_, (pss_one (ps_ret (pe_can (E := E0) (c_short_of T) hr (by decide) pass0 rfl (pa_cons (pe_op op_add (pv 0) (pv 1)) pa_nil)))), ?_⟩
    rw [show L2.start N_added [(V.int a), (V.int b)] = [some (V.int a), some (V.int b)] from rfl]; try dsimp only [cxOf]
    rw [act1] at k
    walk_at "go"
    exact ⟨_, rfl, k⟩
theorem ok_taken_from {f : Addr} {fd : FuncData} (T : Txt P w K mg base) (F : Fun K "taken_from" "taken_from" s_taken_from f fd) : FnOk P w K mg base CX0 2 f fd ["one", "other"] (spAct (actOf "-")) := by
  refine F.ok sc_taken_from (fun vs H Q E h => ?_) (fun cdv A outer s H vs Q E hr h => ?_)
  · obtain ⟨a, b, rfl, _⟩ := h; rfl
  · obtain ⟨a, b, rfl, ⟨ha1, ha2⟩, ⟨hb1, hb2⟩, k⟩ := h
    refine ⟨_, (pss_one (ps_ret (pe_can (E := E0) (c_short_of T) hr (by decide) pass0 rfl (pa_cons (pe_op op_sub (pv 0) (pv 1)) pa_nil)))), ?_⟩
    rw [show L2.start N_taken_from [(V.int a), (V.int b)] = [some (V.int a), some (V.int b)] from rfl]; try dsimp only [cxOf]
    rw [act2] at k
    walk_at "go"
    exact ⟨_, rfl, k⟩
theorem ok_multiplied {f : Addr} {fd : FuncData} (T : Txt P w K mg base) (F : Fun K "multiplied" "multiplied" s_multiplied f fd) : FnOk P w K mg base CX0 2 f fd ["one", "other"] (spAct (actOf "*")) := by
  refine F.ok sc_multiplied (fun vs H Q E h => ?_) (fun cdv A outer s H vs Q E hr h => ?_)
  · obtain ⟨a, b, rfl, _⟩ := h; rfl
  · obtain ⟨a, b, rfl, ⟨ha1, ha2⟩, ⟨hb1, hb2⟩, k⟩ := h
    refine ⟨_, (pss_one (ps_ret (pe_can (E := E0) (c_short_of T) hr (by decide) pass0 rfl (pa_cons (pe_op op_mul (pv 0) (pv 1)) pa_nil)))), ?_⟩
    rw [show L2.start N_multiplied [(V.int a), (V.int b)] = [some (V.int a), some (V.int b)] from rfl]; try dsimp only [cxOf]
    rw [act3] at k
    walk_at "go"
    exact ⟨_, rfl, k⟩
theorem ok_divided {f : Addr} {fd : FuncData} (T : Txt P w K mg base) (F : Fun K "divided" "divided" s_divided f fd) : FnOk P w K mg base CX0 2 f fd ["one", "other"] (spAct (actOf "div")) := by
  refine F.ok sc_divided (fun vs H Q E h => ?_) (fun cdv A outer s H vs Q E hr h => ?_)
  · obtain ⟨a, b, rfl, _⟩ := h; rfl
  · obtain ⟨a, b, rfl, ⟨ha1, ha2⟩, ⟨hb1, hb2⟩, k⟩ := h
    refine ⟨_, (pss_one (ps_ret (pe_ifExp (pt_cmpR op_ne (pv 1) pe_int (nomark _)) (pe_can (E := E0) (c_short_of T) hr (by decide) pass0 rfl (pa_cons (pe_op op_fdivA (pv 0) (pv 1)) pa_nil)) pe_int))), ?_⟩
    rw [show L2.start N_divided [(V.int a), (V.int b)] = [some (V.int a), some (V.int b)] from rfl]; try dsimp only [cxOf]
    rw [act4] at k
    walk_at "go"
    refine w_iteN (fun h => ?_) (fun h => ?_)
    · walk_at "go"
      rw [if_neg h] at k
      refine w_I ⟨h, Nat.lt_trans (log2_lt (k := 33) (by omega) (by decide)) (by decide)⟩ ?_
      walk_at "go"
      exact ⟨_, rfl, k⟩
    · walk_at "go"
      rw [if_pos h] at k
      exact k
theorem ok_left_over {f : Addr} {fd : FuncData} (T : Txt P w K mg base) (F : Fun K "left_over" "left_over" s_left_over f fd) : FnOk P w K mg base CX0 2 f fd ["one", "other"] (spAct (actOf "rem")) := by
  refine F.ok sc_left_over (fun vs H Q E h => ?_) (fun cdv A outer s H vs Q E hr h => ?_)
  · obtain ⟨a, b, rfl, _⟩ := h; rfl
  · obtain ⟨a, b, rfl, ⟨ha1, ha2⟩, ⟨hb1, hb2⟩, k⟩ := h
    refine ⟨_, (pss_one (ps_ret (pe_ifExp (pt_cmpR op_ne (pv 1) pe_int (nomark _)) (pe_op op_modN (pv 0) (pv 1)) pe_int))), ?_⟩
    rw [show L2.start N_left_over [(V.int a), (V.int b)] = [some (V.int a), some (V.int b)] from rfl]; try dsimp only [cxOf]
    rw [act5] at k
    walk_at "go"
    refine w_iteN (fun h => ?_) (fun h => ?_)
    · walk_at "go"
      rw [if_neg h] at k
      exact k
    · walk_at "go"
      rw [if_pos h] at k
      exact k
theorem ok_is_less {f : Addr} {fd : FuncData} (T : Txt P w K mg base) (F : Fun K "is_less" "is_less" s_is_less f fd) : FnOk P w K mg base CX0 2 f fd ["one", "other"] (spAct (actOf "<")) := by
  refine F.ok sc_is_less (fun vs H Q E h => ?_) (fun cdv A outer s H vs Q E hr h => ?_)
  · obtain ⟨a, b, rfl, _⟩ := h; rfl
  · obtain ⟨a, b, rfl, ⟨ha1, ha2⟩, ⟨hb1, hb2⟩, k⟩ := h
    refine ⟨_, (pss_one (ps_ret (pe_ifExp (pt_cmpR op_lt (pv 0) (pv 1) (nomark _)) pe_int pe_int))), ?_⟩
    rw [show L2.start N_is_less [(V.int a), (V.int b)] = [some (V.int a), some (V.int b)] from rfl]; try dsimp only [cxOf]
    rw [act6] at k
    walk_at "go"
    refine w_iteD (fun h => ?_) (fun h => ?_)
    · walk_at "go"; rw [if_pos h] at k; exact k
    · walk_at "go"; rw [if_neg h] at k; exact k
theorem ok_is_equal {f : Addr} {fd : FuncData} (T : Txt P w K mg base) (F : Fun K "is_equal" "is_equal" s_is_equal f fd) : FnOk P w K mg base CX0 2 f fd ["one", "other"] (spAct (actOf "=")) := by
  refine F.ok sc_is_equal (fun vs H Q E h => ?_) (fun cdv A outer s H vs Q E hr h => ?_)
  · obtain ⟨a, b, rfl, _⟩ := h; rfl
  · obtain ⟨a, b, rfl, ⟨ha1, ha2⟩, ⟨hb1, hb2⟩, k⟩ := h
    refine ⟨_, (pss_one (ps_ret (pe_ifExp (pt_cmpR op_eq (pv 0) (pv 1) (nomark _)) pe_int pe_int))), ?_⟩
    rw [show L2.start N_is_equal [(V.int a), (V.int b)] = [some (V.int a), some (V.int b)] from rfl]; try dsimp only [cxOf]
    rw [act7] at k
    walk_at "go"
    refine w_iteD (fun h => ?_) (fun h => ?_)
    · walk_at "go"; rw [if_pos h] at k; exact k
    · walk_at "go"; rw [if_neg h] at k; exact k
theorem ok_are_both {f : Addr} {fd : FuncData} (T : Txt P w K mg base) (F : Fun K "are_both" "are_both" s_are_both f fd) : FnOk P w K mg base CX0 2 f fd ["one", "other"] (spAct (actOf "and")) := by
  refine F.ok sc_are_both (fun vs H Q E h => ?_) (fun cdv A outer s H vs Q E hr h => ?_)
  · obtain ⟨a, b, rfl, _⟩ := h; rfl
  · obtain ⟨a, b, rfl, ⟨ha1, ha2⟩, ⟨hb1, hb2⟩, k⟩ := h
    refine ⟨_, (pss_one (ps_ret (pe_ifExp (PW.pt (pw_and (pt_cmpR op_ne (pv 0) pe_int (nomark _)) (pw_and1 (pt_cmpR op_ne (pv 1) pe_int (nomark _))))) pe_int pe_int))), ?_⟩
    rw [show L2.start N_are_both [(V.int a), (V.int b)] = [some (V.int a), some (V.int b)] from rfl]; try dsimp only [cxOf]
    rw [act8] at k
    walk_at "go"
    refine w_iteN (fun h => ?_) (fun h => ?_)
    · walk_at "go"
      refine w_iteN (fun h2 => ?_) (fun h2 => ?_)
      · walk_at "go"; rw [if_neg (by omega)] at k; exact k
      · walk_at "go"; rw [if_pos (by omega)] at k; exact k
    · walk_at "go"; rw [if_pos (by omega)] at k; exact k
theorem ok_is_any {f : Addr} {fd : FuncData} (T : Txt P w K mg base) (F : Fun K "is_any" "is_any" s_is_any f fd) : FnOk P w K mg base CX0 2 f fd ["one", "other"] (spAct (actOf "or")) := by
  refine F.ok sc_is_any (fun vs H Q E h => ?_) (fun cdv A outer s H vs Q E hr h => ?_)
  · obtain ⟨a, b, rfl, _⟩ := h; rfl
  · obtain ⟨a, b, rfl, ⟨ha1, ha2⟩, ⟨hb1, hb2⟩, k⟩ := h
    refine ⟨_, (pss_one (ps_ret (pe_ifExp (PW.pt (pw_or (pt_cmpR op_ne (pv 0) pe_int (nomark _)) (pw_or1 (pt_cmpR op_ne (pv 1) pe_int (nomark _))))) pe_int pe_int))), ?_⟩
    rw [show L2.start N_is_any [(V.int a), (V.int b)] = [some (V.int a), some (V.int b)] from rfl]; try dsimp only [cxOf]
    rw [act9] at k
    walk_at "go"
    refine w_iteN (fun h => ?_) (fun h => ?_)
    · walk_at "go"; rw [if_neg (by omega)] at k; exact k
    · walk_at "go"
      refine w_iteN (fun h2 => ?_) (fun h2 => ?_)
      · walk_at "go"; rw [if_neg (by omega)] at k; exact k
      · walk_at "go"; rw [if_pos (by omega)] at k; exact k
theorem act_held (T : Txt P w K mg base) {x : Str} (h : signs.contains x = true) : ∃ f, KDct K w T.aA x (.ref f) ∧ Held P w K mg base 2 f (spAct (actOf x)) := by
  have hm : x ∈ signs := by simpa using h
  unfold signs at hm
  simp only [List.mem_cons, List.not_mem_nil, or_false] at hm
  rcases hm with rfl | rfl | rfl | rfl | rfl | rfl | rfl | rfl | rfl
  · obtain ⟨f, fd, kd, F, b⟩ := T.a_added.ex
    exact ⟨f, kd, fd, _, ok_added T F, F.kp, b⟩
  · obtain ⟨f, fd, kd, F, b⟩ := T.a_taken_from.ex
    exact ⟨f, kd, fd, _, ok_taken_from T F, F.kp, b⟩
  · obtain ⟨f, fd, kd, F, b⟩ := T.a_multiplied.ex
    exact ⟨f, kd, fd, _, ok_multiplied T F, F.kp, b⟩
  · obtain ⟨f, fd, kd, F, b⟩ := T.a_divided.ex
    exact ⟨f, kd, fd, _, ok_divided T F, F.kp, b⟩
  · obtain ⟨f, fd, kd, F, b⟩ := T.a_left_over.ex
    exact ⟨f, kd, fd, _, ok_left_over T F, F.kp, b⟩
  · obtain ⟨f, fd, kd, F, b⟩ := T.a_is_less.ex
    exact ⟨f, kd, fd, _, ok_is_less T F, F.kp, b⟩
  · obtain ⟨f, fd, kd, F, b⟩ := T.a_is_equal.ex
    exact ⟨f, kd, fd, _, ok_is_equal T F, F.kp, b⟩
  · obtain ⟨f, fd, kd, F, b⟩ := T.a_are_both.ex
    exact ⟨f, kd, fd, _, ok_are_both T F, F.kp, b⟩
  · obtain ⟨f, fd, kd, F, b⟩ := T.a_is_any.ex
    exact ⟨f, kd, fd, _, ok_is_any T F, F.kp, b⟩
theorem ok_reckoned {f : Addr} {fd : FuncData} (T : Txt P w K mg base) (F : Fun K "reckoned" "reckoned" s_reckoned f fd) : FnOk P w K mg base (L2.CX P w) 4 f fd ["sign", "one", "other"] (spReckoned K T.cBadNumber) := by
  refine F.okX sc_reckoned (fun vs H Q E h => ?_) (fun cdv A outer s H vs Q E hr h => ?_)
  · obtain ⟨v, lo, hi, rfl, _⟩ := h; rfl
  · obtain ⟨sg, a, b, rfl, kn0, kn1, kn2, k1, k2⟩ := h
    have xN := T.x_BadNumber
    refine ⟨_, (pss_cons (ps_if (PW.pt (pw_or (pt_not (pt_val (pe_callB call_isA (by rfl) T.b_isinstance (by decide +kernel) (pa_cons (pv 0) (pa_cons (pe_bltn (v := .ty "str") (u := .type "str") rfl T.b_str (by decide +kernel) rfl) pa_nil))))) (pw_or1 (pt_cmpR op_notIn_seq (pv 0) (pe_glob (v := .ref T.aS) rfl T.g_SIGNS rfl) (by rfl)))))
 (pss_one (ps_raise1 T.x_BadNumber rfl (hr.mono (by decide)) (takes_of rfl rfl rfl rfl) (pa_cons pe_str pa_nil) rfl))
 pss_nil)
 (pss_cons (ps_if (pt_not (pt_val (pe_can (E := E0) (c_is_short T) hr (by decide) pass0 rfl (pa_cons (pv 1) pa_nil))))
 (pss_one (ps_raise1 T.x_BadNumber rfl (hr.mono (by decide)) (takes_of rfl rfl rfl rfl) (pa_cons pe_str pa_nil) rfl))
 pss_nil)
 (pss_cons (ps_if (pt_not (pt_val (pe_can (E := E0) (c_is_short T) hr (by decide) pass0 rfl (pa_cons (pv 2) pa_nil))))
 (pss_one (ps_raise1 T.x_BadNumber rfl (hr.mono (by decide)) (takes_of rfl rfl rfl rfl) (pa_cons pe_str pa_nil) rfl))
 pss_nil)
 (pss_cons (ps_set (i := 3) sc_reckoned.nd rfl (Or.inl rfl) (pe_ix ix_kdict (pe_glob (v := .ref T.aA) rfl T.g_ACTS rfl) (pv 0) (fun _ _ => rfl)))
 (pss_one (ps_ret (pe_held (k := 2) (i := 3) (hr.mono (by decide)) rfl (Or.inl rfl) (pa_cons (pv 1) (pa_cons (pv 2) pa_nil))))))))), ?_⟩
    rw [show L2.start N_reckoned [(sg), (a), (b)] = [some (sg), some (a), some (b), none] from rfl]; try dsimp only [cxOf]
    walk_at "go"
    cases h0 : isStr sg with
    | false =>
      walk_at "go"
      exact k2 "sign" (by cases sg <;> first | rfl | cases h0) _ ‹_›
    | true =>
      obtain ⟨x, rfl⟩ : ∃ x, sg = .str x := by cases sg <;> first | exact ⟨_, rfl⟩ | cases h0
      have kS := T.k_SIGNS
      walk_at "go"
      cases h1 : signs.contains x with
      | false =>
        walk_at "go"
        exact k2 "sign" (by unfold badPart; exact if_pos h1) _ ‹_›
      | true =>
        walk_at "go"
        refine ⟨a, rfl, kn1, ?_⟩
        walk_at "go"
        have b1 : isSign (.str x) = true := h1
        cases h2 : isSh a with
        | false =>
          walk_at "go"
          exact k2 "one" (by unfold badPart; rw [b1, h2]; rfl) _ ‹_›
        | true =>
          walk_at "go"
          refine ⟨b, rfl, kn2, ?_⟩
          walk_at "go"
          cases h3 : isSh b with
          | false =>
            walk_at "go"
            exact k2 "other" (by unfold badPart; rw [b1, h2, h3]; rfl) _ ‹_›
          | true =>
            obtain ⟨i, rfl⟩ : ∃ i, a = .int i := by cases a <;> first | exact ⟨_, rfl⟩ | cases h2
            obtain ⟨j, rfl⟩ : ∃ j, b = .int j := by cases b <;> first | exact ⟨_, rfl⟩ | cases h3
            obtain ⟨g, kd, hg⟩ := act_held T h1
            walk_at "go"
            refine ⟨_, _, _, rfl, rfl, kd, ?_⟩
            walk_at "go"
            refine w_held rfl hg ?_
            walk_at "go"
            exact ⟨i, j, rfl, isSh_iff.mp h2, isSh_iff.mp h3, k1 (by unfold badPart; rw [b1, h2, h3]; rfl) x i j rfl rfl rfl⟩
theorem c_reckoned (T : Txt P w K mg base) : Can P w K mg base (L2.CX P w) 4 "reckoned" ["sign", "one", "other"] (spReckoned K T.cBadNumber) := T.d_reckoned.can fun f fd F => ok_reckoned T F
end
end K02

set_option maxRecDepth 100000
set_option maxHeartbeats 4000000
namespace K02
open PySem L2 FW PyProof.Rows
local macro_rules | `(tactic| walk_at "side") => `(tactic| first
  | omega
  | exact ⟨by omega, by omega⟩
  | exact Or.inl ⟨by omega, by omega⟩
  | exact Or.inr ⟨by omega, by omega⟩
  | exact ⟨by omega, by omega, by omega⟩
  | exact ⟨by decide, by decide, by decide⟩
  | (refine mix2 ?_ ?_ ?_ ?_ ?_ ?_ ?_ ?_ ?_ ?_ <;> omega))
local macro_rules | `(tactic| walk_at "hp") => `(tactic| first
  | assumption | exact upd_same
  | (refine' rd_new ?n ?q; (case n => assumption); (case q => walk_at "hp"))
  | (refine' rd_ne ?n ?q; (case n => first | assumption | (apply Ne.symm; assumption)); (case q => walk_at "hp")))
local macro_rules | `(tactic| walk_at "sq") => `(tactic| first
  | assumption
  | (with_reducible apply SqL.of; walk_at "hp") | (with_reducible apply SqT.of; walk_at "hp")
  | ((with_reducible refine' sqL_new ?n ?q); (case n => assumption); (case q => walk_at "sq"))
  | ((with_reducible refine' sqT_new ?n ?q); (case n => assumption); (case q => walk_at "sq"))
  | ((with_reducible refine' sqL_ne ?n ?q); (case n => first | assumption | (apply Ne.symm; assumption)); (case q => walk_at "sq"))
  | ((with_reducible refine' sqT_ne ?n ?q); (case n => first | assumption | (apply Ne.symm; assumption)); (case q => walk_at "sq"))
  | ((with_reducible refine' Ext.sqL ?e ?n ?q); (case e => assumption); (case n => first | assumption | (apply Ne.symm; assumption)); (case q => walk_at "sq"))
  | ((with_reducible refine' Ext.sqT ?e ?n ?q); (case e => assumption); (case n => first | assumption | (apply Ne.symm; assumption)); (case q => walk_at "sq"))
  | ((with_reducible refine' Grow.sqL ?e ?q); (case e => assumption); (case q => walk_at "sq"))
  | ((with_reducible refine' Grow.sqT ?e ?q); (case e => assumption); (case q => walk_at "sq")))
local macro_rules | `(tactic| walk_at "sqs") => `(tactic| first | assumption | (exact ‹∀ H, SqT _ H _ _› _) | (apply SqT.of; walk_at "hp"))
local macro_rules | `(tactic| walk_at "kn") => `(tactic| first | assumption | exact True.intro)
local macro_rules | `(tactic| walk_at "fw") => `(tactic| with_reducible first
  | refine w_seq ?_ | refine w_asg ?_ | refine w_ret ?_ | refine w_drop ?_ | refine w_next ?_ | refine w_c ?_ | refine w_op ?_ | refine w_un ?_
  | refine w_test ?_ | refine w_B ?_ | refine w_bl ?_ | refine w_not ?_ | refine w_and ?_ | refine w_or ?_ | refine w_andV ?_ | refine w_orV ?_ | refine w_notV ?_
  | refine w_if ?_ | refine w_ifE ?_ | refine w_yes ?_ | refine w_no ?_ | refine w_rfl ?_ | refine w_tr ?_ | refine w_nyes ?_ | refine w_nno ?_ | refine w_T ?_ | refine w_F ?_ | refine w_nil ?_ | refine w_cons ?_ | refine w_cb ?_ | refine w_call ?_ | refine w_lst ?_ | refine w_tup ?_
  | refine w_I0 ?_ | refine w_U ?_ | refine w_int ?_ | refine w_intB ?_ | refine w_abs ?_ | refine w_raise1 ?_ | refine w_sub ?_ | refine w_gcons ?_ | refine w_gnil ?_ | refine w_par ?_ | refine w_chain ?_ | refine w_callNB ?_)
local macro_rules | `(tactic| walk_at "fwv") => `(tactic| first
  | ((with_reducible refine' w_var ?e ?_); (case e => rfl))
  | ((with_reducible refine' w_I ?e ?_); (case e => walk_at "side"))
  | ((with_reducible refine' w_ixL ?s ?e ?_); (case s => walk_at "sq"); (case e => rfl))
  | ((with_reducible refine' w_lenL ?s ?_); (case s => walk_at "sq"); try simp only [List.length_map, List.length_cons, List.length_nil])
  | ((with_reducible refine' w_setL ?e ?f ?_); (case e => walk_at "hp"); (case f => rfl); try simp only [Int.reduceToNat, List.set_cons_zero, List.set_cons_succ, upd_upd])
  | ((with_reducible refine' w_gtup ?s ?l ?_); (case s => walk_at "sq"); (case l => rfl))
  | ((with_reducible refine' w_eq ?e ?_); (case e => rfl))
  | ((with_reducible refine' w_ne ?e ?_); (case e => rfl))
  | ((with_reducible refine' w_mk1 ?o ?n ?_); (case o => apply Exn.oex; assumption); (case n => apply Exn.no; assumption); intro _ _)
  | ((with_reducible refine w_dnew ?_); intro _ _)
  | ((with_reducible refine' w_inT (ss := ?ss) ?s ?_); (case s => walk_at "sqs"))
  | ((with_reducible refine' w_notInT (ss := ?ss) ?s ?_); (case s => walk_at "sqs"))
  | ((with_reducible refine' w_inX ?s ?f ?g ?_); (case s => walk_at "sqs"); (case f => rfl); (case g => rfl))
  | ((with_reducible refine' w_isIntA ?k ?_); (case k => walk_at "kn"))
  | ((with_reducible refine' w_isBlA ?k ?_); (case k => walk_at "kn"))
  | ((with_reducible refine' w_isStrA ?k ?_); (case k => walk_at "kn"))
  | ((with_reducible refine w_par2 ?_); simp only [List.set_cons_zero, List.set_cons_succ])
  | ((with_reducible refine w_name ?_); simp only [List.set_cons_zero, List.set_cons_succ]))
local macro_rules | `(tactic| walk_at "size") => `(tactic| first | (show _ ≤ sizeLine; decide) | (simp only [List.length_cons, List.length_nil]; decide))
local macro_rules | `(tactic| walk_at "mk") => `(tactic| ((with_reducible refine' w_made ?n ?_); (case n => walk_at "size"); intro _ _))
local macro_rules | `(tactic| walk_at "ev") => `(tactic| simp only [reduceCtorEq, V.int.injEq, V.bl.injEq, V.str.injEq, V.ref.injEq, List.append_nil, List.cons_append, List.nil_append, decide_true, decide_false, Bool.not_true, Bool.not_false])
local macro_rules | `(tactic| walk_at "go") => `(tactic| repeat (first | walk_at "fw" | walk_at "fwv" | walk_at "mk" | (dsimp only) | walk_at "ev"))
local macro_rules | `(tactic| walk_at "br") => `(tactic| first | refine w_iteN (fun _ => ?_) (fun _ => ?_) | refine w_iteD (fun _ => ?_) (fun _ => ?_) | refine w_ite (fun _ => ?_) (fun _ => ?_))
local macro_rules | `(tactic| walk_at "fork") => `(tactic| (first | refine w_iteN (fun hx => ?_) (fun hx => ?_) | refine w_iteD (fun hx => ?_) (fun hx => ?_) | refine w_ite (fun hx => ?_) (fun hx => ?_)) <;> first | (exact absurd hx (by decide +kernel)) | skip)
local macro_rules | `(tactic| walk_at "gr") => `(tactic| repeat' (first | exact Grow.refl _ | assumption | refine Grow.trans ?_ (Grow.new (by assumption))))

abbrev s__law_abacus : Stmt := top 25
def N__law_abacus : List Str := ["_law_script", "_law_cell"]
theorem sc__law_abacus : FnScope N__law_abacus ["_law_script"] (defScope s__law_abacus) := ⟨rfl, rfl, rfl, by decide +kernel, rfl, by decide +kernel, by decide +kernel⟩
abbrev s__law_bead : Stmt := top 26
def N__law_bead : List Str := ["_law_abacus_here", "_law_many", "_law_rest", "_law_at", "_law_cell", "_law_mixed"]
theorem sc__law_bead : FnScope N__law_bead ["_law_abacus_here", "_law_many"] (defScope s__law_bead) := ⟨rfl, rfl, rfl, by decide +kernel, rfl, by decide +kernel, by decide +kernel⟩
abbrev s__law_one_of : Stmt := top 27
def N__law_one_of : List Str := ["_law_abacus_here", "_law_some"]
theorem sc__law_one_of : FnScope N__law_one_of ["_law_abacus_here", "_law_some"] (defScope s__law_one_of) := ⟨rfl, rfl, rfl, by decide +kernel, rfl, by decide +kernel, by decide +kernel⟩
abbrev s__law_short : Stmt := top 28
def N__law_short : List Str := ["_law_abacus_here", "_law_near", "_law_wide"]
theorem sc__law_short : FnScope N__law_short ["_law_abacus_here"] (defScope s__law_short) := ⟨rfl, rfl, rfl, by decide +kernel, rfl, by decide +kernel, by decide +kernel⟩
abbrev s__law_cut : Stmt := top 29
def N__law_cut : List Str := ["_law_number", "_law_turns"]
theorem sc__law_cut : FnScope N__law_cut ["_law_number"] (defScope s__law_cut) := ⟨rfl, rfl, rfl, by decide +kernel, rfl, by decide +kernel, by decide +kernel⟩
abbrev s__law_quotient : Stmt := top 30
def N__law_quotient : List Str := ["_law_one", "_law_other", "_law_size"]
theorem sc__law_quotient : FnScope N__law_quotient ["_law_one", "_law_other"] (defScope s__law_quotient) := ⟨rfl, rfl, rfl, by decide +kernel, rfl, by decide +kernel, by decide +kernel⟩
abbrev s__law_due : Stmt := top 31
def N__law_due : List Str := ["_law_sign", "_law_one", "_law_other", "_law_whole"]
theorem sc__law_due : FnScope N__law_due ["_law_sign", "_law_one", "_law_other"] (defScope s__law_due) := ⟨rfl, rfl, rfl, by decide +kernel, rfl, by decide +kernel, by decide +kernel⟩
abbrev s__law_is_short : Stmt := top 33
def N__law_is_short : List Str := ["_law_value"]
theorem sc__law_is_short : FnScope N__law_is_short ["_law_value"] (defScope s__law_is_short) := ⟨rfl, rfl, rfl, by decide +kernel, rfl, by decide +kernel, by decide +kernel⟩
abbrev s__law_heard : Stmt := top 32
def N__law_heard : List Str := ["_law_ask", "_law_caught", "error"]
theorem sc__law_heard : FnScope N__law_heard ["_law_ask"] (defScope s__law_heard) := ⟨rfl, rfl, rfl, by decide +kernel, rfl, by decide +kernel, by decide +kernel⟩
abbrev s__law_refused_right : Stmt := top 34
def N__law_refused_right : List Str := ["_law_abacus_here", "_law_signs", "_law_odds", "_law_due_here", "_law_fits", "_law_odd", "_law_one", "_law_other", "_law_sign"]
theorem sc__law_refused_right : FnScope N__law_refused_right ["_law_abacus_here"] (defScope s__law_refused_right) := ⟨rfl, rfl, rfl, by decide +kernel, rfl, by decide +kernel, by decide +kernel⟩
abbrev s_law : Stmt := top 35
def N_law : List Str := ["_law_script", "_law_abacus_here", "_law_turn", "_law_one", "_law_other", "_law_told", "_law_far", "_law_sign"]
theorem sc_law : FnScope N_law ["_law_script"] (defScope s_law) := ⟨rfl, rfl, rfl, by decide +kernel, rfl, by decide +kernel, by decide +kernel⟩
structure TxtL (P : Program) (w : World) (K : PySem.W.Frag) (mg : Str → Option Value) (base : Heap) extends Txt P w K mg base where
  b_range : mg "range" = none
  b_repr : mg "repr" = none
  cWeather : Addr
  cR : Addr
  pR : Addr
  tR : LamX.TabB base mg cR pR
  g_Weather : mg "WeatherError" = some (.ref cWeather)
  e_Weather : PySem.W.exmOne K (.ref cBadNumber) (.ref cWeather) = some true
  n_BadNumber : PySem.W.kitOne K (.type "NoneType") (.ref cBadNumber) = some false
  d__law_heard : DefOk K mg "_law_heard" s__law_heard ["_law_ask"]
  d__law_refused_right : DefOkC K mg "_law_refused_right" s__law_refused_right ["_law_abacus_here"] cR
  d__law_abacus : DefOk K mg "_law_abacus" s__law_abacus ["_law_script"]
  d__law_bead : DefOk K mg "_law_bead" s__law_bead ["_law_abacus_here", "_law_many"]
  d__law_one_of : DefOk K mg "_law_one_of" s__law_one_of ["_law_abacus_here", "_law_some"]
  d__law_short : DefOk K mg "_law_short" s__law_short ["_law_abacus_here"]
  d__law_cut : DefOk K mg "_law_cut" s__law_cut ["_law_number"]
  d__law_quotient : DefOk K mg "_law_quotient" s__law_quotient ["_law_one", "_law_other"]
  d__law_due : DefOk K mg "_law_due" s__law_due ["_law_sign", "_law_one", "_law_other"]
  d__law_is_short : DefOk K mg "_law_is_short" s__law_is_short ["_law_value"]
section
variable {P : Program} {w : World} {K : PySem.W.Frag} {mg : Str → Option Value} {base : Heap}
theorem ok__law_bead {f : Addr} {fd : FuncData} (T : TxtL P w K mg base) (F : Fun K "_law_bead" "_law_bead" s__law_bead f fd) : FnOk P w K mg base CX0 1 f fd ["_law_abacus_here", "_law_many"] (spDrop K) := by
  refine F.ok sc__law_bead (fun vs H Q E h => ?_) (fun cdv A outer s H vs Q E hr h => ?_)
  · obtain ⟨c, n, many, rfl, _⟩ := h
    rfl
  · obtain ⟨c, n, many, rfl, ⟨l, cells, rest, hc, hl, hne⟩, hn, hm0, hm1, k⟩ := h
    refine ⟨_, (pss_cons (ps_if (pt_cmpR op_gt (pe_ix ix_list (pv 0) pe_int (fun _ _ => rfl)) pe_int (nomark _))
 (pss_cons (ps_set (i := 2) sc__law_bead.nd rfl (Or.inl rfl) (pe_callTy call_intA (by rfl) T.b_int (by decide +kernel) (pa_cons (pe_ix ix_list (pv 0) pe_int (fun _ _ => rfl)) pa_nil)))
 (pss_cons (ps_asg (pe_op op_fdiv (pv 2) (pv 1)) (pg_sub (pv 0) pe_int set_list))
 (pss_one (ps_ret (pe_op op_mod (pe_callTy call_intA (by rfl) T.b_int (by decide +kernel) (pa_cons (pv 2) pa_nil)) (pv 1))))))
 pss_nil)
 (pss_cons (ps_set (i := 3) sc__law_bead.nd rfl (Or.inl rfl) (pe_ix ix_list (pv 0) pe_int (fun _ _ => rfl)))
 (pss_cons (ps_asg (pe_op op_add (pv 3) pe_int) (pg_sub (pv 0) pe_int set_list))
 (pss_cons (ps_set (i := 4) sc__law_bead.nd rfl (Or.inl rfl) (pe_op op_add (pe_op op_mul pe_int (pv 3)) pe_int))
 (pss_cons (ps_if (pt_cmpR (op_neD hr.units) (pe_ix ix_list (pv 0) pe_int (fun _ _ => rfl)) (pe_lst pa_nil) (nomark _))
 (pss_one (ps_set (i := 4) sc__law_bead.nd rfl (Or.inl rfl) (pe_ix ix_list (pe_ix ix_list (pv 0) pe_int (fun _ _ => rfl)) (pe_op op_mod (pe_callTy call_intA (by rfl) T.b_int (by decide +kernel) (pa_cons (pv 3) pa_nil)) (pe_callB call_lenA (by rfl) T.b_len (by decide +kernel) (pa_cons (pe_ix ix_list (pv 0) pe_int (fun _ _ => rfl)) pa_nil))) (fun _ _ => rfl))))
 pss_nil)
 (pss_cons (ps_if (PW.pt (pw_and (pt_cmpR op_lt (pv 3) (pe_callB call_lenA (by rfl) T.b_len (by decide +kernel) (pa_cons (pe_ix ix_list (pv 0) pe_int (fun _ _ => rfl)) pa_nil)) (nomark _)) (pw_and1 (pt_cmpR op_ge (pe_callB call_absA (by rfl) T.b_abs (by decide +kernel) (pa_cons (pv 4) pa_nil)) (pe_op op_pow pe_int pe_int) (nomark _)))))
 (pss_cons (ps_set (i := 2) sc__law_bead.nd rfl (Or.inl rfl) (pe_op op_add (pe_op op_mul pe_int (pe_op op_sub (pe_callB call_absA (by rfl) T.b_abs (by decide +kernel) (pa_cons (pv 4) pa_nil)) (pe_op op_pow pe_int pe_int))) (pe_callTy call_intA (by rfl) T.b_int (by decide +kernel) (pa_cons (pe_cmpR op_lt (pv 4) pe_int (nomark _)) pa_nil))))
 (pss_cons (ps_asg (pe_op op_fdiv (pe_callTy call_intA (by rfl) T.b_int (by decide +kernel) (pa_cons (pv 2) pa_nil)) (pv 1)) (pg_sub (pv 0) pe_int set_list))
 (pss_one (ps_ret (pe_op op_mod (pe_callTy call_intA (by rfl) T.b_int (by decide +kernel) (pa_cons (pv 2) pa_nil)) (pv 1))))))
 pss_nil)
 (pss_cons (ps_set (i := 5) sc__law_bead.nd rfl (Or.inl rfl) (pe_op op_mod (pe_callTy call_intA (by rfl) T.b_int (by decide +kernel) (pa_cons (pe_op op_pow (pe_op op_add (pe_op op_add (pe_op op_mod (pe_callTy call_intA (by rfl) T.b_int (by decide +kernel) (pa_cons (pv 4) pa_nil)) pe_int) (pe_op op_mul pe_int (pv 3))) pe_int) pe_int) pa_nil)) pe_int))
 (pss_cons (ps_set (i := 5) sc__law_bead.nd rfl (Or.inl rfl) (pe_op op_mod (pe_callTy call_intA (by rfl) T.b_int (by decide +kernel) (pa_cons (pe_op op_pow (pe_op op_add (pe_op op_add (pe_op op_mul (pv 5) (pe_op op_add (pe_op op_mul pe_int (pv 3)) pe_int)) (pe_op op_mul (pe_op op_mul pe_int (pv 3)) (pv 3))) pe_int) pe_int) pa_nil)) pe_int))
 (pss_one (ps_ret (pe_op op_mod (pe_callTy call_intA (by rfl) T.b_int (by decide +kernel) (pa_cons (pe_op op_fdiv (pv 5) pe_int) pa_nil)) (pv 1)))))))))))), ?_⟩
    rw [show L2.start N__law_bead [(V.ref c), (V.int many)] = [some (V.ref c), some (V.int many), none, none, none, none] from rfl]; try dsimp only [cxOf]
    walk_at "go"
    refine w_ite (fun h1 => ?_) (fun h1 => ?_)
    · walk_at "go"
      exact k _ n _ (Int.emod_nonneg _ (by omega)) (Int.emod_lt_of_pos _ hm0) (by omega) ⟨l, cells, _, upd_same, sqL_ne hne hl, hne⟩ Ext.upd
    · walk_at "go"
      rename_i p hp
      have hlc : SqL K (upd (upd H c (.lst [.ref l, .int (n + 1), .int rest])) p (.lst [])) l (cells.map V.int) := sqL_new hp (sqL_ne hne hl)
      refine w_neNil hlc (SqL.of upd_same) ?_
      have e1 : ((n : Int) + 1) = ((n + 1 : Nat) : Int) := by omega
      have hnc : c ≠ p := ne_of_none upd_same hp
      have base1 : ∀ r2 : Int, Cloud K (upd (upd (upd H c (.lst [.ref l, .int (n + 1), .int rest])) p (.lst [])) c (.lst [.ref l, .int (n + 1), .int r2])) c (n + 1) := fun r2 =>
        ⟨l, cells, r2, by rw [e1]; exact upd_same, sqL_ne hne hlc, hne⟩
      have ext1 : Ext c H (upd (upd H c (.lst [.ref l, .int (n + 1), .int rest])) p (.lst [])) := Ext.upd.trans (Ext.new hp)
      walk_at "go"
      refine w_ite (fun h2 => ?a1) (fun h2 => ?a2)
      case' a1 =>
        walk_at "go"
        have hpos : (0 : Int) < (cells.length : Int) := by
          cases cells with
          | nil => simp at h2
          | cons a r => simp only [List.length_cons]; omega
        refine w_I hpos ?_
        obtain ⟨z, _, hz⟩ := atI_map (ns := cells) (i := (n : Int) % (cells.length : Int)) (Int.emod_nonneg _ (by omega)) (Int.emod_lt_of_pos _ hpos)
        refine w_ixL hlc hz ?_
      case' a2 => generalize (52517 * (n : Int) + 8147) = z
      all_goals
        walk_at "go"
        refine w_ite (fun h3 => ?_) (fun h3 => ?_)
        · walk_at "go"
          refine w_ite (fun h4 => ?_) (fun h4 => ?_)
          · walk_at "go"
            exact k _ (n + 1) _ (Int.emod_nonneg _ (by omega)) (Int.emod_lt_of_pos _ hm0) (by omega) (base1 _) (ext1.trans Ext.upd)
          · walk_at "go"
            exact k _ (n + 1) _ (Int.emod_nonneg _ (by omega)) (Int.emod_lt_of_pos _ hm0) (by omega) ⟨l, cells, rest, by rw [← e1]; exact rd_new hp upd_same, hlc, hne⟩ ext1
        · walk_at "go"
          exact k _ (n + 1) _ (Int.emod_nonneg _ (by omega)) (Int.emod_lt_of_pos _ hm0) (by omega) ⟨l, cells, rest, by rw [← e1]; exact rd_new hp upd_same, hlc, hne⟩ ext1
theorem c__law_bead (T : TxtL P w K mg base) : Can P w K mg base CX0 1 "_law_bead" ["_law_abacus_here", "_law_many"] (spDrop K) := T.d__law_bead.can fun f fd F => ok__law_bead T F
end
end K02

set_option maxRecDepth 100000
set_option maxHeartbeats 4000000
namespace K02
open PySem L2 FW PyProof.Rows
local macro_rules | `(tactic| walk_at "side") => `(tactic| first
  | omega
  | exact ⟨by omega, by omega⟩
  | exact Or.inl ⟨by omega, by omega⟩
  | exact Or.inr ⟨by omega, by omega⟩
  | exact ⟨by omega, by omega, by omega⟩
  | exact ⟨by decide, by decide, by decide⟩
  | (refine mix2 ?_ ?_ ?_ ?_ ?_ ?_ ?_ ?_ ?_ ?_ <;> omega))
local macro_rules | `(tactic| walk_at "hp") => `(tactic| first
  | assumption | exact upd_same
  | (refine' rd_new ?n ?q; (case n => assumption); (case q => walk_at "hp"))
  | (refine' rd_ne ?n ?q; (case n => first | assumption | (apply Ne.symm; assumption)); (case q => walk_at "hp")))
local macro_rules | `(tactic| walk_at "sq") => `(tactic| first
  | assumption
  | (with_reducible apply SqL.of; walk_at "hp") | (with_reducible apply SqT.of; walk_at "hp")
  | ((with_reducible refine' sqL_new ?n ?q); (case n => assumption); (case q => walk_at "sq"))
  | ((with_reducible refine' sqT_new ?n ?q); (case n => assumption); (case q => walk_at "sq"))
  | ((with_reducible refine' sqL_ne ?n ?q); (case n => first | assumption | (apply Ne.symm; assumption)); (case q => walk_at "sq"))
  | ((with_reducible refine' sqT_ne ?n ?q); (case n => first | assumption | (apply Ne.symm; assumption)); (case q => walk_at "sq"))
  | ((with_reducible refine' Ext.sqL ?e ?n ?q); (case e => assumption); (case n => first | assumption | (apply Ne.symm; assumption)); (case q => walk_at "sq"))
  | ((with_reducible refine' Ext.sqT ?e ?n ?q); (case e => assumption); (case n => first | assumption | (apply Ne.symm; assumption)); (case q => walk_at "sq"))
  | ((with_reducible refine' Grow.sqL ?e ?q); (case e => assumption); (case q => walk_at "sq"))
  | ((with_reducible refine' Grow.sqT ?e ?q); (case e => assumption); (case q => walk_at "sq")))
local macro_rules | `(tactic| walk_at "sqs") => `(tactic| first | assumption | (exact ‹∀ H, SqT _ H _ _› _) | (apply SqT.of; walk_at "hp"))
local macro_rules | `(tactic| walk_at "kn") => `(tactic| first | assumption | exact True.intro)
local macro_rules | `(tactic| walk_at "fw") => `(tactic| with_reducible first
  | refine w_seq ?_ | refine w_asg ?_ | refine w_ret ?_ | refine w_drop ?_ | refine w_next ?_ | refine w_c ?_ | refine w_op ?_ | refine w_un ?_
  | refine w_test ?_ | refine w_B ?_ | refine w_bl ?_ | refine w_not ?_ | refine w_and ?_ | refine w_or ?_ | refine w_andV ?_ | refine w_orV ?_ | refine w_notV ?_
  | refine w_if ?_ | refine w_ifE ?_ | refine w_yes ?_ | refine w_no ?_ | refine w_rfl ?_ | refine w_tr ?_ | refine w_nyes ?_ | refine w_nno ?_ | refine w_T ?_ | refine w_F ?_ | refine w_nil ?_ | refine w_cons ?_ | refine w_cb ?_ | refine w_call ?_ | refine w_lst ?_ | refine w_tup ?_
  | refine w_I0 ?_ | refine w_U ?_ | refine w_int ?_ | refine w_intB ?_ | refine w_abs ?_ | refine w_raise1 ?_ | refine w_sub ?_ | refine w_gcons ?_ | refine w_gnil ?_ | refine w_par ?_ | refine w_chain ?_ | refine w_callNB ?_)
local macro_rules | `(tactic| walk_at "fwv") => `(tactic| first
  | ((with_reducible refine' w_var ?e ?_); (case e => rfl))
  | ((with_reducible refine' w_I ?e ?_); (case e => walk_at "side"))
  | ((with_reducible refine' w_ixL ?s ?e ?_); (case s => walk_at "sq"); (case e => rfl))
  | ((with_reducible refine' w_lenL ?s ?_); (case s => walk_at "sq"); try simp only [List.length_map, List.length_cons, List.length_nil])
  | ((with_reducible refine' w_setL ?e ?f ?_); (case e => walk_at "hp"); (case f => rfl); try simp only [Int.reduceToNat, List.set_cons_zero, List.set_cons_succ, upd_upd])
  | ((with_reducible refine' w_gtup ?s ?l ?_); (case s => walk_at "sq"); (case l => rfl))
  | ((with_reducible refine' w_eq ?e ?_); (case e => rfl))
  | ((with_reducible refine' w_ne ?e ?_); (case e => rfl))
  | ((with_reducible refine' w_mk1 ?o ?n ?_); (case o => apply Exn.oex; assumption); (case n => apply Exn.no; assumption); intro _ _)
  | ((with_reducible refine w_dnew ?_); intro _ _)
  | ((with_reducible refine' w_inT (ss := ?ss) ?s ?_); (case s => walk_at "sqs"))
  | ((with_reducible refine' w_notInT (ss := ?ss) ?s ?_); (case s => walk_at "sqs"))
  | ((with_reducible refine' w_inX ?s ?f ?g ?_); (case s => walk_at "sqs"); (case f => rfl); (case g => rfl))
  | ((with_reducible refine' w_isIntA ?k ?_); (case k => walk_at "kn"))
  | ((with_reducible refine' w_isBlA ?k ?_); (case k => walk_at "kn"))
  | ((with_reducible refine' w_isStrA ?k ?_); (case k => walk_at "kn"))
  | ((with_reducible refine w_par2 ?_); simp only [List.set_cons_zero, List.set_cons_succ])
  | ((with_reducible refine w_name ?_); simp only [List.set_cons_zero, List.set_cons_succ]))
local macro_rules | `(tactic| walk_at "size") => `(tactic| first | (show _ ≤ sizeLine; decide) | (simp only [List.length_cons, List.length_nil]; decide))
local macro_rules | `(tactic| walk_at "mk") => `(tactic| ((with_reducible refine' w_made ?n ?_); (case n => walk_at "size"); intro _ _))
local macro_rules | `(tactic| walk_at "ev") => `(tactic| simp only [reduceCtorEq, V.int.injEq, V.bl.injEq, V.str.injEq, V.ref.injEq, List.append_nil, List.cons_append, List.nil_append, decide_true, decide_false, Bool.not_true, Bool.not_false])
local macro_rules | `(tactic| walk_at "go") => `(tactic| repeat (first | walk_at "fw" | walk_at "fwv" | walk_at "mk" | (dsimp only) | walk_at "ev"))
local macro_rules | `(tactic| walk_at "br") => `(tactic| first | refine w_iteN (fun _ => ?_) (fun _ => ?_) | refine w_iteD (fun _ => ?_) (fun _ => ?_) | refine w_ite (fun _ => ?_) (fun _ => ?_))
local macro_rules | `(tactic| walk_at "fork") => `(tactic| (first | refine w_iteN (fun hx => ?_) (fun hx => ?_) | refine w_iteD (fun hx => ?_) (fun hx => ?_) | refine w_ite (fun hx => ?_) (fun hx => ?_)) <;> first | (exact absurd hx (by decide +kernel)) | skip)
local macro_rules | `(tactic| walk_at "gr") => `(tactic| repeat' (first | exact Grow.refl _ | assumption | refine Grow.trans ?_ (Grow.new (by assumption))))

section
variable {P : Program} {w : World} {K : PySem.W.Frag} {mg : Str → Option Value} {base : Heap}
theorem ok__law_abacus {f : Addr} {fd : FuncData} (T : TxtL P w K mg base) (F : Fun K "_law_abacus" "_law_abacus" s__law_abacus f fd) : FnOk P w K mg base CX0 1 f fd ["_law_script"] (spBegin K) := by
  refine F.ok sc__law_abacus (fun vs H Q E h => ?_) (fun cdv A outer s H vs Q E hr h => ?_)
  · obtain ⟨a, ns, rfl, _⟩ := h; rfl
  · obtain ⟨a, ns, rfl, hs, hn, k⟩ := h
    refine ⟨_, (pss_one (ps_ret (pe_lst (pa_cons (pe_lc1 (x := "_law_cell") (i := 1) (g := gName 1) (tt := tYes) rfl sc__law_abacus.nd (pi_list (pe_slice sl_list (pv 0) po_none (po_some pe_int))) (blkOk_by (N := N__law_abacus) (sc := defScope s__law_abacus) (by decide +kernel)) (fun _ _ _ _ _ => pg_name (i := 1) sc__law_abacus.nd rfl (Or.inl rfl)) (fun _ _ _ _ _ => pts_nil) (fun _ _ _ _ _ => (pe_callTy call_intA (by rfl) T.b_int (by decide +kernel) (pa_cons (pv 1) pa_nil)))) (pa_cons pe_int (pa_cons pe_int pa_nil)))))), ?_⟩
    rw [show L2.start N__law_abacus [(V.ref a)] = [some (V.ref a), none] from rfl]; try dsimp only [cxOf]
    walk_at "go"
    obtain ⟨ms, ec, hm⟩ := cut_ints ns none (some 63)
    refine ⟨.ref a, rfl, 63, rfl, a, _, rfl, hs, fun p np => ⟨p, rfl, ⟨_, SqL.of upd_same⟩, ?_⟩⟩
    rw [ec]
    dsimp only
    refine lcL (σ := [some (V.ref a), none]) (i := 1) (xs := ms.map V.int) (ys := ms.map V.int) (by intro _; rfl) rfl (by rw [List.length_map]; exact small1000 (by omega)) (SqL.of upd_same) (fun j x y H' R ex ey g r => ?_) (fun D H' nD eD g => ?_)
    · rw [ex] at ey; cases ey
      rw [List.getElem?_map] at ex
      obtain ⟨z, hz⟩ : ∃ z, x = V.int z := by
        cases e : ms[j]? with
        | none => rw [e] at ex; cases ex
        | some z => rw [e] at ex; exact ⟨z, (Option.some.inj ex).symm⟩
      subst hz
      walk_at "go"
      exact r _ (Grow.refl _)
    · walk_at "go"
      rename_i c hc
      have g0 : Grow H H' := (Grow.new np).trans g
      have nc : H c = none := by
        cases e : H c with
        | none => rfl
        | some o => rw [g0 _ _ e] at hc; cases hc
      refine k c _ nc (g0.trans (Grow.new hc)) ⟨D, ms, 0, upd_same, sqL_new hc (SqL.of eD), ne_of_none eD hc⟩
theorem c__law_abacus (T : TxtL P w K mg base) : Can P w K mg base CX0 1 "_law_abacus" ["_law_script"] (spBegin K) := T.d__law_abacus.can fun f fd F => ok__law_abacus T F
end
end K02

set_option maxRecDepth 100000
set_option maxHeartbeats 4000000
namespace K02
open PySem L2 FW PyProof.Rows
local macro_rules | `(tactic| walk_at "side") => `(tactic| first
  | omega
  | exact ⟨by omega, by omega⟩
  | exact Or.inl ⟨by omega, by omega⟩
  | exact Or.inr ⟨by omega, by omega⟩
  | exact ⟨by omega, by omega, by omega⟩
  | exact ⟨by decide, by decide, by decide⟩
  | (refine mix2 ?_ ?_ ?_ ?_ ?_ ?_ ?_ ?_ ?_ ?_ <;> omega))
local macro_rules | `(tactic| walk_at "hp") => `(tactic| first
  | assumption | exact upd_same
  | (refine' rd_new ?n ?q; (case n => assumption); (case q => walk_at "hp"))
  | (refine' rd_ne ?n ?q; (case n => first | assumption | (apply Ne.symm; assumption)); (case q => walk_at "hp")))
local macro_rules | `(tactic| walk_at "sq") => `(tactic| first
  | assumption
  | (with_reducible apply SqL.of; walk_at "hp") | (with_reducible apply SqT.of; walk_at "hp")
  | ((with_reducible refine' sqL_new ?n ?q); (case n => assumption); (case q => walk_at "sq"))
  | ((with_reducible refine' sqT_new ?n ?q); (case n => assumption); (case q => walk_at "sq"))
  | ((with_reducible refine' sqL_ne ?n ?q); (case n => first | assumption | (apply Ne.symm; assumption)); (case q => walk_at "sq"))
  | ((with_reducible refine' sqT_ne ?n ?q); (case n => first | assumption | (apply Ne.symm; assumption)); (case q => walk_at "sq"))
  | ((with_reducible refine' Ext.sqL ?e ?n ?q); (case e => assumption); (case n => first | assumption | (apply Ne.symm; assumption)); (case q => walk_at "sq"))
  | ((with_reducible refine' Ext.sqT ?e ?n ?q); (case e => assumption); (case n => first | assumption | (apply Ne.symm; assumption)); (case q => walk_at "sq"))
  | ((with_reducible refine' Grow.sqL ?e ?q); (case e => assumption); (case q => walk_at "sq"))
  | ((with_reducible refine' Grow.sqT ?e ?q); (case e => assumption); (case q => walk_at "sq")))
local macro_rules | `(tactic| walk_at "sqs") => `(tactic| first | assumption | (exact ‹∀ H, SqT _ H _ _› _) | (apply SqT.of; walk_at "hp"))
local macro_rules | `(tactic| walk_at "kn") => `(tactic| first | assumption | exact True.intro)
local macro_rules | `(tactic| walk_at "fw") => `(tactic| with_reducible first
  | refine w_seq ?_ | refine w_asg ?_ | refine w_ret ?_ | refine w_drop ?_ | refine w_next ?_ | refine w_c ?_ | refine w_op ?_ | refine w_un ?_
  | refine w_test ?_ | refine w_B ?_ | refine w_bl ?_ | refine w_not ?_ | refine w_and ?_ | refine w_or ?_ | refine w_andV ?_ | refine w_orV ?_ | refine w_notV ?_
  | refine w_if ?_ | refine w_ifE ?_ | refine w_yes ?_ | refine w_no ?_ | refine w_rfl ?_ | refine w_tr ?_ | refine w_nyes ?_ | refine w_nno ?_ | refine w_T ?_ | refine w_F ?_ | refine w_nil ?_ | refine w_cons ?_ | refine w_cb ?_ | refine w_call ?_ | refine w_lst ?_ | refine w_tup ?_
  | refine w_I0 ?_ | refine w_U ?_ | refine w_int ?_ | refine w_intB ?_ | refine w_abs ?_ | refine w_raise1 ?_ | refine w_sub ?_ | refine w_gcons ?_ | refine w_gnil ?_ | refine w_par ?_ | refine w_chain ?_ | refine w_callNB ?_)
local macro_rules | `(tactic| walk_at "fwv") => `(tactic| first
  | ((with_reducible refine' w_var ?e ?_); (case e => rfl))
  | ((with_reducible refine' w_I ?e ?_); (case e => walk_at "side"))
  | ((with_reducible refine' w_ixL ?s ?e ?_); (case s => walk_at "sq"); (case e => rfl))
  | ((with_reducible refine' w_lenL ?s ?_); (case s => walk_at "sq"); try simp only [List.length_map, List.length_cons, List.length_nil])
  | ((with_reducible refine' w_setL ?e ?f ?_); (case e => walk_at "hp"); (case f => rfl); try simp only [Int.reduceToNat, List.set_cons_zero, List.set_cons_succ, upd_upd])
  | ((with_reducible refine' w_gtup ?s ?l ?_); (case s => walk_at "sq"); (case l => rfl))
  | ((with_reducible refine' w_eq ?e ?_); (case e => rfl))
  | ((with_reducible refine' w_ne ?e ?_); (case e => rfl))
  | ((with_reducible refine' w_mk1 ?o ?n ?_); (case o => apply Exn.oex; assumption); (case n => apply Exn.no; assumption); intro _ _)
  | ((with_reducible refine w_dnew ?_); intro _ _)
  | ((with_reducible refine' w_inT (ss := ?ss) ?s ?_); (case s => walk_at "sqs"))
  | ((with_reducible refine' w_notInT (ss := ?ss) ?s ?_); (case s => walk_at "sqs"))
  | ((with_reducible refine' w_inX ?s ?f ?g ?_); (case s => walk_at "sqs"); (case f => rfl); (case g => rfl))
  | ((with_reducible refine' w_isIntA ?k ?_); (case k => walk_at "kn"))
  | ((with_reducible refine' w_isBlA ?k ?_); (case k => walk_at "kn"))
  | ((with_reducible refine' w_isStrA ?k ?_); (case k => walk_at "kn"))
  | ((with_reducible refine w_par2 ?_); simp only [List.set_cons_zero, List.set_cons_succ])
  | ((with_reducible refine w_name ?_); simp only [List.set_cons_zero, List.set_cons_succ]))
local macro_rules | `(tactic| walk_at "size") => `(tactic| first | (show _ ≤ sizeLine; decide) | (simp only [List.length_cons, List.length_nil]; decide))
local macro_rules | `(tactic| walk_at "mk") => `(tactic| ((with_reducible refine' w_made ?n ?_); (case n => walk_at "size"); intro _ _))
local macro_rules | `(tactic| walk_at "ev") => `(tactic| simp only [reduceCtorEq, V.int.injEq, V.bl.injEq, V.str.injEq, V.ref.injEq, List.append_nil, List.cons_append, List.nil_append, decide_true, decide_false, Bool.not_true, Bool.not_false])
local macro_rules | `(tactic| walk_at "go") => `(tactic| repeat (first | walk_at "fw" | walk_at "fwv" | walk_at "mk" | (dsimp only) | walk_at "ev"))
local macro_rules | `(tactic| walk_at "br") => `(tactic| first | refine w_iteN (fun _ => ?_) (fun _ => ?_) | refine w_iteD (fun _ => ?_) (fun _ => ?_) | refine w_ite (fun _ => ?_) (fun _ => ?_))
local macro_rules | `(tactic| walk_at "fork") => `(tactic| (first | refine w_iteN (fun hx => ?_) (fun hx => ?_) | refine w_iteD (fun hx => ?_) (fun hx => ?_) | refine w_ite (fun hx => ?_) (fun hx => ?_)) <;> first | (exact absurd hx (by decide +kernel)) | skip)
local macro_rules | `(tactic| walk_at "gr") => `(tactic| repeat' (first | exact Grow.refl _ | assumption | refine Grow.trans ?_ (Grow.new (by assumption))))

section
variable {P : Program} {w : World} {K : PySem.W.Frag} {mg : Str → Option Value} {base : Heap}
theorem ok__law_one_of {f : Addr} {fd : FuncData} (T : TxtL P w K mg base) (F : Fun K "_law_one_of" "_law_one_of" s__law_one_of f fd) : FnOk P w K mg base CX0 2 f fd ["_law_abacus_here", "_law_some"] (spOneOf K) := by
  refine F.ok sc__law_one_of (fun vs H Q E h => ?_) (fun cdv A outer s H vs Q E hr h => ?_)
  · obtain ⟨c, n, p, xs, rfl, _⟩ := h; rfl
  · obtain ⟨c, n, p, xs, rfl, hc, hn, hs, np, h0, h1, k⟩ := h
    refine ⟨_, (pss_one (ps_ret (pe_ix ix_list (pv 1) (pe_can (E := E0) (c__law_bead T) hr (by decide) pass0 rfl (pa_cons (pv 0) (pa_cons (pe_callB call_lenA (by rfl) T.b_len (by decide +kernel) (pa_cons (pv 1) pa_nil)) pa_nil))) (fun _ _ => rfl)))), ?_⟩
    rw [show L2.start N__law_one_of [(V.ref c), (V.ref p)] = [some (V.ref c), some (V.ref p)] from rfl]; try dsimp only [cxOf]
    walk_at "go"
    refine ⟨c, n, xs.length, rfl, hc, by omega, by omega, by omega, fun r n' H' r0 r1 hn' hc' he => ?_⟩
    walk_at "go"
    obtain ⟨j, rfl⟩ : ∃ j : Nat, r = (j : Int) := ⟨r.toNat, by omega⟩
    have hj : j < xs.length := by omega
    obtain ⟨x, hx⟩ : ∃ x, xs[j]? = some x := ⟨xs[j], by simp [hj]⟩
    refine w_ixL (he.sqL np hs) (at_of rfl hx) ?_
    exact k x n' H' (List.mem_of_getElem? hx) hn' hc' he
theorem c__law_one_of (T : TxtL P w K mg base) : Can P w K mg base CX0 2 "_law_one_of" ["_law_abacus_here", "_law_some"] (spOneOf K) := T.d__law_one_of.can fun f fd F => ok__law_one_of T F
def spShort (K : PySem.W.Frag) : Sp := fun vs H Q _ => ∃ (c : Addr) (n : Nat), vs = [.ref c] ∧ Cloud K H c n ∧ n < 900000 ∧ ∀ (i : Int) (n' : Nat) (H' : Hp), Sh i → n' ≤ n + 4 → Cloud K H' c n' → Ext c H H' → Q (.int i) H'
theorem ok__law_short {f : Addr} {fd : FuncData} (T : TxtL P w K mg base) (F : Fun K "_law_short" "_law_short" s__law_short f fd) : FnOk P w K mg base CX0 3 f fd ["_law_abacus_here"] (spShort K) := by
  refine F.ok sc__law_short (fun vs H Q E h => ?_) (fun cdv A outer s H vs Q E hr h => ?_)
  · obtain ⟨c, n, rfl, _⟩ := h; rfl
  · obtain ⟨c, n, rfl, hc, hn, k⟩ := h
    refine ⟨_, (pss_cons (ps_par (i := 1) (j := 2) rfl sc__law_short.nd rfl rfl (by decide) rfl rfl (pa_cons (pe_op op_sub (pe_can (E := E0) (c__law_bead T) hr (by decide) pass0 rfl (pa_cons (pv 0) (pa_cons pe_int pa_nil))) pe_int) (pa_cons (pe_op op_sub (pe_op op_add (pe_op op_mul (pe_can (E := E0) (c__law_bead T) hr (by decide) pass0 rfl (pa_cons (pv 0) (pa_cons pe_int pa_nil))) pe_int) (pe_can (E := E0) (c__law_bead T) hr (by decide) pass0 rfl (pa_cons (pv 0) (pa_cons pe_int pa_nil)))) pe_int) pa_nil)) (by rfl))
 (pss_one (ps_ret (pe_can (E := E0) (c__law_one_of T) hr (by decide) pass0 rfl (pa_cons (pv 0) (pa_cons (pe_lst (pa_cons (pv 1) (pa_cons (pv 1) (pa_cons (pv 2) (pa_cons (pe_op op_sub pe_int (pe_callB call_absA (by rfl) T.b_abs (by decide +kernel) (pa_cons (pv 1) pa_nil))) (pa_cons (pe_op op_sub (pe_callB call_absA (by rfl) T.b_abs (by decide +kernel) (pa_cons (pv 1) pa_nil)) pe_int) (pa_cons (pe_op op_mul (pv 1) pe_int) (pa_cons pe_int (pa_cons (pe_un un_neg pe_int) pa_nil))))))))) pa_nil)))))), ?_⟩
    rw [show L2.start N__law_short [(V.ref c)] = [some (V.ref c), none, none] from rfl]; try dsimp only [cxOf]
    walk_at "go"
    refine ⟨c, n, 41, rfl, hc, by omega, by omega, by omega, fun r n1 H1 r0 r1 hn1 hc1 he1 => ?_⟩
    walk_at "go"
    refine ⟨c, n1, 65536, rfl, hc1, by omega, by omega, by omega, fun r' n2 H2 r0' r1' hn2 hc2 he2 => ?_⟩
    walk_at "go"
    refine ⟨c, n2, 65536, rfl, hc2, by omega, by omega, by omega, fun r'' n3 H3 r0'' r1'' hn3 hc3 he3 => ?_⟩
    walk_at "go"
    rename_i p2 e2
    refine ⟨c, n3, p2, _, rfl, hc3.new e2, by omega, SqL.of upd_same, hc3.ne e2, by simp, by simp, fun x n' H' hx hn' hc' he' => ?_⟩
    have he : Ext c H H' := (he1.trans (he2.trans he3)).trans ((Grow.new e2).ext.trans he')
    simp only [List.mem_cons, List.not_mem_nil, or_false] at hx
    rcases hx with rfl | rfl | rfl | rfl | rfl | rfl | rfl | rfl <;> refine k _ n' H' ?_ (by omega) hc' he <;> refine ⟨?_, ?_⟩ <;> first | omega | (split <;> omega)
theorem c__law_short (T : TxtL P w K mg base) : Can P w K mg base CX0 3 "_law_short" ["_law_abacus_here"] (spShort K) := T.d__law_short.can fun f fd F => ok__law_short T F
def spCut : Sp := fun vs H Q _ => ∃ n : Int, vs = [.int n] ∧ Q (.int (wrap n)) H
theorem qi {Q : VK} {H : Hp} {a b : Int} (h : Q (.int a) H) (e : a = b) : Q (.int b) H := by rw [← e]; exact h
theorem ok__law_cut {f : Addr} {fd : FuncData} (T : TxtL P w K mg base) (F : Fun K "_law_cut" "_law_cut" s__law_cut f fd) : FnOk P w K mg base CX0 1 f fd ["_law_number"] spCut := by
  refine F.ok sc__law_cut (fun vs H Q E h => ?_) (fun cdv A outer s H vs Q E hr h => ?_)
  · obtain ⟨n, rfl, _⟩ := h; rfl
  · obtain ⟨n, rfl, k⟩ := h
    refine ⟨_, (pss_cons (ps_set (i := 1) sc__law_cut.nd rfl (Or.inl rfl) (pe_op op_fdivA (pe_op op_add (pe_callB call_absA (by rfl) T.b_abs (by decide +kernel) (pa_cons (pv 0) pa_nil)) pe_int) pe_int))
 (pss_cons (ps_set (i := 0) sc__law_cut.nd rfl (Or.inl rfl) (pe_ifExp (pt_cmpR op_gt (pv 0) pe_int (nomark _)) (pe_op op_sub (pv 0) (pe_op op_mul (pv 1) pe_int)) (pe_op op_add (pv 0) (pe_op op_mul (pv 1) pe_int))))
 (pss_cons (ps_if (pt_cmpR op_gt (pv 0) pe_int (nomark _))
 (pss_one (ps_set (i := 0) sc__law_cut.nd rfl (Or.inl rfl) (pe_op op_sub (pv 0) pe_int)))
 pss_nil)
 (pss_one (ps_ret (pe_ifExp (pt_cmpR op_lt (pv 0) (pe_un un_neg pe_int) (nomark _)) (pe_op op_add (pv 0) pe_int) (pv 0))))))), ?_⟩
    rw [show L2.start N__law_cut [(V.int n)] = [some (V.int n), none] from rfl]; try dsimp only [cxOf]
    walk_at "go"
    refine w_I ⟨by decide, by decide +kernel⟩ ?_
    generalize ht : ((if n < 0 then -n else n) + 2147483648).fdiv 4294967296 = t
    walk_at "go"
    rw [Int.fdiv_eq_ediv_of_nonneg _ (by decide)] at ht
    refine w_iteD (fun h1 => ?_) (fun h1 => ?_) <;> walk_at "go" <;> refine w_iteD (fun h2 => ?_) (fun h2 => ?_) <;> walk_at "go" <;> refine w_iteD (fun h3 => ?_) (fun h3 => ?_) <;> walk_at "go" <;>
      refine qi k ?_ <;> unfold wrap <;> split at ht <;> omega
theorem c__law_cut (T : TxtL P w K mg base) : Can P w K mg base CX0 1 "_law_cut" ["_law_number"] spCut := T.d__law_cut.can fun f fd F => ok__law_cut T F
def spQuo : Sp := fun vs H Q _ => ∃ a b : Int, vs = [.int a, .int b] ∧ Sh a ∧ Sh b ∧ b ≠ 0 ∧ Q (.int (a.fdiv b)) H
def ab (a : Int) : Int := if a < 0 then -a else a
theorem ab_nat (a : Int) : ab a = (a.natAbs : Int) := by unfold ab; split <;> omega
theorem quo_is {a b s : Int} (hb : 0 < b) (h1 : b * s ≤ a) (h2 : a < b * s + b) : a / b = s := by
  have e := Int.mul_ediv_add_emod a b
  have l := Int.emod_nonneg a (by omega : b ≠ 0)
  have u := Int.emod_lt_of_pos a hb
  have k : b * (a / b - s) < b := by rw [Int.mul_sub]; omega
  have k2 : -b < b * (a / b - s) := by rw [Int.mul_sub]; omega
  have y1 : a / b - s < 1 := Int.lt_of_mul_lt_mul_left (a := b) (by omega) (by omega)
  have y2 : -1 < a / b - s := Int.lt_of_mul_lt_mul_left (a := b) (by omega) (by omega)
  omega
theorem neg_exact {a b : Int} (hb : 0 < b) (e : a / b * b = a) : -(a / b) = (-a) / b := by
  symm
  have e2 : b * -(a / b) = -a := by rw [Int.mul_neg, Int.mul_comm]; omega
  exact quo_is hb (by omega) (by omega)
theorem neg_more {a b : Int} (hb : 0 < b) (e : ¬ a / b * b = a) : -(a / b) - 1 = (-a) / b := by
  symm
  have e1 := Int.mul_ediv_add_emod a b
  have l := Int.emod_nonneg a (by omega : b ≠ 0)
  have u := Int.emod_lt_of_pos a hb
  rw [Int.mul_comm] at e
  have e2 : b * (-(a / b) - 1) = -(b * (a / b)) - b := by rw [Int.mul_sub, Int.mul_neg]; omega
  exact quo_is hb (by omega) (by omega)
theorem quo_same {a b : Int} (h : decide (a < 0) = decide (b < 0)) : (ab a).fdiv (ab b) = a.fdiv b := by
  unfold ab
  by_cases h1 : a < 0 <;> by_cases h2 : b < 0 <;> simp [h1, h2] at h ⊢
  all_goals exact Int.neg_fdiv_neg a b
theorem quo_exact {a b s : Int} (hb : b ≠ 0) (h : ¬ decide (a < 0) = decide (b < 0)) (hs : (ab a).fdiv (ab b) = s) (e : s * ab b = ab a) : -s = a.fdiv b := by
  subst hs
  unfold ab at e ⊢
  by_cases h1 : a < 0
  · have h2 : ¬ b < 0 := fun z => h (by rw [decide_eq_true h1, decide_eq_true z])
    rw [if_pos h1, if_neg h2, Int.fdiv_eq_ediv_of_nonneg _ (by omega)] at e
    rw [if_pos h1, if_neg h2, Int.fdiv_eq_ediv_of_nonneg _ (by omega), Int.fdiv_eq_ediv_of_nonneg _ (by omega), neg_exact (by omega) e, Int.neg_neg]
  · have h2 : b < 0 := by
      by_cases z : b < 0
      · exact z
      · exact (h (by rw [decide_eq_false h1, decide_eq_false z])).elim
    rw [if_neg h1, if_pos h2, Int.fdiv_eq_ediv_of_nonneg _ (by omega)] at e
    rw [if_neg h1, if_pos h2, ← Int.neg_fdiv_neg a b, Int.fdiv_eq_ediv_of_nonneg _ (by omega), Int.fdiv_eq_ediv_of_nonneg _ (by omega), neg_exact (by omega) e]
theorem quo_more {a b s : Int} (hb : b ≠ 0) (h : ¬ decide (a < 0) = decide (b < 0)) (hs : (ab a).fdiv (ab b) = s) (e : ¬ s * ab b = ab a) : -s - 1 = a.fdiv b := by
  subst hs
  unfold ab at e ⊢
  by_cases h1 : a < 0
  · have h2 : ¬ b < 0 := fun z => h (by rw [decide_eq_true h1, decide_eq_true z])
    rw [if_pos h1, if_neg h2, Int.fdiv_eq_ediv_of_nonneg _ (by omega)] at e
    rw [if_pos h1, if_neg h2, Int.fdiv_eq_ediv_of_nonneg _ (by omega), Int.fdiv_eq_ediv_of_nonneg _ (by omega), neg_more (by omega) e, Int.neg_neg]
  · have h2 : b < 0 := by
      by_cases z : b < 0
      · exact z
      · exact (h (by rw [decide_eq_false h1, decide_eq_false z])).elim
    rw [if_neg h1, if_pos h2, Int.fdiv_eq_ediv_of_nonneg _ (by omega)] at e
    rw [if_neg h1, if_pos h2, ← Int.neg_fdiv_neg a b, Int.fdiv_eq_ediv_of_nonneg _ (by omega), Int.fdiv_eq_ediv_of_nonneg _ (by omega), neg_more (by omega) e]
theorem ok__law_quotient {f : Addr} {fd : FuncData} (T : TxtL P w K mg base) (F : Fun K "_law_quotient" "_law_quotient" s__law_quotient f fd) : FnOk P w K mg base CX0 1 f fd ["_law_one", "_law_other"] spQuo := by
  refine F.ok sc__law_quotient (fun vs H Q E h => ?_) (fun cdv A outer s H vs Q E hr h => ?_)
  · obtain ⟨a, b, rfl, _⟩ := h; rfl
  · obtain ⟨a, b, rfl, ha, hb, nb, k⟩ := h
    refine ⟨_, (pss_cons (ps_set (i := 2) sc__law_quotient.nd rfl (Or.inl rfl) (pe_op op_fdivA (pe_callB call_absA (by rfl) T.b_abs (by decide +kernel) (pa_cons (pv 0) pa_nil)) (pe_callB call_absA (by rfl) T.b_abs (by decide +kernel) (pa_cons (pv 1) pa_nil))))
 (pss_cons (ps_if (pt_cmpR op_eq (pe_cmpR op_lt (pv 0) pe_int (nomark _)) (pe_cmpR op_lt (pv 1) pe_int (nomark _)) (nomark _))
 (pss_one (ps_ret (pv 2)))
 pss_nil)
 (pss_one (ps_ret (pe_ifExp (pt_cmpR op_eq (pe_op op_mul (pv 2) (pe_callB call_absA (by rfl) T.b_abs (by decide +kernel) (pa_cons (pv 1) pa_nil))) (pe_callB call_absA (by rfl) T.b_abs (by decide +kernel) (pa_cons (pv 0) pa_nil)) (nomark _)) (pe_un un_neg (pv 2)) (pe_op op_sub (pe_un un_neg (pv 2)) pe_int)))))), ?_⟩
    rw [show L2.start N__law_quotient [(V.int a), (V.int b)] = [some (V.int a), some (V.int b), none] from rfl]; try dsimp only [cxOf]
    walk_at "go"
    refine w_I ⟨?_, ?_⟩ ?_
    · split <;> omega
    · unfold Sh at hb
      refine Nat.lt_trans (log2_lt (k := 33) ?_ (by decide)) (by decide)
      split <;> omega
    generalize hs : Int.fdiv (if a < 0 then -a else a) (if b < 0 then -b else b) = t
    have bt : ab b < 4294967296 := by unfold Sh at hb; unfold ab; split <;> omega
    have bt0 : 0 ≤ ab b := by unfold ab; split <;> omega
    walk_at "go"
    refine w_iteD (fun h1 => ?_) (fun h1 => ?_)
    · walk_at "go"
      exact qi k (by rw [← hs]; exact (quo_same h1).symm)
    · walk_at "go"
      refine w_I (.inr ⟨?_, ?_⟩) ?_
      · unfold ab at bt bt0; omega
      · unfold ab at bt bt0; omega
      walk_at "go"
      refine w_iteD (fun h2 => ?_) (fun h2 => ?_)
      · walk_at "go"
        exact qi k (quo_exact nb h1 hs h2).symm
      · walk_at "go"
        exact qi k (quo_more nb h1 hs h2).symm
theorem c__law_quotient (T : TxtL P w K mg base) : Can P w K mg base CX0 1 "_law_quotient" ["_law_one", "_law_other"] spQuo := T.d__law_quotient.can fun f fd F => ok__law_quotient T F
end
end K02

set_option maxRecDepth 100000
set_option maxHeartbeats 4000000
namespace K02
open PySem L2 FW PyProof.Rows
local macro_rules | `(tactic| walk_at "side") => `(tactic| first
  | omega
  | exact ⟨by omega, by omega⟩
  | exact Or.inl ⟨by omega, by omega⟩
  | exact Or.inr ⟨by omega, by omega⟩
  | exact ⟨by omega, by omega, by omega⟩
  | exact ⟨by decide, by decide, by decide⟩
  | (refine mix2 ?_ ?_ ?_ ?_ ?_ ?_ ?_ ?_ ?_ ?_ <;> omega))
local macro_rules | `(tactic| walk_at "hp") => `(tactic| first
  | assumption | exact upd_same
  | (refine' rd_new ?n ?q; (case n => assumption); (case q => walk_at "hp"))
  | (refine' rd_ne ?n ?q; (case n => first | assumption | (apply Ne.symm; assumption)); (case q => walk_at "hp")))
local macro_rules | `(tactic| walk_at "sq") => `(tactic| first
  | assumption
  | (with_reducible apply SqL.of; walk_at "hp") | (with_reducible apply SqT.of; walk_at "hp")
  | ((with_reducible refine' sqL_new ?n ?q); (case n => assumption); (case q => walk_at "sq"))
  | ((with_reducible refine' sqT_new ?n ?q); (case n => assumption); (case q => walk_at "sq"))
  | ((with_reducible refine' sqL_ne ?n ?q); (case n => first | assumption | (apply Ne.symm; assumption)); (case q => walk_at "sq"))
  | ((with_reducible refine' sqT_ne ?n ?q); (case n => first | assumption | (apply Ne.symm; assumption)); (case q => walk_at "sq"))
  | ((with_reducible refine' Ext.sqL ?e ?n ?q); (case e => assumption); (case n => first | assumption | (apply Ne.symm; assumption)); (case q => walk_at "sq"))
  | ((with_reducible refine' Ext.sqT ?e ?n ?q); (case e => assumption); (case n => first | assumption | (apply Ne.symm; assumption)); (case q => walk_at "sq"))
  | ((with_reducible refine' Grow.sqL ?e ?q); (case e => assumption); (case q => walk_at "sq"))
  | ((with_reducible refine' Grow.sqT ?e ?q); (case e => assumption); (case q => walk_at "sq")))
local macro_rules | `(tactic| walk_at "sqs") => `(tactic| first | assumption | (exact ‹∀ H, SqT _ H _ _› _) | (apply SqT.of; walk_at "hp"))
local macro_rules | `(tactic| walk_at "kn") => `(tactic| first | assumption | exact True.intro)
local macro_rules | `(tactic| walk_at "fw") => `(tactic| with_reducible first
  | refine w_seq ?_ | refine w_asg ?_ | refine w_ret ?_ | refine w_drop ?_ | refine w_next ?_ | refine w_c ?_ | refine w_op ?_ | refine w_un ?_
  | refine w_test ?_ | refine w_B ?_ | refine w_bl ?_ | refine w_not ?_ | refine w_and ?_ | refine w_or ?_ | refine w_andV ?_ | refine w_orV ?_ | refine w_notV ?_
  | refine w_if ?_ | refine w_ifE ?_ | refine w_yes ?_ | refine w_no ?_ | refine w_rfl ?_ | refine w_tr ?_ | refine w_nyes ?_ | refine w_nno ?_ | refine w_T ?_ | refine w_F ?_ | refine w_nil ?_ | refine w_cons ?_ | refine w_cb ?_ | refine w_call ?_ | refine w_lst ?_ | refine w_tup ?_
  | refine w_I0 ?_ | refine w_U ?_ | refine w_int ?_ | refine w_intB ?_ | refine w_abs ?_ | refine w_raise1 ?_ | refine w_sub ?_ | refine w_gcons ?_ | refine w_gnil ?_ | refine w_par ?_ | refine w_chain ?_ | refine w_callNB ?_)
local macro_rules | `(tactic| walk_at "fwv") => `(tactic| first
  | ((with_reducible refine' w_var ?e ?_); (case e => rfl))
  | ((with_reducible refine' w_I ?e ?_); (case e => walk_at "side"))
  | ((with_reducible refine' w_ixL ?s ?e ?_); (case s => walk_at "sq"); (case e => rfl))
  | ((with_reducible refine' w_lenL ?s ?_); (case s => walk_at "sq"); try simp only [List.length_map, List.length_cons, List.length_nil])
  | ((with_reducible refine' w_setL ?e ?f ?_); (case e => walk_at "hp"); (case f => rfl); try simp only [Int.reduceToNat, List.set_cons_zero, List.set_cons_succ, upd_upd])
  | ((with_reducible refine' w_gtup ?s ?l ?_); (case s => walk_at "sq"); (case l => rfl))
  | ((with_reducible refine' w_eq ?e ?_); (case e => rfl))
  | ((with_reducible refine' w_ne ?e ?_); (case e => rfl))
  | ((with_reducible refine' w_mk1 ?o ?n ?_); (case o => apply Exn.oex; assumption); (case n => apply Exn.no; assumption); intro _ _)
  | ((with_reducible refine w_dnew ?_); intro _ _)
  | ((with_reducible refine' w_inT (ss := ?ss) ?s ?_); (case s => walk_at "sqs"))
  | ((with_reducible refine' w_notInT (ss := ?ss) ?s ?_); (case s => walk_at "sqs"))
  | ((with_reducible refine' w_inX ?s ?f ?g ?_); (case s => walk_at "sqs"); (case f => rfl); (case g => rfl))
  | ((with_reducible refine' w_isIntA ?k ?_); (case k => walk_at "kn"))
  | ((with_reducible refine' w_isBlA ?k ?_); (case k => walk_at "kn"))
  | ((with_reducible refine' w_isStrA ?k ?_); (case k => walk_at "kn"))
  | ((with_reducible refine w_par2 ?_); simp only [List.set_cons_zero, List.set_cons_succ])
  | ((with_reducible refine w_name ?_); simp only [List.set_cons_zero, List.set_cons_succ]))
local macro_rules | `(tactic| walk_at "size") => `(tactic| first | (show _ ≤ sizeLine; decide) | (simp only [List.length_cons, List.length_nil]; decide))
local macro_rules | `(tactic| walk_at "mk") => `(tactic| ((with_reducible refine' w_made ?n ?_); (case n => walk_at "size"); intro _ _))
local macro_rules | `(tactic| walk_at "ev") => `(tactic| simp only [reduceCtorEq, V.int.injEq, V.bl.injEq, V.str.injEq, V.ref.injEq, List.append_nil, List.cons_append, List.nil_append, decide_true, decide_false, Bool.not_true, Bool.not_false])
local macro_rules | `(tactic| walk_at "go") => `(tactic| repeat (first | walk_at "fw" | walk_at "fwv" | walk_at "mk" | (dsimp only) | walk_at "ev"))
local macro_rules | `(tactic| walk_at "br") => `(tactic| first | refine w_iteN (fun _ => ?_) (fun _ => ?_) | refine w_iteD (fun _ => ?_) (fun _ => ?_) | refine w_ite (fun _ => ?_) (fun _ => ?_))
local macro_rules | `(tactic| walk_at "fork") => `(tactic| (first | refine w_iteN (fun hx => ?_) (fun hx => ?_) | refine w_iteD (fun hx => ?_) (fun hx => ?_) | refine w_ite (fun hx => ?_) (fun hx => ?_)) <;> first | (exact absurd hx (by decide +kernel)) | skip)
local macro_rules | `(tactic| walk_at "gr") => `(tactic| repeat' (first | exact Grow.refl _ | assumption | refine Grow.trans ?_ (Grow.new (by assumption))))

section
variable {P : Program} {w : World} {K : PySem.W.Frag} {mg : Str → Option Value} {base : Heap}
def spIsSh (K : PySem.W.Frag) : Sp := fun vs H Q _ => ∃ v, vs = [v] ∧ Kn K H v ∧ Q (.bl (isSh v)) H
theorem ok__law_is_short {f : Addr} {fd : FuncData} (T : TxtL P w K mg base) (F : Fun K "_law_is_short" "_law_is_short" s__law_is_short f fd) : FnOk P w K mg base CX0 1 f fd ["_law_value"] (spIsSh K) := by
  refine F.ok sc__law_is_short (fun vs H Q E h => ?_) (fun cdv A outer s H vs Q E hr h => ?_)
  · obtain ⟨v, rfl, _⟩ := h; rfl
  · obtain ⟨v, rfl, kn, k⟩ := h
    refine ⟨_, (pss_one (ps_ret (pe_and (pe_callB call_isA (by rfl) T.b_isinstance (by decide +kernel) (pa_cons (pv 0) (pa_cons (pe_bltn (v := .ty "int") (u := .type "int") rfl T.b_int (by decide +kernel) rfl) pa_nil))) (pe_and (pe_not (pe_callB call_isA (by rfl) T.b_isinstance (by decide +kernel) (pa_cons (pv 0) (pa_cons (pe_bltn (v := .ty "bool") (u := .type "bool") rfl T.b_bool (by decide +kernel) rfl) pa_nil)))) (pe_one (pe_chain op_le op_le (pe_un un_neg pe_int) (pv 0) pe_int)))))), ?_⟩
    rw [show L2.start N__law_is_short [(v)] = [some (v)] from rfl]; try dsimp only [cxOf]
    walk_at "go"
    cases h0 : isIntB v with
    | false =>
      walk_at "go"
      have e : isSh v = false := by cases v <;> first | rfl | cases h0
      rw [e] at k; exact k
    | true =>
      walk_at "go"
      cases h1 : isBl v with
      | true =>
        walk_at "go"
        have e : isSh v = false := by cases v <;> first | rfl | cases h1
        rw [e] at k; exact k
      | false =>
        obtain ⟨i, rfl⟩ : ∃ i, v = .int i := by cases v <;> first | exact ⟨_, rfl⟩ | (simp [isIntB] at h0; done) | (simp [isBl] at h1; done)
        walk_at "go"
        refine w_iteD (fun h2 => ?_) (fun h2 => ?_)
        · walk_at "go"
          simp only [isSh, decide_eq_true h2, Bool.true_and] at k; exact k
        · walk_at "go"
          simp only [isSh, decide_eq_false h2, Bool.false_and] at k; exact k
theorem c__law_is_short (T : TxtL P w K mg base) : Can P w K mg base CX0 1 "_law_is_short" ["_law_value"] (spIsSh K) := T.d__law_is_short.can fun f fd F => ok__law_is_short T F
theorem qg {Q : VK} {H H2 : Hp} {m e : Int} (h : ∀ H', Grow H H' → Q (.int m) H') (g : Grow H H2) (q : m = e) : Q (.int e) H2 := by rw [← q]; exact h _ g
def spDue : Sp := fun vs H Q _ => ∃ (x : Str) (a b : Int), vs = [.str x, .int a, .int b] ∧ x ∈ signs ∧ Sh a ∧ Sh b ∧ ∀ H', Grow H H' → Q (.int (actOf x a b)) H'
theorem w_cut {n : Int} {H : Hp} {Q : VK} {E : XK} (h : Q (.int (wrap n)) H) : spCut [.int n] H Q E := ⟨n, rfl, h⟩
theorem w_quo {a b : Int} {H : Hp} {Q : VK} {E : XK} (ha : Sh a) (hb : Sh b) (nb : b ≠ 0) (h : Q (.int (a.fdiv b)) H) : spQuo [.int a, .int b] H Q E := ⟨a, b, rfl, ha, hb, nb, h⟩
theorem mul_side {a b : Int} (h : Sh b) : CMul a b := .inr ⟨by unfold Sh at h; omega, by unfold Sh at h; omega⟩
local macro_rules | `(tactic| walk_at "step") => `(tactic| (first | walk_at "fork" | refine w_cut ?_ | refine w_quo (by assumption) (by assumption) (by assumption) ?_ | refine w_I (mul_side (by assumption)) ?_) <;> (walk_at "go"))
theorem ok__law_due {f : Addr} {fd : FuncData} (T : TxtL P w K mg base) (F : Fun K "_law_due" "_law_due" s__law_due f fd) : FnOk P w K mg base CX0 2 f fd ["_law_sign", "_law_one", "_law_other"] spDue := by
  refine F.ok sc__law_due (fun vs H Q E h => ?_) (fun cdv A outer s H vs Q E hr h => ?_)
  · obtain ⟨x, a, b, rfl, _⟩ := h; rfl
  · obtain ⟨x, a, b, rfl, hx, ha, hb, k⟩ := h
    refine ⟨_, (pss_cons (ps_if (pt_cmpR op_in_seq (pv 0) (pe_tup (pa_cons pe_str (pa_cons pe_str (pa_cons pe_str pa_nil)))) (by rfl))
 (pss_one (ps_ret (pe_can (E := E0) (c__law_cut T) hr (by decide) pass0 rfl (pa_cons (pe_ifExp (pt_cmpR op_eq (pv 0) pe_str (nomark _)) (pe_op op_add (pv 1) (pv 2)) (pe_ifExp (pt_cmpR op_eq (pv 0) pe_str (nomark _)) (pe_op op_sub (pv 1) (pv 2)) (pe_op op_mul (pv 1) (pv 2)))) pa_nil))))
 pss_nil)
 (pss_cons (ps_if (pt_cmpR op_in_seq (pv 0) (pe_tup (pa_cons pe_str (pa_cons pe_str pa_nil))) (by rfl))
 (pss_cons (ps_set (i := 3) sc__law_due.nd rfl (Or.inl rfl) (pe_ifExp (pt_cmpR op_ne (pv 2) pe_int (nomark _)) (pe_can (E := E0) (c__law_quotient T) hr (by decide) pass0 rfl (pa_cons (pv 1) (pa_cons (pv 2) pa_nil))) pe_int))
 (pss_one (ps_ret (pe_ifExp (pt_cmpR op_eq (pv 0) pe_str (nomark _)) (pe_can (E := E0) (c__law_cut T) hr (by decide) pass0 rfl (pa_cons (pv 3) pa_nil)) (pe_ifExp (pt_cmpR op_ne (pv 2) pe_int (nomark _)) (pe_op op_sub (pv 1) (pe_op op_mul (pv 3) (pv 2))) pe_int)))))
 pss_nil)
 (pss_cons (ps_if (pt_cmpR op_in_seq (pv 0) (pe_tup (pa_cons pe_str (pa_cons pe_str pa_nil))) (by rfl))
 (pss_one (ps_ret (pe_ifExp (pt_cmpR op_eq (pv 0) pe_str (nomark _)) (pe_ifExp (pt_cmpR op_lt (pv 1) (pv 2) (nomark _)) pe_int pe_int) (pe_ifExp (pt_cmpR op_eq (pv 1) (pv 2) (nomark _)) pe_int pe_int))))
 pss_nil)
 (pss_cons (ps_if (pt_cmpR op_eq (pv 0) pe_str (nomark _))
 (pss_one (ps_ret (pe_ifExp (PW.pt (pw_or (pt_cmpR op_eq (pv 1) pe_int (nomark _)) (pw_or1 (pt_cmpR op_eq (pv 2) pe_int (nomark _))))) pe_int pe_int)))
 pss_nil)
 (pss_one (ps_ret (pe_ifExp (PW.pt (pw_and (pt_cmpR op_eq (pv 1) pe_int (nomark _)) (pw_and1 (pt_cmpR op_eq (pv 2) pe_int (nomark _))))) pe_int pe_int))))))), ?_⟩
    rw [show L2.start N__law_due [(V.str x), (V.int a), (V.int b)] = [some (V.str x), some (V.int a), some (V.int b), none] from rfl]; try dsimp only [cxOf]
    unfold signs at hx
    simp only [List.mem_cons, List.not_mem_nil, or_false] at hx
    rcases hx with rfl | rfl | rfl | rfl | rfl | rfl | rfl | rfl | rfl
    all_goals
      walk_at "go"
      repeat' (walk_at "step")
    all_goals
      refine qg k ?_ ?_
      · walk_at "gr"
    all_goals first | rw [act1] | rw [act2] | rw [act3] | rw [act4] | rw [act5] | rw [act6] | rw [act7] | rw [act8] | rw [act9]
    all_goals first
      | contradiction
      | rfl
      | (rw [if_neg (by assumption)]; first | rfl | (rw [Int.fmod_def, Int.mul_comm]))
      | (rw [if_pos (by assumption)]; first | rfl | omega)
      | (split <;> omega)
theorem c__law_due (T : TxtL P w K mg base) : Can P w K mg base CX0 2 "_law_due" ["_law_sign", "_law_one", "_law_other"] spDue := T.d__law_due.can fun f fd F => ok__law_due T F
end
end K02

set_option maxRecDepth 100000
set_option maxHeartbeats 4000000
namespace K02
open PySem L2 FW PyProof.Rows
local macro_rules | `(tactic| walk_at "side") => `(tactic| first
  | omega
  | exact ⟨by omega, by omega⟩
  | exact Or.inl ⟨by omega, by omega⟩
  | exact Or.inr ⟨by omega, by omega⟩
  | exact ⟨by omega, by omega, by omega⟩
  | exact ⟨by decide, by decide, by decide⟩
  | (refine mix2 ?_ ?_ ?_ ?_ ?_ ?_ ?_ ?_ ?_ ?_ <;> omega))
local macro_rules | `(tactic| walk_at "hp") => `(tactic| first
  | assumption | exact upd_same
  | (refine' rd_new ?n ?q; (case n => assumption); (case q => walk_at "hp"))
  | (refine' rd_ne ?n ?q; (case n => first | assumption | (apply Ne.symm; assumption)); (case q => walk_at "hp")))
local macro_rules | `(tactic| walk_at "sq") => `(tactic| first
  | assumption
  | (with_reducible apply SqL.of; walk_at "hp") | (with_reducible apply SqT.of; walk_at "hp")
  | ((with_reducible refine' sqL_new ?n ?q); (case n => assumption); (case q => walk_at "sq"))
  | ((with_reducible refine' sqT_new ?n ?q); (case n => assumption); (case q => walk_at "sq"))
  | ((with_reducible refine' sqL_ne ?n ?q); (case n => first | assumption | (apply Ne.symm; assumption)); (case q => walk_at "sq"))
  | ((with_reducible refine' sqT_ne ?n ?q); (case n => first | assumption | (apply Ne.symm; assumption)); (case q => walk_at "sq"))
  | ((with_reducible refine' Ext.sqL ?e ?n ?q); (case e => assumption); (case n => first | assumption | (apply Ne.symm; assumption)); (case q => walk_at "sq"))
  | ((with_reducible refine' Ext.sqT ?e ?n ?q); (case e => assumption); (case n => first | assumption | (apply Ne.symm; assumption)); (case q => walk_at "sq"))
  | ((with_reducible refine' Grow.sqL ?e ?q); (case e => assumption); (case q => walk_at "sq"))
  | ((with_reducible refine' Grow.sqT ?e ?q); (case e => assumption); (case q => walk_at "sq")))
local macro_rules | `(tactic| walk_at "sqs") => `(tactic| first | assumption | (exact ‹∀ H, SqT _ H _ _› _) | (apply SqT.of; walk_at "hp"))
local macro_rules | `(tactic| walk_at "kn") => `(tactic| first | assumption | exact True.intro)
local macro_rules | `(tactic| walk_at "fw") => `(tactic| with_reducible first
  | refine w_seq ?_ | refine w_asg ?_ | refine w_ret ?_ | refine w_drop ?_ | refine w_next ?_ | refine w_c ?_ | refine w_op ?_ | refine w_un ?_
  | refine w_test ?_ | refine w_B ?_ | refine w_bl ?_ | refine w_not ?_ | refine w_and ?_ | refine w_or ?_ | refine w_andV ?_ | refine w_orV ?_ | refine w_notV ?_
  | refine w_if ?_ | refine w_ifE ?_ | refine w_yes ?_ | refine w_no ?_ | refine w_rfl ?_ | refine w_tr ?_ | refine w_nyes ?_ | refine w_nno ?_ | refine w_T ?_ | refine w_F ?_ | refine w_nil ?_ | refine w_cons ?_ | refine w_cb ?_ | refine w_call ?_ | refine w_lst ?_ | refine w_tup ?_
  | refine w_I0 ?_ | refine w_U ?_ | refine w_int ?_ | refine w_intB ?_ | refine w_abs ?_ | refine w_raise1 ?_ | refine w_sub ?_ | refine w_gcons ?_ | refine w_gnil ?_ | refine w_par ?_ | refine w_chain ?_ | refine w_callNB ?_)
local macro_rules | `(tactic| walk_at "fwv") => `(tactic| first
  | ((with_reducible refine' w_var ?e ?_); (case e => rfl))
  | ((with_reducible refine' w_I ?e ?_); (case e => walk_at "side"))
  | ((with_reducible refine' w_ixL ?s ?e ?_); (case s => walk_at "sq"); (case e => rfl))
  | ((with_reducible refine' w_lenL ?s ?_); (case s => walk_at "sq"); try simp only [List.length_map, List.length_cons, List.length_nil])
  | ((with_reducible refine' w_setL ?e ?f ?_); (case e => walk_at "hp"); (case f => rfl); try simp only [Int.reduceToNat, List.set_cons_zero, List.set_cons_succ, upd_upd])
  | ((with_reducible refine' w_gtup ?s ?l ?_); (case s => walk_at "sq"); (case l => rfl))
  | ((with_reducible refine' w_eq ?e ?_); (case e => rfl))
  | ((with_reducible refine' w_ne ?e ?_); (case e => rfl))
  | ((with_reducible refine' w_mk1 ?o ?n ?_); (case o => apply Exn.oex; assumption); (case n => apply Exn.no; assumption); intro _ _)
  | ((with_reducible refine w_dnew ?_); intro _ _)
  | ((with_reducible refine' w_inT (ss := ?ss) ?s ?_); (case s => walk_at "sqs"))
  | ((with_reducible refine' w_notInT (ss := ?ss) ?s ?_); (case s => walk_at "sqs"))
  | ((with_reducible refine' w_inX ?s ?f ?g ?_); (case s => walk_at "sqs"); (case f => rfl); (case g => rfl))
  | ((with_reducible refine' w_isIntA ?k ?_); (case k => walk_at "kn"))
  | ((with_reducible refine' w_isBlA ?k ?_); (case k => walk_at "kn"))
  | ((with_reducible refine' w_isStrA ?k ?_); (case k => walk_at "kn"))
  | ((with_reducible refine w_par2 ?_); simp only [List.set_cons_zero, List.set_cons_succ])
  | ((with_reducible refine w_name ?_); simp only [List.set_cons_zero, List.set_cons_succ]))
local macro_rules | `(tactic| walk_at "size") => `(tactic| first | (show _ ≤ sizeLine; decide) | (simp only [List.length_cons, List.length_nil]; decide))
local macro_rules | `(tactic| walk_at "mk") => `(tactic| ((with_reducible refine' w_made ?n ?_); (case n => walk_at "size"); intro _ _))
local macro_rules | `(tactic| walk_at "ev") => `(tactic| simp only [reduceCtorEq, V.int.injEq, V.bl.injEq, V.str.injEq, V.ref.injEq, List.append_nil, List.cons_append, List.nil_append, decide_true, decide_false, Bool.not_true, Bool.not_false])
local macro_rules | `(tactic| walk_at "go") => `(tactic| repeat (first | walk_at "fw" | walk_at "fwv" | walk_at "mk" | (dsimp only) | walk_at "ev"))
local macro_rules | `(tactic| walk_at "br") => `(tactic| first | refine w_iteN (fun _ => ?_) (fun _ => ?_) | refine w_iteD (fun _ => ?_) (fun _ => ?_) | refine w_ite (fun _ => ?_) (fun _ => ?_))
local macro_rules | `(tactic| walk_at "fork") => `(tactic| (first | refine w_iteN (fun hx => ?_) (fun hx => ?_) | refine w_iteD (fun hx => ?_) (fun hx => ?_) | refine w_ite (fun hx => ?_) (fun hx => ?_)) <;> first | (exact absurd hx (by decide +kernel)) | skip)
local macro_rules | `(tactic| walk_at "gr") => `(tactic| repeat' (first | exact Grow.refl _ | assumption | refine Grow.trans ?_ (Grow.new (by assumption))))

section
variable {P : Program} {w : World} {K : PySem.W.Frag} {mg : Str → Option Value} {base : Heap}
/-- what the law makes of what it asks: nothing, or the part that is told -/
def TTheard (C : Addr) : (XK → Hp → VK → Prop) → Hp → VK → Prop := fun tl H Q => ∀ (E' : XK) (Q' : VK), (∀ v H', Q .non H' → Q' v H') →
  (∀ d p H', H' d = some (.xd [("part", .str p)]) → (∀ H2, Grow H' H2 → Q (.str p) H2) → E' (.ref C) (some d) H') → tl E' H Q'
theorem w_isXA {K : PySem.W.Frag} {H : Hp} {Q : VK} {a D dd C : Addr} {b : Bool} {fs : List (Str × V)} (e : H a = some (ExT a (.ref D) (some dd))) (x : ExcC K D) (ed : H dd = some (.xd fs)) (k : PySem.W.kitOne K (.ref D) (.ref C) = some b) (q : Q (.bl b) H) :
    rIsA K [.ref a, .ref C] H Q := .inr ⟨a, D, some dd, .ref C, .ref C, b, rfl, e, x, .inr ⟨dd, fs, rfl, ed⟩, .own C, k, q⟩
theorem w_isNA {K : PySem.W.Frag} {H : Hp} {Q : VK} {C : Addr} {b : Bool} (k : PySem.W.kitOne K (.type "NoneType") (.ref C) = some b) (q : Q (.bl b) H) : rIsA K [.non, .ref C] H Q :=
  .inl ⟨.non, .ref C, .type "NoneType", .ref C, b, rfl, .own C, .base .non, k, q⟩
theorem kit_same {K : PySem.W.Frag} {C : Addr} : PySem.W.kitOne K (.ref C) (.ref C) = some true := by unfold PySem.W.kitOne; rw [if_pos (by simp)]
theorem heard_gives {X : Cx} (T : TxtL X.prog X.w X.K X.mg X.base) {g : Addr} {cdg : Value} {q : Str} :
    LamX.GivesTo X N__law_heard "_law_heard" (defScope s__law_heard) g cdg (defBody s__law_heard) "_law_ask" q (TTheard T.cBadNumber) := by
  intro f c' s H Q tl act hc h
  refine ⟨_, (pss_cons (ps_set (i := 1) sc__law_heard.nd rfl (Or.inl rfl) pe_non)
 (pss_cons (ps_try_keep (i := 2) (j := 1) (c := .ref T.cWeather) (tb := fun W D σ H => ∃ Ech : XK, (∀ cls d σ' H', Ech cls d H' → W cls d σ' H') ∧ σ[0]? = some (some (.ref f)) ∧ H c' = some (LamX.CodeO c' q) ∧ tl Ech H fun _ H' => D.nx σ H') rfl rfl sc__law_heard.nd rfl rfl rfl rfl (by decide) ⟨rfl, by decide, .inl T.g_Weather⟩ (fun W pn xe tk _ => ⟨fun pins s' σ H' D I ⟨Ech, hW, h1, h2, h3⟩ => (pss_one (ps_expr (act W pn xe Ech _ _ tk hW))).run pins s' σ H' D I ⟨h1, h2, h3⟩⟩))
 (pss_cons (ps_if (pt_val (pe_callB call_isA (by rfl) T.b_isinstance (by decide +kernel) (pa_cons (pv 1) (pa_cons (pe_glob (v := .ref T.cBadNumber) rfl T.x_BadNumber.gC rfl) pa_nil))))
 (pss_one (ps_ret (pe_xt (pv 1))))
 pss_nil)
 (pss_one (ps_ret (pe_ifExp (pt_cmpR op_isN (pv 1) pe_non (nomark _)) pe_non pe_str)))))), ?_⟩
  rw [show L2.start N__law_heard [(V.ref f)] = [some (.ref f), none, none] from rfl]; try dsimp only [cxOf]
  walk_at "go"
  refine ⟨by simp, fun cls d H' => cls = .ref T.cBadNumber ∧ ∃ dd p, d = some dd ∧ H' dd = some (.xd [("part", .str p)]) ∧ ∀ H2, Grow H' H2 → Q (.str p) H2, ?_, rfl, hc, ?_⟩
  · intro cls d σ' H' hx
    obtain ⟨rfl, dd, p, rfl, hdd, hq⟩ := hx
    refine ⟨T.e_Weather, fun a na hl => ?_⟩
    obtain ⟨x0, x1, x2, rfl⟩ : ∃ x0 x1 x2, σ' = [x0, x1, x2] := by
      match σ', hl with
      | [x0, x1, x2], _ => exact ⟨x0, x1, x2, rfl⟩
    have nda : dd ≠ a := ne_of_none hdd na
    have xN := T.x_BadNumber
    walk_at "go"
    refine w_isXA upd_same xN.exc (by rw [upd_ne nda]; exact hdd) kit_same ?_
    walk_at "go"
    refine ⟨.ref a, rfl, a, T.cBadNumber, dd, _, _, rfl, upd_same, by rw [upd_ne nda]; exact hdd, xN.xf, xN.no, rfl, ?_⟩
    walk_at "go"
    exact hq _ (Grow.new na)
  · refine h _ _ (fun v H' hq => ?_) (fun d p H' e hq => ⟨rfl, d, p, rfl, e, hq⟩)
    walk_at "go"
    refine w_isNA T.n_BadNumber ?_
    walk_at "go"
    exact hq
end
end K02

set_option maxRecDepth 100000
set_option maxHeartbeats 4000000
namespace K02
open PySem L2 FW PyProof.Rows
local macro_rules | `(tactic| walk_at "side") => `(tactic| first
  | omega
  | exact ⟨by omega, by omega⟩
  | exact Or.inl ⟨by omega, by omega⟩
  | exact Or.inr ⟨by omega, by omega⟩
  | exact ⟨by omega, by omega, by omega⟩
  | exact ⟨by decide, by decide, by decide⟩
  | (refine mix2 ?_ ?_ ?_ ?_ ?_ ?_ ?_ ?_ ?_ ?_ <;> omega))
local macro_rules | `(tactic| walk_at "hp") => `(tactic| first
  | assumption | exact upd_same
  | (refine' rd_new ?n ?q; (case n => assumption); (case q => walk_at "hp"))
  | (refine' rd_ne ?n ?q; (case n => first | assumption | (apply Ne.symm; assumption)); (case q => walk_at "hp")))
local macro_rules | `(tactic| walk_at "sq") => `(tactic| first
  | assumption
  | (with_reducible apply SqL.of; walk_at "hp") | (with_reducible apply SqT.of; walk_at "hp")
  | ((with_reducible refine' sqL_new ?n ?q); (case n => assumption); (case q => walk_at "sq"))
  | ((with_reducible refine' sqT_new ?n ?q); (case n => assumption); (case q => walk_at "sq"))
  | ((with_reducible refine' sqL_ne ?n ?q); (case n => first | assumption | (apply Ne.symm; assumption)); (case q => walk_at "sq"))
  | ((with_reducible refine' sqT_ne ?n ?q); (case n => first | assumption | (apply Ne.symm; assumption)); (case q => walk_at "sq"))
  | ((with_reducible refine' Ext.sqL ?e ?n ?q); (case e => assumption); (case n => first | assumption | (apply Ne.symm; assumption)); (case q => walk_at "sq"))
  | ((with_reducible refine' Ext.sqT ?e ?n ?q); (case e => assumption); (case n => first | assumption | (apply Ne.symm; assumption)); (case q => walk_at "sq"))
  | ((with_reducible refine' Grow.sqL ?e ?q); (case e => assumption); (case q => walk_at "sq"))
  | ((with_reducible refine' Grow.sqT ?e ?q); (case e => assumption); (case q => walk_at "sq")))
local macro_rules | `(tactic| walk_at "sqs") => `(tactic| first | assumption | (exact ‹∀ H, SqT _ H _ _› _) | (apply SqT.of; walk_at "hp"))
local macro_rules | `(tactic| walk_at "kn") => `(tactic| first | assumption | exact True.intro)
local macro_rules | `(tactic| walk_at "fw") => `(tactic| with_reducible first
  | refine w_seq ?_ | refine w_asg ?_ | refine w_ret ?_ | refine w_drop ?_ | refine w_next ?_ | refine w_c ?_ | refine w_op ?_ | refine w_un ?_
  | refine w_test ?_ | refine w_B ?_ | refine w_bl ?_ | refine w_not ?_ | refine w_and ?_ | refine w_or ?_ | refine w_andV ?_ | refine w_orV ?_ | refine w_notV ?_
  | refine w_if ?_ | refine w_ifE ?_ | refine w_yes ?_ | refine w_no ?_ | refine w_rfl ?_ | refine w_tr ?_ | refine w_nyes ?_ | refine w_nno ?_ | refine w_T ?_ | refine w_F ?_ | refine w_nil ?_ | refine w_cons ?_ | refine w_cb ?_ | refine w_call ?_ | refine w_lst ?_ | refine w_tup ?_
  | refine w_I0 ?_ | refine w_U ?_ | refine w_int ?_ | refine w_intB ?_ | refine w_abs ?_ | refine w_raise1 ?_ | refine w_sub ?_ | refine w_gcons ?_ | refine w_gnil ?_ | refine w_par ?_ | refine w_chain ?_ | refine w_callNB ?_)
local macro_rules | `(tactic| walk_at "fwv") => `(tactic| first
  | ((with_reducible refine' w_var ?e ?_); (case e => rfl))
  | ((with_reducible refine' w_I ?e ?_); (case e => walk_at "side"))
  | ((with_reducible refine' w_ixL ?s ?e ?_); (case s => walk_at "sq"); (case e => rfl))
  | ((with_reducible refine' w_lenL ?s ?_); (case s => walk_at "sq"); try simp only [List.length_map, List.length_cons, List.length_nil])
  | ((with_reducible refine' w_setL ?e ?f ?_); (case e => walk_at "hp"); (case f => rfl); try simp only [Int.reduceToNat, List.set_cons_zero, List.set_cons_succ, upd_upd])
  | ((with_reducible refine' w_gtup ?s ?l ?_); (case s => walk_at "sq"); (case l => rfl))
  | ((with_reducible refine' w_eq ?e ?_); (case e => rfl))
  | ((with_reducible refine' w_ne ?e ?_); (case e => rfl))
  | ((with_reducible refine' w_mk1 ?o ?n ?_); (case o => apply Exn.oex; assumption); (case n => apply Exn.no; assumption); intro _ _)
  | ((with_reducible refine w_dnew ?_); intro _ _)
  | ((with_reducible refine' w_inT (ss := ?ss) ?s ?_); (case s => walk_at "sqs"))
  | ((with_reducible refine' w_notInT (ss := ?ss) ?s ?_); (case s => walk_at "sqs"))
  | ((with_reducible refine' w_inX ?s ?f ?g ?_); (case s => walk_at "sqs"); (case f => rfl); (case g => rfl))
  | ((with_reducible refine' w_isIntA ?k ?_); (case k => walk_at "kn"))
  | ((with_reducible refine' w_isBlA ?k ?_); (case k => walk_at "kn"))
  | ((with_reducible refine' w_isStrA ?k ?_); (case k => walk_at "kn"))
  | ((with_reducible refine w_par2 ?_); simp only [List.set_cons_zero, List.set_cons_succ])
  | ((with_reducible refine w_name ?_); simp only [List.set_cons_zero, List.set_cons_succ]))
local macro_rules | `(tactic| walk_at "size") => `(tactic| first | (show _ ≤ sizeLine; decide) | (simp only [List.length_cons, List.length_nil]; decide))
local macro_rules | `(tactic| walk_at "mk") => `(tactic| ((with_reducible refine' w_made ?n ?_); (case n => walk_at "size"); intro _ _))
local macro_rules | `(tactic| walk_at "ev") => `(tactic| simp only [reduceCtorEq, V.int.injEq, V.bl.injEq, V.str.injEq, V.ref.injEq, List.append_nil, List.cons_append, List.nil_append, decide_true, decide_false, Bool.not_true, Bool.not_false])
local macro_rules | `(tactic| walk_at "go") => `(tactic| repeat (first | walk_at "fw" | walk_at "fwv" | walk_at "mk" | (dsimp only) | walk_at "ev"))
local macro_rules | `(tactic| walk_at "br") => `(tactic| first | refine w_iteN (fun _ => ?_) (fun _ => ?_) | refine w_iteD (fun _ => ?_) (fun _ => ?_) | refine w_ite (fun _ => ?_) (fun _ => ?_))
local macro_rules | `(tactic| walk_at "fork") => `(tactic| (first | refine w_iteN (fun hx => ?_) (fun hx => ?_) | refine w_iteD (fun hx => ?_) (fun hx => ?_) | refine w_ite (fun hx => ?_) (fun hx => ?_)) <;> first | (exact absurd hx (by decide +kernel)) | skip)
local macro_rules | `(tactic| walk_at "gr") => `(tactic| repeat' (first | exact Grow.refl _ | assumption | refine Grow.trans ?_ (Grow.new (by assumption))))

section
variable {P : Program} {w : World} {K : PySem.W.Frag} {mg : Str → Option Value} {base : Heap}
def QR : Str := ("_law_refused_right" : Str) ++ ".<locals>." ++ "<lambda>"
def spRefused (K : PySem.W.Frag) (p : Addr) : Sp := fun vs H Q _ => ∃ (c : Addr) (n : Nat), vs = [.ref c] ∧ Cloud K H c n ∧ n < 800000 ∧ LamX.Tabs [(p, QR)] H ∧ ∀ H', Q (.bl true) H'
def told (o : Option Str) : V := match o with
  | none => .non
  | some p => .str p
theorem told_scal (o : Option Str) : scal (told o) (told o) = true := by cases o <;> rfl
theorem heard_reck {C : Addr} {tl : XK → Hp → VK → Prop} {H4 : Hp} {Q : VK} {sg a b : V} (go : ∀ E Q', spReckoned K C [sg, a, b] H4 Q' E → tl E H4 Q') (k0 : Kn K H4 sg) (k1 : Kn K H4 a) (k2 : Kn K H4 b)
    (rest : ∀ H2, Grow H4 H2 → Q (told (badPart sg a b)) H2) : TTheard C tl H4 Q := by
  intro E' Q' h1 h2
  refine go E' Q' ⟨sg, a, b, rfl, k0, k1, k2, fun hb x i j _ _ _ => h1 _ _ ?_, fun p hp d nd => h2 d p _ upd_same fun H2 g => ?_⟩
  · have := rest H4 (Grow.refl _); rw [hb] at this; exact this
  · have := rest H2 ((Grow.new nd).trans g); rw [hp] at this; exact this
theorem heard_wrap {C : Addr} {tl : XK → Hp → VK → Prop} {H4 : Hp} {Q : VK} {v : V} (go : ∀ E Q', spWrapped K C [v] H4 Q' E → tl E H4 Q') (k0 : Kn K H4 v)
    (rest : ∀ H2, Grow H4 H2 → Q (told (if isInt v = true then none else some "number")) H2) : TTheard C tl H4 Q := by
  intro E' Q' h1 h2
  refine go E' Q' ⟨v, rfl, k0, fun n e => h1 _ _ ?_, fun hv d nd => h2 d "number" _ upd_same fun H2 g => ?_⟩
  · have := rest H4 (Grow.refl _); subst e; exact this
  · have := rest H2 ((Grow.new nd).trans g); rw [hv] at this; exact this
theorem due_eq {sg a b : V} (h : isSign sg = inV sg [.str "+", .str "rem", .str "=", .str "or"]) :
    (if inV sg [.str "+", .str "rem", .str "=", .str "or"] = true then (if isSh a = true then (if isSh b = true then V.non else .str "other") else .str "one") else .str "sign") = told (badPart sg a b) := by
  unfold badPart
  rw [← h]
  cases isSign sg <;> cases isSh a <;> cases isSh b <;> rfl
theorem due_no {sg a b : V} (h : isSign sg = false) : V.str "sign" = told (badPart sg a b) := by
  unfold badPart
  rw [h]; rfl
def four : List V := [.str "+", .str "rem", .str "=", .str "or"]
theorem ok__law_refused_right {f : Addr} {fd : FuncData} (T : TxtL P w K mg base) (F : Fun K "_law_refused_right" "_law_refused_right" s__law_refused_right f fd) (hcode : fd.code = .ref T.cR) : FnOk P w K mg base CX0 7 f fd ["_law_abacus_here"] (spRefused K T.pR) := by
  obtain ⟨g, gd, Fg, hmg, hbg⟩ := T.d__law_heard.ex
  obtain ⟨oc, od, kV, doc, pm, an, cdv, ct, osl, rfl, lk, hcd⟩ := Fg.ex
  refine fun_okC F hcode sc__law_refused_right (fun vs H Q E h => ?_) (fun A outer s H vs Q E hr h => ?_)
  · obtain ⟨c, n, rfl, _⟩ := h; rfl
  · obtain ⟨c, n, rfl, hc, hn, ht, k⟩ := h
    refine ⟨_, PSs.nox (pss_cons (ps_set (i := 1) sc__law_refused_right.nd rfl (Or.inl rfl) (pe_lst (pa_cons pe_str (pa_cons pe_str (pa_cons pe_str (pa_cons pe_str (pa_cons pe_str (pa_cons pe_str (pa_cons pe_str (pa_cons pe_str (pa_cons pe_non (pa_cons pe_int (pa_cons (pe_tup (pa_cons pe_str pa_nil)) (pa_cons (pe_lst (pa_cons pe_str pa_nil)) (pa_cons pe_str (pa_cons pe_dnewK (pa_cons pe_bl pa_nil)))))))))))))))))
 (pss_cons (ps_set (i := 2) sc__law_refused_right.nd rfl (Or.inl rfl) (pe_lst (pa_cons pe_non (pa_cons pe_bl (pa_cons pe_bl (pa_cons pe_str (pa_cons pe_int (pa_cons (pe_un un_neg pe_int) (pa_cons (pe_op op_pow pe_int pe_int) (pa_cons (pe_lst (pa_cons pe_int pa_nil)) (pa_cons (pe_tup pa_nil) (pa_cons pe_dnewK (pa_cons pe_int (pa_cons (pe_un un_neg pe_int) pa_nil))))))))))))))
 (pss_cons (ps_asg (pe_tup (pa_cons (pe_can (E := E0) (c__law_one_of T) hr (by decide) pass0 rfl (pa_cons (pv 0) (pa_cons (pv 1) pa_nil))) (pa_cons (pe_can (E := E0) (c__law_one_of T) hr (by decide) pass0 rfl (pa_cons (pv 0) (pa_cons (pv 2) pa_nil))) (pa_cons (pe_can (E := E0) (c__law_one_of T) hr (by decide) pass0 rfl (pa_cons (pv 0) (pa_cons (pv 2) pa_nil))) pa_nil)))) (pg_tup (n := 3) rfl (pgs_cons (pg_name (i := 8) sc__law_refused_right.nd rfl (Or.inr rfl)) (pgs_cons (pg_name (i := 6) sc__law_refused_right.nd rfl (Or.inr rfl)) (pgs_cons (pg_name (i := 7) sc__law_refused_right.nd rfl (Or.inr rfl)) pgs_nil)))))
 (pss_cons (ps_set (i := 3) sc__law_refused_right.nd rfl (Or.inl rfl) (pe_ifExp (pt_val (pe_can (E := E0) (c__law_is_short T) hr (by decide) pass0 rfl (pa_cons (pv 7) pa_nil))) pe_non pe_str))
 (pss_cons (ps_set (i := 3) sc__law_refused_right.nd rfl (Or.inl rfl) (pe_ifExp (pt_val (pe_can (E := E0) (c__law_is_short T) hr (by decide) pass0 rfl (pa_cons (pv 6) pa_nil))) (pv 3) pe_str))
 (pss_cons (ps_set (i := 3) sc__law_refused_right.nd rfl (Or.inl rfl) (pe_ifExp (PW.pt (pw_and (pt_val (pe_callB call_isA (by rfl) T.b_isinstance (by decide +kernel) (pa_cons (pv 8) (pa_cons (pe_bltn (v := .ty "str") (u := .type "str") rfl T.b_str (by decide +kernel) rfl) pa_nil)))) (pw_and1 (pt_cmpR op_in_seq (pv 8) (pe_tup (pa_cons pe_str (pa_cons pe_str (pa_cons pe_str (pa_cons pe_str pa_nil))))) (by rfl))))) (pv 3) pe_str))
 (pss_cons (ps_if (pt_cmpR op_ne (LamX.pe_lamcall (T := [(T.pR, QR)]) (TT := TTheard T.cBadNumber) (k := 4) rfl hmg Fg.kp lk hcd hbg sc__law_heard rfl (.inl rfl) (heard_gives (X := (cxOf CX0 P w K mg base N__law_refused_right "_law_refused_right" (defScope s__law_refused_right) f (.ref T.cR) A outer s H E).nox) T) T.tR rfl (List.mem_cons_self ..) (fun p hp _ => by rw [List.mem_singleton.mp hp]; rfl) (hr.mono (by decide)) (LamX.lamS_by (show LamX.lamSB (defScope s__law_refused_right) _ = true from by decide +kernel)) rfl (fun _ _ _ _ _ => rfl) (fun A outer s H E f c' hr' => pe_can (E := E) (c_reckoned T.toTxt) hr' (by decide) (passes_call (takes_of rfl rfl rfl rfl) (fun _ _ _ _ h => h)) rfl (pa_cons (pv 8) (pa_cons (pv 6) (pa_cons (pv 7) pa_nil))))) (pv 3) (nomark _))
 (pss_one (ps_ret pe_bl))
 pss_nil)
 (pss_cons (ps_set (i := 5) sc__law_refused_right.nd rfl (Or.inr rfl) (pe_can (E := E0) (c__law_one_of T) hr (by decide) pass0 rfl (pa_cons (pv 0) (pa_cons (pe_lst (pa_cons pe_non (pa_cons pe_bl (pa_cons pe_bl (pa_cons pe_str (pa_cons (pe_lst pa_nil) (pa_cons (pe_tup (pa_cons pe_int pa_nil)) (pa_cons pe_dnewK (pa_cons pe_str (pa_cons (pe_op op_pow pe_int pe_int) (pa_cons (pe_un un_neg pe_int) pa_nil))))))))))) pa_nil))))
 (pss_cons (ps_set (i := 4) sc__law_refused_right.nd rfl (Or.inl rfl) (pe_and (pe_callB call_isA (by rfl) T.b_isinstance (by decide +kernel) (pa_cons (pv 5) (pa_cons (pe_bltn (v := .ty "int") (u := .type "int") rfl T.b_int (by decide +kernel) rfl) pa_nil))) (pe_one (pe_not (pe_callB call_isA (by rfl) T.b_isinstance (by decide +kernel) (pa_cons (pv 5) (pa_cons (pe_bltn (v := .ty "bool") (u := .type "bool") rfl T.b_bool (by decide +kernel) rfl) pa_nil)))))))
 (pss_one (ps_ret (pe_cmpR op_eq (LamX.pe_lamcall (T := [(T.pR, QR)]) (TT := TTheard T.cBadNumber) (k := 4) rfl hmg Fg.kp lk hcd hbg sc__law_heard rfl (.inl rfl) (heard_gives (X := (cxOf CX0 P w K mg base N__law_refused_right "_law_refused_right" (defScope s__law_refused_right) f (.ref T.cR) A outer s H E).nox) T) T.tR rfl (List.mem_cons_self ..) (fun p hp _ => by rw [List.mem_singleton.mp hp]; rfl) (hr.mono (by decide)) (LamX.lamS_by (show LamX.lamSB (defScope s__law_refused_right) _ = true from by decide +kernel)) rfl (fun _ _ _ _ _ => rfl) (fun A outer s H E f c' hr' => pe_can (E := E) (c_wrapped T.toTxt) hr' (by decide) (passes_call (takes_of rfl rfl rfl rfl) (fun _ _ _ _ h => h)) rfl (pa_cons (pv 5) pa_nil))) (pe_ifExp (pt_val (pv 4)) pe_non pe_str) (nomark _))))))))))))), ?_⟩
    rw [show L2.start N__law_refused_right [(V.ref c)] = [some (V.ref c), none, none, none, none, none, none, none, none] from rfl]; try dsimp only [cxOf]
    obtain ⟨oc0, hcc⟩ := hc.some
    walk_at "go"
    rename_i p7 e7 p6 e6 p5 e5 p4 e4 p3 e3 p2 e2 p1 e1 p0 e0
    have n7 : p7 ≠ c := Ne.symm (ne_of_none (o := oc0) (by walk_at "hp") e7)
    have n6 : p6 ≠ c := Ne.symm (ne_of_none (o := oc0) (by walk_at "hp") e6)
    have n5 : p5 ≠ c := Ne.symm (ne_of_none (o := oc0) (by walk_at "hp") e5)
    have n4 : p4 ≠ c := Ne.symm (ne_of_none (o := oc0) (by walk_at "hp") e4)
    have n3 : p3 ≠ c := Ne.symm (ne_of_none (o := oc0) (by walk_at "hp") e3)
    have n2 : p2 ≠ c := Ne.symm (ne_of_none (o := oc0) (by walk_at "hp") e2)
    have n1 : p1 ≠ c := Ne.symm (ne_of_none (o := oc0) (by walk_at "hp") e1)
    have n0 : p0 ≠ c := Ne.symm (ne_of_none (o := oc0) (by walk_at "hp") e0)
    generalize hH : upd _ p0 _ = H8
    have g8 : Grow H H8 := by rw [← hH]; walk_at "gr"
    have f7 : H8 p7 = some (.tup [.str "+"]) := by rw [← hH]; walk_at "hp"
    have f6 : H8 p6 = some (.lst [.str "+"]) := by rw [← hH]; walk_at "hp"
    have f5 : H8 p5 = some (.dK []) := by rw [← hH]; walk_at "hp"
    have f4 : ∃ L1, H8 p4 = some (.lst L1) ∧ L1 = [.str "+", .str "rem", .str "=", .str "or", .str "/", .str "", .str "++", .str "AND", .non, .int 0, .ref p7, .ref p6, .str "+ ", .ref p5, .bl true] := ⟨_, by rw [← hH]; walk_at "hp", rfl⟩
    have f3 : H8 p3 = some (.lst [.int 1]) := by rw [← hH]; walk_at "hp"
    have f2 : H8 p2 = some (.tup []) := by rw [← hH]; walk_at "hp"
    have f1 : H8 p1 = some (.dK []) := by rw [← hH]; walk_at "hp"
    have f0 : ∃ L2, H8 p0 = some (.lst L2) ∧ L2 = [.non, .bl true, .bl false, .str "1", .int 2147483648, .int (-2147483649), .int (10 ^ Int.toNat 30), .ref p3, .ref p2, .ref p1, .int 5, .int (-2147483648)] := ⟨_, by rw [← hH]; walk_at "hp", rfl⟩
    clear hH
    obtain ⟨L1, f4, d1⟩ := f4
    obtain ⟨L2, f0, d2⟩ := f0
    have m1 : ∀ x ∈ L1, (Kn K H8 x ∧ x ≠ .ref c) ∧ isSign x = (isStr x && inV x four) := by
      intro x hx
      rw [d1] at hx
      simp only [List.mem_cons, List.not_mem_nil, or_false] at hx
      rcases hx with rfl | rfl | rfl | rfl | rfl | rfl | rfl | rfl | rfl | rfl | rfl | rfl | rfl | rfl | rfl
      all_goals first
        | exact ⟨⟨trivial, nofun⟩, by decide +kernel⟩
        | exact ⟨⟨kn_tup f7, fun z => n7 (V.ref.inj z)⟩, rfl⟩
        | exact ⟨⟨kn_lst f6, fun z => n6 (V.ref.inj z)⟩, rfl⟩
        | exact ⟨⟨kn_dK f5, fun z => n5 (V.ref.inj z)⟩, rfl⟩
    have m2 : ∀ x ∈ L2, Kn K H8 x ∧ x ≠ .ref c := by
      intro x hx
      rw [d2] at hx
      simp only [List.mem_cons, List.not_mem_nil, or_false] at hx
      rcases hx with rfl | rfl | rfl | rfl | rfl | rfl | rfl | rfl | rfl | rfl | rfl | rfl
      all_goals first
        | exact ⟨trivial, nofun⟩
        | exact ⟨kn_lst f3, fun z => n3 (V.ref.inj z)⟩
        | exact ⟨kn_tup f2, fun z => n2 (V.ref.inj z)⟩
        | exact ⟨kn_dK f1, fun z => n1 (V.ref.inj z)⟩
    have l1 : 0 < L1.length ∧ L1.length < 1000000 := by rw [d1]; exact ⟨by simp, by simp⟩
    have l2 : 0 < L2.length ∧ L2.length < 1000000 := by rw [d2]; exact ⟨by simp, by simp⟩
    have hc8 := hc.grow g8
    have ht8 := ht.ext g8
    clear d1 d2 f7 f6 f5 f3 f2 f1
    refine ⟨c, n, p4, L1, rfl, hc8, by omega, SqL.of f4, n4, l1.1, l1.2, fun sg k1 H9 hsg hk1 hc9 he9 => ?_⟩
    obtain ⟨⟨q1, q2⟩, q3⟩ := m1 sg hsg
    walk_at "go"
    refine ⟨c, k1, p0, L2, rfl, hc9, by omega, he9.sqL n0 (SqL.of f0), n0, l2.1, l2.2, fun va k2 H10 ha hk2 hc10 he10 => ?_⟩
    walk_at "go"
    refine ⟨c, k2, p0, L2, rfl, hc10, by omega, he10.sqL n0 (he9.sqL n0 (SqL.of f0)), n0, l2.1, l2.2, fun vb k3 H11 hb hk3 hc11 he11 => ?_⟩
    have x11 : Ext c H8 H11 := (he9.trans he10).trans he11
    have s1 := Kn.ext x11 q2 q1
    have s2 := Kn.ext x11 (m2 va ha).2 (m2 va ha).1
    have s3 := Kn.ext x11 (m2 vb hb).2 (m2 vb hb).1
    have t11 := tabs_ext ht8 hc8 x11
    clear q1 q2 m1 m2 hc9 hc10 he9 he10 he11 f4 f0 hsg ha hb ht8 hc8 x11
    walk_at "go"
    rename_i pt et
    refine ⟨vb, rfl, s3.grow (Grow.new et), ?_⟩
    walk_at "go"
    refine w_ifCC ?_
    walk_at "go"
    refine ⟨va, rfl, s2.grow (Grow.new et), ?_⟩
    walk_at "go"
    refine w_ifVC rfl ?_
    walk_at "go"
    refine w_isStrA (s1.grow (Grow.new et)) ?_
    have gt : Grow H11 (upd H11 pt (.tup [sg, va, vb])) := Grow.new et
    generalize upd H11 pt (.tup [sg, va, vb]) = H12 at gt ⊢
    have hc12 := hc11.grow gt
    have t12 := t11.ext gt
    replace s1 := s1.grow gt
    replace s2 := s2.grow gt
    replace s3 := s3.grow gt
    clear et hc11 t11
    cases hS : isStr sg
    case' false =>
      walk_at "go"
      rw [due_no (sg := sg) (a := va) (b := vb) (by rw [q3, hS]; rfl)]
      refine ⟨t12, fun H13 eN t13 => ?_⟩
      replace s1 := ExtN.kn eN s1
      replace s2 := ExtN.kn eN s2
      replace s3 := ExtN.kn eN s3
      have hc13 := ExtN.cloud eN hc12
      clear eN
    case' true =>
      have q4 : isSign sg = inV sg [.str "+", .str "rem", .str "=", .str "or"] := by rw [q3, hS]; rfl
      have fl : flatV sg = true := by cases sg <;> first | rfl | cases hS
      walk_at "go"
      rename_i pf ef
      refine w_inX (SqT.of upd_same) fl rfl ?_
      walk_at "go"
      refine w_ifVC rfl ?_
      walk_at "go"
      rw [due_eq (a := va) (b := vb) q4]
      refine ⟨t12.ext (Grow.new ef), fun H13 eN t13 => ?_⟩
      replace s1 := ExtN.kn eN (s1.grow (Grow.new ef))
      replace s2 := ExtN.kn eN (s2.grow (Grow.new ef))
      replace s3 := ExtN.kn eN (s3.grow (Grow.new ef))
      have hc13 := ExtN.cloud eN (hc12.grow (Grow.new ef))
      clear eN
    all_goals
      refine heard_reck (sg := sg) (a := va) (b := vb) (fun E Q' hq => ?_) s1 s2 s3 (fun H14 g14 => ?_)
      · walk_at "go"; exact hq
      have hc14 := hc13.grow g14
      have t14 := t13.ext g14
      obtain ⟨oc4, hcc4⟩ := hc14.some
      walk_at "go"
      refine w_neSelf (told_scal _) ?_
      walk_at "go"
      rename_i r3 u3 r2 u2 r1 u1 r0 u0
      have v3 : r3 ≠ c := Ne.symm (ne_of_none (o := oc4) (by walk_at "hp") u3)
      have v2 : r2 ≠ c := Ne.symm (ne_of_none (o := oc4) (by walk_at "hp") u2)
      have v1 : r1 ≠ c := Ne.symm (ne_of_none (o := oc4) (by walk_at "hp") u1)
      have v0 : r0 ≠ c := Ne.symm (ne_of_none (o := oc4) (by walk_at "hp") u0)
      generalize hH : upd _ r0 _ = H15
      have g15 : Grow H14 H15 := by rw [← hH]; walk_at "gr"
      have w3 : H15 r3 = some (.lst []) := by rw [← hH]; walk_at "hp"
      have w2 : H15 r2 = some (.tup [.int 1]) := by rw [← hH]; walk_at "hp"
      have w1 : H15 r1 = some (.dK []) := by rw [← hH]; walk_at "hp"
      have w0 : ∃ L3, H15 r0 = some (.lst L3) ∧ L3 = [.non, .bl true, .bl false, .str "7", .ref r3, .ref r2, .ref r1, .str "", .int (10 ^ Int.toNat 30), .int (-5)] := ⟨_, by rw [← hH]; walk_at "hp", rfl⟩
      clear hH
      obtain ⟨L3, w0, d3⟩ := w0
      have m3 : ∀ x ∈ L3, Kn K H15 x ∧ x ≠ .ref c := by
        intro x hx
        rw [d3] at hx
        simp only [List.mem_cons, List.not_mem_nil, or_false] at hx
        rcases hx with rfl | rfl | rfl | rfl | rfl | rfl | rfl | rfl | rfl | rfl
        all_goals first
          | exact ⟨trivial, nofun⟩
          | exact ⟨kn_lst w3, fun z => v3 (V.ref.inj z)⟩
          | exact ⟨kn_tup w2, fun z => v2 (V.ref.inj z)⟩
          | exact ⟨kn_dK w1, fun z => v1 (V.ref.inj z)⟩
      have l3 : 0 < L3.length ∧ L3.length < 1000000 := by rw [d3]; exact ⟨by simp, by simp⟩
      have hc15 := hc14.grow g15
      have t15 := t14.ext g15
      refine ⟨c, k3, r0, L3, rfl, hc15, by omega, SqL.of w0, v0, l3.1, l3.2, fun od k4 H16 hod hk4 hc16 he16 => ?_⟩
      have sd := Kn.ext he16 (m3 od hod).2 (m3 od hod).1
      have t16 := tabs_ext t15 hc15 he16
      walk_at "go"
      cases hI : isIntB od
      case' false =>
        have hb : isInt od = false := by cases od <;> first | rfl | cases hI
        walk_at "go"
      case' true =>
        cases hB : isBl od
        case' false =>
          have hb : isInt od = true := by cases od <;> first | rfl | (cases hB; done) | (cases hI; done)
          walk_at "go"
        case' true =>
          have hb : isInt od = false := by cases od <;> first | rfl | (cases hB; done)
          walk_at "go"
      all_goals
        refine ⟨t16, fun H17 eN t17 => heard_wrap (v := od) (fun E Q' hq => ?_) (ExtN.kn eN sd) (fun H18 g18 => ?_)⟩
        · walk_at "go"; exact hq
        rw [hb]
        simp only [Bool.false_eq_true, reduceIte, told]
        walk_at "go"
        try
          rw [hB]
          walk_at "go"
        exact k _
theorem c__law_refused_right (T : TxtL P w K mg base) : Can P w K mg base CX0 7 "_law_refused_right" ["_law_abacus_here"] (spRefused K T.pR) := T.d__law_refused_right.can fun f fd F e => ok__law_refused_right T F e
end
end K02

set_option maxRecDepth 100000
set_option maxHeartbeats 4000000
namespace K02
open PySem L2 FW PyProof.Rows
local macro_rules | `(tactic| walk_at "side") => `(tactic| first
  | omega
  | exact ⟨by omega, by omega⟩
  | exact Or.inl ⟨by omega, by omega⟩
  | exact Or.inr ⟨by omega, by omega⟩
  | exact ⟨by omega, by omega, by omega⟩
  | exact ⟨by decide, by decide, by decide⟩
  | (refine mix2 ?_ ?_ ?_ ?_ ?_ ?_ ?_ ?_ ?_ ?_ <;> omega))
local macro_rules | `(tactic| walk_at "hp") => `(tactic| first
  | assumption | exact upd_same
  | (refine' rd_new ?n ?q; (case n => assumption); (case q => walk_at "hp"))
  | (refine' rd_ne ?n ?q; (case n => first | assumption | (apply Ne.symm; assumption)); (case q => walk_at "hp")))
local macro_rules | `(tactic| walk_at "sq") => `(tactic| first
  | assumption
  | (with_reducible apply SqL.of; walk_at "hp") | (with_reducible apply SqT.of; walk_at "hp")
  | ((with_reducible refine' sqL_new ?n ?q); (case n => assumption); (case q => walk_at "sq"))
  | ((with_reducible refine' sqT_new ?n ?q); (case n => assumption); (case q => walk_at "sq"))
  | ((with_reducible refine' sqL_ne ?n ?q); (case n => first | assumption | (apply Ne.symm; assumption)); (case q => walk_at "sq"))
  | ((with_reducible refine' sqT_ne ?n ?q); (case n => first | assumption | (apply Ne.symm; assumption)); (case q => walk_at "sq"))
  | ((with_reducible refine' Ext.sqL ?e ?n ?q); (case e => assumption); (case n => first | assumption | (apply Ne.symm; assumption)); (case q => walk_at "sq"))
  | ((with_reducible refine' Ext.sqT ?e ?n ?q); (case e => assumption); (case n => first | assumption | (apply Ne.symm; assumption)); (case q => walk_at "sq"))
  | ((with_reducible refine' Grow.sqL ?e ?q); (case e => assumption); (case q => walk_at "sq"))
  | ((with_reducible refine' Grow.sqT ?e ?q); (case e => assumption); (case q => walk_at "sq")))
local macro_rules | `(tactic| walk_at "sqs") => `(tactic| first | assumption | (exact ‹∀ H, SqT _ H _ _› _) | (apply SqT.of; walk_at "hp"))
local macro_rules | `(tactic| walk_at "kn") => `(tactic| first | assumption | exact True.intro)
local macro_rules | `(tactic| walk_at "fw") => `(tactic| with_reducible first
  | refine w_seq ?_ | refine w_asg ?_ | refine w_ret ?_ | refine w_drop ?_ | refine w_next ?_ | refine w_c ?_ | refine w_op ?_ | refine w_un ?_
  | refine w_test ?_ | refine w_B ?_ | refine w_bl ?_ | refine w_not ?_ | refine w_and ?_ | refine w_or ?_ | refine w_andV ?_ | refine w_orV ?_ | refine w_notV ?_
  | refine w_if ?_ | refine w_ifE ?_ | refine w_yes ?_ | refine w_no ?_ | refine w_rfl ?_ | refine w_tr ?_ | refine w_nyes ?_ | refine w_nno ?_ | refine w_T ?_ | refine w_F ?_ | refine w_nil ?_ | refine w_cons ?_ | refine w_cb ?_ | refine w_call ?_ | refine w_lst ?_ | refine w_tup ?_
  | refine w_I0 ?_ | refine w_U ?_ | refine w_int ?_ | refine w_intB ?_ | refine w_abs ?_ | refine w_raise1 ?_ | refine w_sub ?_ | refine w_gcons ?_ | refine w_gnil ?_ | refine w_par ?_ | refine w_chain ?_ | refine w_callNB ?_)
local macro_rules | `(tactic| walk_at "fwv") => `(tactic| first
  | ((with_reducible refine' w_var ?e ?_); (case e => rfl))
  | ((with_reducible refine' w_I ?e ?_); (case e => walk_at "side"))
  | ((with_reducible refine' w_ixL ?s ?e ?_); (case s => walk_at "sq"); (case e => rfl))
  | ((with_reducible refine' w_lenL ?s ?_); (case s => walk_at "sq"); try simp only [List.length_map, List.length_cons, List.length_nil])
  | ((with_reducible refine' w_setL ?e ?f ?_); (case e => walk_at "hp"); (case f => rfl); try simp only [Int.reduceToNat, List.set_cons_zero, List.set_cons_succ, upd_upd])
  | ((with_reducible refine' w_gtup ?s ?l ?_); (case s => walk_at "sq"); (case l => rfl))
  | ((with_reducible refine' w_eq ?e ?_); (case e => rfl))
  | ((with_reducible refine' w_ne ?e ?_); (case e => rfl))
  | ((with_reducible refine' w_mk1 ?o ?n ?_); (case o => apply Exn.oex; assumption); (case n => apply Exn.no; assumption); intro _ _)
  | ((with_reducible refine w_dnew ?_); intro _ _)
  | ((with_reducible refine' w_inT (ss := ?ss) ?s ?_); (case s => walk_at "sqs"))
  | ((with_reducible refine' w_notInT (ss := ?ss) ?s ?_); (case s => walk_at "sqs"))
  | ((with_reducible refine' w_inX ?s ?f ?g ?_); (case s => walk_at "sqs"); (case f => rfl); (case g => rfl))
  | ((with_reducible refine' w_isIntA ?k ?_); (case k => walk_at "kn"))
  | ((with_reducible refine' w_isBlA ?k ?_); (case k => walk_at "kn"))
  | ((with_reducible refine' w_isStrA ?k ?_); (case k => walk_at "kn"))
  | ((with_reducible refine w_par2 ?_); simp only [List.set_cons_zero, List.set_cons_succ])
  | ((with_reducible refine w_name ?_); simp only [List.set_cons_zero, List.set_cons_succ]))
local macro_rules | `(tactic| walk_at "size") => `(tactic| first | (show _ ≤ sizeLine; decide) | (simp only [List.length_cons, List.length_nil]; decide))
local macro_rules | `(tactic| walk_at "mk") => `(tactic| ((with_reducible refine' w_made ?n ?_); (case n => walk_at "size"); intro _ _))
local macro_rules | `(tactic| walk_at "ev") => `(tactic| simp only [reduceCtorEq, V.int.injEq, V.bl.injEq, V.str.injEq, V.ref.injEq, List.append_nil, List.cons_append, List.nil_append, decide_true, decide_false, Bool.not_true, Bool.not_false])
local macro_rules | `(tactic| walk_at "go") => `(tactic| repeat (first | walk_at "fw" | walk_at "fwv" | walk_at "mk" | (dsimp only) | walk_at "ev"))
local macro_rules | `(tactic| walk_at "br") => `(tactic| first | refine w_iteN (fun _ => ?_) (fun _ => ?_) | refine w_iteD (fun _ => ?_) (fun _ => ?_) | refine w_ite (fun _ => ?_) (fun _ => ?_))
local macro_rules | `(tactic| walk_at "fork") => `(tactic| (first | refine w_iteN (fun hx => ?_) (fun hx => ?_) | refine w_iteD (fun hx => ?_) (fun hx => ?_) | refine w_ite (fun hx => ?_) (fun hx => ?_)) <;> first | (exact absurd hx (by decide +kernel)) | skip)
local macro_rules | `(tactic| walk_at "gr") => `(tactic| repeat' (first | exact Grow.refl _ | assumption | refine Grow.trans ?_ (Grow.new (by assumption))))

section
variable {P : Program} {w : World} {K : PySem.W.Frag} {mg : Str → Option Value} {base : Heap}
theorem rev3 {zs : List V} {ws : List Value} (h : Vals zs ws) : Vals zs.reverse ws.reverse := by
  induction h with
  | nil => exact .nil
  | cons h1 h2 ih => rw [List.reverse_cons, List.reverse_cons]; exact ih.append (.cons h1 .nil)
theorem signs_ok : (PyData.tuple (signs.map PyData.str)).showable = true ∧ (PyData.tuple (signs.map PyData.str)).hasDict = false ∧ (PyData.tuple (signs.map PyData.str)).depth ≤ 60 ∧ (PyData.tuple (signs.map PyData.str)).shown.length ≤ sizeLine := by decide +kernel
theorem w_reckoned_other_one_sign (T : TxtL P w K mg base) : CanW P w K mg base (L2.CX P w) 4 "reckoned" ["other", "one", "sign"] (fun _ zs => zs.reverse) (spReckoned K T.cBadNumber) :=
  canW_of (fun l => l.reverse) T.d_reckoned (fun f fd F => ok_reckoned T.toTxt F) rev3 (fun kV doc pm an cdv ct ws hl => by match ws, hl with | [a, b, c], _ => rfl)
theorem w_wrapped_number (T : TxtL P w K mg base) : CanW P w K mg base (L2.CX P w) 3 "wrapped" ["number"] (fun _ zs => zs) (spWrapped K T.cBadNumber) :=
  canW_of (fun l => l) T.d_wrapped (fun f fd F => ok_wrapped T.toTxt F) (fun h => h) (fun kV doc pm an cdv ct ws hl => by match ws, hl with | [a], _ => rfl)
def acts (a b : Int) : List Int := signs.map fun s => actOf s a b
theorem act_sh {s : Str} {a b : Int} (hs : s ∈ signs) (ha : Sh a) (hb : Sh b) : Sh (actOf s a b) := by
  unfold signs at hs
  simp only [List.mem_cons, List.not_mem_nil, or_false] at hs
  rcases hs with rfl | rfl | rfl | rfl | rfl | rfl | rfl | rfl | rfl
  · rw [act1]; exact wrap_sh _
  · rw [act2]; exact wrap_sh _
  · rw [act3]; exact wrap_sh _
  · rw [act4]; split
    · exact ⟨by decide, by decide⟩
    · exact wrap_sh _
  · rw [act5]; split
    · exact ⟨by decide, by decide⟩
    · unfold Sh at *
      rename_i nb
      by_cases h : 0 < b
      · have h1 := Int.fmod_nonneg_of_pos a h
        have h2 := Int.fmod_lt_of_pos a h
        omega
      · have h1 := Int.fmod_nonneg_of_pos (-a) (b := -b) (by omega)
        have h2 := Int.fmod_lt_of_pos (-a) (b := -b) (by omega)
        rw [Int.neg_fmod_neg] at h1 h2
        omega
  · rw [act6]; split <;> exact ⟨by decide, by decide⟩
  · rw [act7]; split <;> exact ⟨by decide, by decide⟩
  · rw [act8]; split <;> exact ⟨by decide, by decide⟩
  · rw [act9]; split <;> exact ⟨by decide, by decide⟩
theorem sh_log {a : Int} (h : Sh a) : a.natAbs.log2 < 1920 := Nat.lt_trans (log2_lt (k := 33) (by unfold Sh at h; omega) (by decide)) (by decide)
theorem acts_log {a b : Int} (ha : Sh a) (hb : Sh b) : ∀ n ∈ acts a b, n.natAbs.log2 < 1920 := by
  intro n hn
  obtain ⟨s, hs, rfl⟩ := List.mem_map.mp hn
  exact sh_log (act_sh hs ha hb)
theorem good_part {s : Str} {a b : Int} (hs : s ∈ signs) (ha : Sh a) (hb : Sh b) : badPart (.str s) (.int a) (.int b) = none := by
  have h1 : isSign (.str s) = true := by show signs.contains s = true; simpa using hs
  unfold badPart
  rw [h1, isSh_iff.mpr ha, isSh_iff.mpr hb]; rfl
theorem w_reck {K : PySem.W.Frag} {C : Addr} {s : Str} {a b : Int} {H : Hp} {Q : VK} {E : XK} (hs : s ∈ signs) (ha : Sh a) (hb : Sh b) (q : Q (.int (actOf s a b)) H) : spReckoned K C [.str s, .int a, .int b] H Q E :=
  ⟨.str s, .int a, .int b, rfl, trivial, trivial, trivial, fun _ x i j e1 e2 e3 => by cases e1; cases e2; cases e3; exact q, fun p hp => by rw [good_part hs ha hb] at hp; cases hp⟩
theorem w_wrap {K : PySem.W.Frag} {C : Addr} {n : Int} {H : Hp} {Q : VK} {E : XK} (q : Q (.int (wrap n)) H) : spWrapped K C [.int n] H Q E :=
  ⟨.int n, rfl, trivial, fun m e => by cases e; exact q, fun h => by cases h⟩
theorem w_due {s : Str} {a b : Int} {H : Hp} {Q : VK} {E : XK} (hs : s ∈ signs) (ha : Sh a) (hb : Sh b) (q : ∀ H', Grow H H' → Q (.int (actOf s a b)) H') : spDue [.str s, .int a, .int b] H Q E := ⟨s, a, b, rfl, hs, ha, hb, q⟩
theorem map_at {α β γ : Type} {f : α → β} {g : α → γ} {l : List α} {j : Nat} {v : β} {u : γ} (h1 : (l.map f)[j]? = some v) (h2 : (l.map g)[j]? = some u) : ∃ s ∈ l, v = f s ∧ u = g s := by
  rw [List.getElem?_map] at h1 h2
  cases e : l[j]? with
  | none => rw [e] at h1; cases h1
  | some s =>
    rw [e] at h1 h2
    exact ⟨s, List.mem_of_getElem? e, (Option.some.inj h1).symm, (Option.some.inj h2).symm⟩
theorem acts_map (a b : Int) : (acts a b).map V.int = signs.map fun s => V.int (actOf s a b) := by unfold acts; rw [List.map_map]; rfl
theorem wrap_mul (x b r : Int) : wrap (wrap x * b + r) = wrap (x * b + r) := by
  obtain ⟨t, ht⟩ : ∃ t, wrap x = x + 4294967296 * t := ⟨-((x + 2147483648) / 4294967296), by unfold wrap; omega⟩
  rw [ht, Int.add_mul, Int.mul_assoc]
  unfold wrap
  omega
theorem back {a b : Int} (ha : Sh a) (nb : ¬ b = 0) : wrap (actOf "div" a b * b + actOf "rem" a b) = a := by
  rw [act4, act5, if_neg nb, if_neg nb, wrap_mul, Int.mul_comm, Int.mul_fdiv_add_fmod]
  exact wrap_of ha
theorem far_eq {a r m : Int} (ha : Sh a) : wrap (a + 4294967296 * r * m) = a := by
  rw [Int.mul_assoc]
  have := wrap_of ha
  unfold wrap at this ⊢
  omega
theorem far_more {a b r m : Int} : wrap (a + 4294967296 * r * m + b) = actOf "+" a b := by
  rw [act1, Int.mul_assoc]
  unfold wrap
  omega
def spLaw (K : PySem.W.Frag) (p : Addr) : Sp := fun vs H Q _ => ∃ (a : Addr) (ns : List Int), vs = [.ref a] ∧ SqL K H a (ns.map V.int) ∧ ns.length ≤ 63 ∧ LamX.Tabs [(p, QR)] H ∧ ∀ H', Q (.bl true) H'
theorem ok_law {f : Addr} {fd : FuncData} (T : TxtL P w K mg base) (F : Fun K "law" "law" s_law f fd) : FnG P w K mg base CX0 9 f fd ["_law_script"] (spLaw K T.pR) := by
  refine fun_okG F sc_law (fun vs H Q E h => ?_) (fun cdv A outer s H vs Q E hG hr oc od kV doc pm an ct osl lk h => ?_)
  · obtain ⟨a, ns, rfl, _⟩ := h; rfl
  · obtain ⟨a, ns, rfl, sq, hn, ht, k⟩ := h
    refine ⟨_, PSs.nox (pss_cons (ps_set (i := 1) sc_law.nd rfl (Or.inl rfl) (pe_can (E := E0) (c__law_abacus T) hr (by decide) pass0 rfl (pa_cons (pv 0) pa_nil)))
 (pss_cons (ps_if (pt_cmpR op_ne (pe_callB (call_show hG hr.units) (by rfl) T.b_repr (by decide +kernel) (pa_cons (pe_glob (v := .ref T.aS) rfl T.g_SIGNS rfl) pa_nil)) (pe_callB (call_show hG hr.units) (by rfl) T.b_repr (by decide +kernel) (pa_cons (pe_tup (pa_cons pe_str (pa_cons pe_str (pa_cons pe_str (pa_cons pe_str (pa_cons pe_str (pa_cons pe_str (pa_cons pe_str (pa_cons pe_str (pa_cons pe_str pa_nil)))))))))) pa_nil)) (nomark _))
 (pss_one (ps_ret pe_bl))
 pss_nil)
 (pss_cons (ps_for PassesOwn.never rfl (pi_range1 (by rfl) T.b_range (pa_cons pe_int pa_nil)) (pg_name (i := 2) sc_law.nd rfl (Or.inl rfl))
 (pss_cons (ps_asg (pe_tup (pa_cons (pe_can (E := E0) (c__law_short T) hr (by decide) pass0 rfl (pa_cons (pv 1) pa_nil)) (pa_cons (pe_can (E := E0) (c__law_short T) hr (by decide) pass0 rfl (pa_cons (pv 1) pa_nil)) pa_nil))) (pg_tup (n := 2) rfl (pgs_cons (pg_name (i := 3) sc_law.nd rfl (Or.inr rfl)) (pgs_cons (pg_name (i := 4) sc_law.nd rfl (Or.inr rfl)) pgs_nil))))
 (pss_cons (ps_set (i := 4) sc_law.nd rfl (Or.inr rfl) (pe_can (E := E0) (c__law_one_of T) hr (by decide) pass0 rfl (pa_cons (pv 1) (pa_cons (pe_lst (pa_cons (pv 4) (pa_cons (pv 4) (pa_cons (pv 3) (pa_cons (pe_ifExp (pt_cmpR op_gt (pv 3) (pe_un un_neg pe_int) (nomark _)) (pe_un un_neg (pv 3)) (pv 3)) pa_nil))))) pa_nil))))
 (pss_cons (ps_setLc1 (x := "_law_sign") (k := 7) (i := 5) (g := gName 7) (tt := tYes) rfl sc_law.nd rfl rfl (sw_true rfl rfl rfl (by decide +kernel)) (pi_tup (pe_glob (v := .ref T.aS) rfl T.g_SIGNS rfl)) (blkOk_by (N := N_law) (sc := defScope s_law) (by decide +kernel)) (fun _ _ _ _ _ => pg_name (i := 7) sc_law.nd rfl (Or.inl rfl)) (fun _ _ _ _ _ => pts_nil) (fun _ _ _ _ _ => (pe_can (E := E0) (c_reckoned T.toTxt) hr (by decide) passL rfl (pa_cons (pv 7) (pa_cons (pv 3) (pa_cons (pv 4) pa_nil))))))
 (pss_cons (ps_if (pt_cmpR op_ne (pe_callB (call_show hG hr.units) (by rfl) T.b_repr (by decide +kernel) (pa_cons (pv 5) pa_nil)) (pe_callB (call_show hG hr.units) (by rfl) T.b_repr (by decide +kernel) (pa_cons (pe_lc1 (x := "_law_sign") (i := 7) (g := gName 7) (tt := tYes) rfl sc_law.nd (pi_tup (pe_glob (v := .ref T.aS) rfl T.g_SIGNS rfl)) (blkOk_by (N := N_law) (sc := defScope s_law) (by decide +kernel)) (fun _ _ _ _ _ => pg_name (i := 7) sc_law.nd rfl (Or.inl rfl)) (fun _ _ _ _ _ => pts_nil) (fun _ _ _ _ _ => (pe_can (E := E0) (c__law_due T) hr (by decide) pass0 rfl (pa_cons (pv 7) (pa_cons (pv 3) (pa_cons (pv 4) pa_nil)))))) pa_nil)) (nomark _))
 (pss_one (ps_ret pe_bl))
 pss_nil)
 (pss_cons (ps_if (PW.pt (pw_and (pt_cmpR op_ne (pv 4) pe_int (nomark _)) (pw_and1 (pt_cmpR op_ne (pe_can (E := E0) (c__law_cut T) hr (by decide) pass0 rfl (pa_cons (pe_op op_add (pe_op op_mul (pe_ix ix_list (pv 5) pe_int (fun _ _ => rfl)) (pv 4)) (pe_ix ix_list (pv 5) pe_int (fun _ _ => rfl))) pa_nil)) (pv 3) (nomark _)))))
 (pss_one (ps_ret pe_bl))
 pss_nil)
 (pss_cons (ps_if (pt_cmpR op_ne (pe_callB (call_show hG hr.units) (by rfl) T.b_repr (by decide +kernel) (pa_cons (pe_canW (E := E0) (w_reckoned_other_one_sign T) hr (by decide) passL rfl (pk_cons (pv 3) (pk_cons (pv 4) (pk_cons pe_str pk_nil)))) pa_nil)) (pe_callB (call_show hG hr.units) (by rfl) T.b_repr (by decide +kernel) (pa_cons (pe_can (E := E0) (c__law_due T) hr (by decide) pass0 rfl (pa_cons pe_str (pa_cons (pv 4) (pa_cons (pv 3) pa_nil)))) pa_nil)) (nomark _))
 (pss_one (ps_ret pe_bl))
 pss_nil)
 (pss_cons (ps_set (i := 6) sc_law.nd rfl (Or.inl rfl) (pe_op op_add (pv 3) (pe_op op_mul (pe_op op_mul pe_int (pe_op op_sub (pe_can (E := E0) (c__law_bead T) hr (by decide) pass0 rfl (pa_cons (pv 1) (pa_cons pe_int pa_nil))) pe_int)) (pe_can (E := E0) (c__law_one_of T) hr (by decide) pass0 rfl (pa_cons (pv 1) (pa_cons (pe_lst (pa_cons pe_int (pa_cons pe_int (pa_cons (pe_op op_pow pe_int pe_int) pa_nil)))) pa_nil))))))
 (pss_one (ps_if (PW.pt (pw_or (pt_cmpR op_ne (pe_callB (call_show hG hr.units) (by rfl) T.b_repr (by decide +kernel) (pa_cons (pe_lst (pa_cons (pe_can (E := E0) (c_wrapped T.toTxt) hr (by decide) passL rfl (pa_cons (pv 6) pa_nil)) (pa_cons (pe_canW (E := E0) (w_wrapped_number T) hr (by decide) passL rfl (pk_cons (pv 3) pk_nil)) pa_nil))) pa_nil)) (pe_callB (call_show hG hr.units) (by rfl) T.b_repr (by decide +kernel) (pa_cons (pe_lst (pa_cons (pv 3) (pa_cons (pv 3) pa_nil))) pa_nil)) (nomark _)) (pw_or1 (pt_cmpR op_ne (pe_can (E := E0) (c_wrapped T.toTxt) hr (by decide) passL rfl (pa_cons (pe_op op_add (pv 6) (pv 4)) pa_nil)) (pe_can (E := E0) (c__law_due T) hr (by decide) pass0 rfl (pa_cons pe_str (pa_cons (pv 3) (pa_cons (pv 4) pa_nil)))) (nomark _)))))
 (pss_one (ps_ret pe_bl))
 pss_nil))))))))))
 (pss_one (ps_ret (pe_can (E := E0) (c__law_refused_right T) hr (by decide) pass0 rfl (pa_cons (pv 1) pa_nil))))))), ?_⟩
    rw [show L2.start N_law [(V.ref a)] = [some (V.ref a), none, none, none, none, none, none, none] from rfl]; try dsimp only [cxOf]
    walk_at "go"
    refine ⟨a, ns, rfl, sq, hn, fun c H1 nc g1 hc => ?_⟩
    have t1 := ht.ext g1
    clear ht sq
    walk_at "go"
    refine w_showS (T.k_SIGNS _) signs_ok ?_
    walk_at "go"
    rename_i p0 e0
    refine w_showS (ss := signs) (SqT.of upd_same) signs_ok ?_
    refine w_neSelf rfl ?_
    walk_at "go"
    have c2 := hc.grow (Grow.new e0 (o := .tup (signs.map V.str)))
    have t2 := t1.ext (Grow.new e0 (o := .tup (signs.map V.str)))
    refine ⟨3, rfl, by decide, by decide, for_range (n := 3) (fun i σ H' => ∃ s2 s3 s4 s5 s6 n, σ = [some (.ref a), some (.ref c), s2, s3, s4, s5, s6, none] ∧ n ≤ 20 * i ∧ Cloud K H' c n ∧ LamX.Tabs [(T.pR, QR)] H') ?_ ?_ ?_⟩
    · exact ⟨_, _, _, _, _, 0, rfl, by omega, c2, t2⟩
    · intro i σ H2 hi hx
      obtain ⟨s2, s3, s4, s5, s6, n, rfl, hn2, hc2, ht2⟩ := hx
      walk_at "go"
      refine ⟨c, n, rfl, hc2, by omega, fun x n1 H3 hx hn1 hc3 he3 => ?_⟩
      walk_at "go"
      refine ⟨c, n1, rfl, hc3, by omega, fun y n2 H4 hy hn2 hc4 he4 => ?_⟩
      have t4 := tabs_ext ht2 hc2 (he3.trans he4)
      clear hc2 hc3 he3 he4 ht2
      walk_at "go"
      have sz : Sh (if decide (-2147483648 < x) = true then -x else x) := by
        unfold Sh at hx ⊢
        by_cases h : -2147483648 < x
        · rw [if_pos (decide_eq_true h)]; omega
        · rw [if_neg (by simp [h])]; omega
      refine w_negV rfl ?_
      generalize (if decide (-2147483648 < x) = true then -x else x) = z at sz ⊢
      walk_at "go"
      rename_i p1 e1 p2 e2
      refine ⟨c, n2, p2, _, rfl, (hc4.new e1).new e2, by omega, SqL.of upd_same, (hc4.new e1).ne e2, by simp, by simp, fun v n3 H5 hv hn3 hc5 he5 => ?_⟩
      have t5 := tabs_ext ((t4.ext (Grow.new e1)).ext (Grow.new e2)) ((hc4.new e1).new e2) he5
      obtain ⟨b, rfl, sb⟩ : ∃ b, v = .int b ∧ Sh b := by
        simp only [List.mem_cons, List.not_mem_nil, or_false] at hv
        rcases hv with rfl | rfl | rfl | rfl
        · exact ⟨_, rfl, hy⟩
        · exact ⟨_, rfl, hy⟩
        · exact ⟨_, rfl, hx⟩
        · exact ⟨_, rfl, sz⟩
      clear hv he5 e1 e2 hc4 t4
      walk_at "go"
      have turn1 : ∀ (σ0 : L2.St) (H0 : Hp), wipe σ0 [7] = [some (.ref a), some (.ref c), some (.int (0 + i)), some (.int x), some (.int b), s5, s6, none] →
          Turns (tCall (spReckoned K T.cBadNumber) [] E0 (tCons (tVar 7) (tCons (tVar 3) (tCons (tVar 4) tNil)))) 7 σ0 H0 (signs.map V.str) ((acts x b).map V.int) := by
        intro σ0 H0 e0 j v u H' R ev eu g r
        rw [acts_map] at eu
        obtain ⟨s, hs, rfl, rfl⟩ := map_at ev eu
        rw [e0]
        simp only [List.set_cons_zero, List.set_cons_succ]
        walk_at "go"
        exact w_reck hs hx sb (r _ (Grow.refl _))
      refine ⟨T.aS, rfl, ⟨_, T.k_SIGNS _⟩, ?_⟩
      dsimp only
      refine lcT (σ := [some (.ref a), some (.ref c), some (.int (0 + i)), some (.int x), some (.int b), s5, s6, none]) (i := 7) (xs := signs.map V.str) (ys := (acts x b).map V.int) (by intro _; rfl) (by simp [acts]) (by simp [signs, sizeLine_eq]) (T.k_SIGNS _) (turn1 _ _ rfl) (fun D1 H6 nD1 eD1 g6 => ?_)
      have hc6 := hc5.grow g6
      have t6 := t5.ext g6
      have q6 : SqL K H6 D1 ((acts x b).map V.int) := SqL.of eD1
      clear g6 hc5 t5 nD1 eD1
      walk_at "go"
      refine w_showN q6 (acts_log hx sb) (by simp [acts, signs]) ?_
      refine ⟨T.aS, rfl, ⟨_, T.k_SIGNS _⟩, ?_⟩
      dsimp only
      have turn2 : ∀ (σ0 : L2.St) (H0 : Hp), wipe σ0 [7] = [some (.ref a), some (.ref c), some (.int (0 + i)), some (.int x), some (.int b), some (.ref D1), s6, none] →
          Turns (tCall spDue [] E0 (tCons (tVar 7) (tCons (tVar 3) (tCons (tVar 4) tNil)))) 7 σ0 H0 (signs.map V.str) ((acts x b).map V.int) := by
        intro σ0 H0 e0 j v u H' R ev eu g r
        rw [acts_map] at eu
        obtain ⟨s, hs, rfl, rfl⟩ := map_at ev eu
        rw [e0]
        simp only [List.set_cons_zero, List.set_cons_succ]
        walk_at "go"
        exact w_due hs hx sb fun H'' g2 => r _ g2
      refine lcT (σ := [some (.ref a), some (.ref c), some (.int (0 + i)), some (.int x), some (.int b), some (.ref D1), s6, none]) (i := 7) (xs := signs.map V.str) (ys := (acts x b).map V.int) (by intro _; rfl) (by simp [acts]) (by simp [signs, sizeLine_eq]) (T.k_SIGNS _) (turn2 _ _ rfl) (fun D2 H7 nD2 eD2 g7 => ?_)
      have hc7 := hc6.grow g7
      have t7 := t6.ext g7
      have q7 : SqL K H7 D1 ((acts x b).map V.int) := g7.sqL q6
      have q8 : SqL K H7 D2 ((acts x b).map V.int) := SqL.of eD2
      clear g7 hc6 t6 nD2 eD2 q6
      walk_at "go"
      refine w_showN q8 (acts_log hx sb) (by simp [acts, signs]) ?_
      refine w_neSelf rfl ?_
      walk_at "go"
      refine w_iteN (fun nb => ?_) (fun nb => ?_)
      case' refine_1 =>
        walk_at "go"
        refine w_I (mul_side sb) ?_
        walk_at "go"
        refine w_cut ?_
        walk_at "go"
        refine w_iteN (fun h => (h (back hx nb)).elim) (fun _ => ?_)
        walk_at "go"
      case' refine_2 =>
        walk_at "go"
      all_goals
        refine ⟨rfl, rfl, w_reck (s := "-") (a := b) (b := x) (by decide) sb hx ?_⟩
        walk_at "go"
        refine w_showI (sh_log (act_sh (by decide) sb hx)) ?_
        walk_at "go"
        refine w_due (s := "-") (a := b) (b := x) (by decide) sb hx fun H8 g8 => ?_
        have hc8 := hc7.grow g8
        have t8 := t7.ext g8
        walk_at "go"
        refine w_showI (sh_log (act_sh (by decide) sb hx)) ?_
        refine w_neSelf rfl ?_
        walk_at "go"
        refine ⟨c, n3, 2001, rfl, hc8, by omega, by decide, by decide, fun r n4 H9 r0 r1 hn4 hc9 he9 => ?_⟩
        have t9 := tabs_ext t8 hc8 he9
        clear hc8 t8 he9 g8
        walk_at "go"
        rename_i p3 e3
        refine ⟨c, n4, p3, _, rfl, hc9.new e3, by omega, SqL.of upd_same, hc9.ne e3, by simp, by simp, fun v n5 H10 hv hn5 hc10 he10 => ?_⟩
        have t10 := tabs_ext (t9.ext (Grow.new e3)) (hc9.new e3) he10
        obtain ⟨m, rfl⟩ : ∃ m, v = .int m := by
          simp only [List.mem_cons, List.not_mem_nil, or_false] at hv
          rcases hv with rfl | rfl | rfl <;> exact ⟨_, rfl⟩
        clear hv e3 he10 hc9 t9
        walk_at "go"
        refine w_wrap ?_
        rw [far_eq hx]
        walk_at "go"
        refine ⟨rfl, rfl, w_wrap ?_⟩
        rw [wrap_of hx]
        walk_at "go"
        rename_i p4 e4
        refine w_showN (ns := [x, x]) (SqL.of upd_same) (by intro n hn; simp at hn; rw [hn]; exact sh_log hx) (by simp) ?_
        walk_at "go"
        rename_i p5 e5
        refine w_showN (ns := [x, x]) (SqL.of upd_same) (by intro n hn; simp at hn; rw [hn]; exact sh_log hx) (by simp) ?_
        refine w_neSelf rfl ?_
        walk_at "go"
        refine w_wrap ?_
        rw [far_more]
        walk_at "go"
        refine w_due (s := "+") (a := x) (b := b) (by decide) hx sb fun H11 g11 => ?_
        refine w_neSelf rfl ?_
        walk_at "go"
        exact ⟨_, _, _, _, _, n5, rfl, by omega, ((hc10.new e4).new e5).grow g11, ((t10.ext (Grow.new e4)).ext (Grow.new e5)).ext g11⟩
    · intro σ H2 hx
      obtain ⟨s2, s3, s4, s5, s6, n, rfl, hn2, hc2, ht2⟩ := hx
      walk_at "go"
      exact ⟨c, n, rfl, hc2, by omega, ht2, fun H' => k H'⟩
end
end K02

set_option maxRecDepth 100000
set_option maxHeartbeats 0
namespace K02
open PySem L2 FW PyProof.Rows
abbrev s_BadNumber_init : Stmt := inClass (top 8) 0
theorem sc_BadNumber_init : FnScope [("self" : Str), "part"] [("self" : Str), "part"] (defScope s_BadNumber_init) := ⟨rfl, rfl, rfl, by decide +kernel, rfl, by decide +kernel, by decide +kernel⟩
def fa : List He.Fa := [.glo "is_integer", .glo "is_within", .glo "is_short", .glo "short_of", .glo "wrapped", .glo "added", .glo "taken_from", .glo "multiplied", .glo "divided", .glo "left_over", .glo "is_less", .glo "is_equal", .glo "are_both", .glo "is_any", .glo "reckoned", .glo "_law_abacus", .glo "_law_bead", .glo "_law_one_of", .glo "_law_short", .glo "_law_cut", .glo "_law_quotient", .glo "_law_due", .glo "_law_heard", .glo "_law_is_short", .glo "_law_refused_right", .glo "law", .glo "SIGNS", .glo "ACTS", .glo "BadNumber", .glo "WeatherError", .free "int", .free "bool", .free "str", .free "len", .free "abs", .free "isinstance", .free "range", .free "repr", .int "LEAST_SHORT" (-2147483648), .int "MOST_SHORT" (2147483647), .exm "BadNumber" "WeatherError" true]
def fn : List He.DefD := [dTop "is_integer" s_is_integer, dTop "is_within" s_is_within, dTop "is_short" s_is_short, dTop "short_of" s_short_of, dTop "wrapped" s_wrapped, dTop "added" s_added, dTop "taken_from" s_taken_from, dTop "multiplied" s_multiplied, dTop "divided" s_divided, dTop "left_over" s_left_over, dTop "is_less" s_is_less, dTop "is_equal" s_is_equal, dTop "are_both" s_are_both, dTop "is_any" s_is_any, dTop "reckoned" s_reckoned, dTop "_law_abacus" s__law_abacus, dTop "_law_bead" s__law_bead, dTop "_law_one_of" s__law_one_of, dTop "_law_short" s__law_short, dTop "_law_cut" s__law_cut, dTop "_law_quotient" s__law_quotient, dTop "_law_due" s__law_due, dTop "_law_heard" s__law_heard, dTop "_law_is_short" s__law_is_short, dTop "_law_refused_right" s__law_refused_right, dTop "law" s_law, dIn "BadNumber" "__init__" s_BadNumber_init]
def ts : List He.Tab := [(fun K => He.ga K "ACTS", signs)]
def tf : List He.Defn := [("_law_refused_right", none)]
def kvs : List (Str × He.Dv) := [("+", .glo "added"), ("-", .glo "taken_from"), ("*", .glo "multiplied"), ("div", .glo "divided"), ("rem", .glo "left_over"), ("<", .glo "is_less"), ("=", .glo "is_equal"), ("and", .glo "are_both"), ("or", .glo "is_any")]
def ex (K : PySem.W.Frag) : Bool := He.tupB K "SIGNS" (signs.map He.Dv.str) && (He.valsB K (He.ga K "ACTS") kvs && (exnB K "BadNumber" "part" && decide (PySem.W.kitOne K (.type "NoneType") (.ref (He.ga K "BadNumber")) = some false)))
section
variable {P : Program} {w : World} {K : PySem.W.Frag} {mg : Str → Option Value} {base h : Heap}
theorem ex_all (e : ex K = true) : He.tupB K "SIGNS" (signs.map He.Dv.str) = true ∧ He.valsB K (He.ga K "ACTS") kvs = true ∧ exnB K "BadNumber" "part" = true ∧ PySem.W.kitOne K (.type "NoneType") (.ref (He.ga K "BadNumber")) = some false := by
  unfold ex at e
  simp only [Bool.and_eq_true, decide_eq_true_eq] at e
  exact e
theorem ok_init (d : He.SaysD fa fn K) : ∃ (fd : FuncData) (ps : List Str), FnOk P w K mg base CX0 1 (He.ma K (He.ga K "BadNumber") "__init__") fd ps (spInit1 K (He.ga K "BadNumber") "part") ∧ Binds K fd ps [] := by
  obtain ⟨fd, F⟩ := d.def_ 26 (d := dIn "BadNumber" "__init__" s_BadNumber_init) rfl
  have F2 : Fun K "__init__" _ s_BadNumber_init _ fd := fun_of (st := s_BadNumber_init) F
  refine ⟨fd, [("self" : Str), "part"], init1_ok (p := "part") F2 sc_BadNumber_init (fun X hN hS => ?_), F2.binds (fun _ _ _ _ _ _ us hl => match us, hl with | [_, _], _ => rfl)⟩
  have v0 : Vis X.env.scope "self" := by rw [hS]; exact .inl (by decide +kernel)
  have v1 : Vis X.env.scope "part" := by rw [hS]; exact .inl (by decide +kernel)
  exact pss_one (ps_ost (pv 0 (by rw [hN]; rfl) v0) (pv 1 (by rw [hN]; rfl) v1))
theorem act_of (d : He.SaysD fa fn K) (D : ∃ es n, KDict K w (He.ga K "ACTS") es n) (v : He.valsB K (He.ga K "ACTS") kvs = true) {x nm : Str} {st : Stmt} (i : Nat) (e : fn[i]? = some (dTop nm st)) (m : (x, He.Dv.glo nm) ∈ kvs)
    (b : ∀ (kV doc pm : Value) (an : Option Addr) (cdv ct : Value) (us : List Value), us.length = (["one", "other"] : List Str).length → bindArgs (PySem.W.fnOf nm nm (defArgs st) (defBody st) (defScope st) .none kV doc pm an cdv ct) ⟨us, []⟩ = pure ((["one", "other"] : List Str).zip us)) : ActAt P w K (He.ga K "ACTS") x nm st := by
  obtain ⟨es, n, D⟩ := D
  obtain ⟨fd, F⟩ := fun_at d i e
  exact ⟨_, fd, kdct_of D v m, F, F.binds b⟩
def txt (X : K.In h) (G : h.Ns mainGlobals mg) (c : He.SaysX fa fn ts tf ex w h K) (TB : LamX.TabB base mg (He.cT K ("_law_refused_right", none)).1 (He.cT K ("_law_refused_right", none)).2) : TxtL P w K mg base :=
  have d := c.t.d
  have xs := ex_all c.more
  have D : ∃ es n, KDict K w (He.ga K "ACTS") es n := c.t.tab 0 (t := (fun K => He.ga K "ACTS", signs)) rfl
  { aS := He.ga K "SIGNS"
    aA := He.ga K "ACTS"
    cBadNumber := He.ga K "BadNumber"
    b_int := free_at X G d 30 rfl
    b_bool := free_at X G d 31 rfl
    b_str := free_at X G d 32 rfl
    b_len := free_at X G d 33 rfl
    b_abs := free_at X G d 34 rfl
    b_isinstance := free_at X G d 35 rfl
    g_LEAST_SHORT := int_at X G d 38 rfl
    g_MOST_SHORT := int_at X G d 39 rfl
    g_SIGNS := (glo_at X G d 26 rfl)
    k_SIGNS := fun H => by have z := He.tupB_ok xs.1 H; rw [List.map_map] at z; exact z
    g_ACTS := (glo_at X G d 27 rfl)
    a_added := act_of d D xs.2.1 5 rfl (by simp [kvs]) (fun _ _ _ _ _ _ us hl => match us, hl with | [_, _], _ => rfl)
    a_taken_from := act_of d D xs.2.1 6 rfl (by simp [kvs]) (fun _ _ _ _ _ _ us hl => match us, hl with | [_, _], _ => rfl)
    a_multiplied := act_of d D xs.2.1 7 rfl (by simp [kvs]) (fun _ _ _ _ _ _ us hl => match us, hl with | [_, _], _ => rfl)
    a_divided := act_of d D xs.2.1 8 rfl (by simp [kvs]) (fun _ _ _ _ _ _ us hl => match us, hl with | [_, _], _ => rfl)
    a_left_over := act_of d D xs.2.1 9 rfl (by simp [kvs]) (fun _ _ _ _ _ _ us hl => match us, hl with | [_, _], _ => rfl)
    a_is_less := act_of d D xs.2.1 10 rfl (by simp [kvs]) (fun _ _ _ _ _ _ us hl => match us, hl with | [_, _], _ => rfl)
    a_is_equal := act_of d D xs.2.1 11 rfl (by simp [kvs]) (fun _ _ _ _ _ _ us hl => match us, hl with | [_, _], _ => rfl)
    a_are_both := act_of d D xs.2.1 12 rfl (by simp [kvs]) (fun _ _ _ _ _ _ us hl => match us, hl with | [_, _], _ => rfl)
    a_is_any := act_of d D xs.2.1 13 rfl (by simp [kvs]) (fun _ _ _ _ _ _ us hl => match us, hl with | [_, _], _ => rfl)
    x_BadNumber := exnB_ok xs.2.2.1 (glo_at X G d 28 rfl) (ok_init d)
    d_is_integer := defOk_of d 0 rfl (glo_at X G d 0 rfl) (fun _ _ _ _ _ _ us hl => match us, hl with | [_], _ => rfl)
    d_is_within := defOk_of d 1 rfl (glo_at X G d 1 rfl) (fun _ _ _ _ _ _ us hl => match us, hl with | [_, _, _], _ => rfl)
    d_is_short := defOk_of d 2 rfl (glo_at X G d 2 rfl) (fun _ _ _ _ _ _ us hl => match us, hl with | [_], _ => rfl)
    d_short_of := defOk_of d 3 rfl (glo_at X G d 3 rfl) (fun _ _ _ _ _ _ us hl => match us, hl with | [_], _ => rfl)
    d_wrapped := defOk_of d 4 rfl (glo_at X G d 4 rfl) (fun _ _ _ _ _ _ us hl => match us, hl with | [_], _ => rfl)
    d_reckoned := defOk_of d 14 rfl (glo_at X G d 14 rfl) (fun _ _ _ _ _ _ us hl => match us, hl with | [_, _, _], _ => rfl)
    d__law_abacus := defOk_of d 15 rfl (glo_at X G d 15 rfl) (fun _ _ _ _ _ _ us hl => match us, hl with | [_], _ => rfl)
    d__law_bead := defOk_of d 16 rfl (glo_at X G d 16 rfl) (fun _ _ _ _ _ _ us hl => match us, hl with | [_, _], _ => rfl)
    d__law_one_of := defOk_of d 17 rfl (glo_at X G d 17 rfl) (fun _ _ _ _ _ _ us hl => match us, hl with | [_, _], _ => rfl)
    d__law_short := defOk_of d 18 rfl (glo_at X G d 18 rfl) (fun _ _ _ _ _ _ us hl => match us, hl with | [_], _ => rfl)
    d__law_cut := defOk_of d 19 rfl (glo_at X G d 19 rfl) (fun _ _ _ _ _ _ us hl => match us, hl with | [_], _ => rfl)
    d__law_quotient := defOk_of d 20 rfl (glo_at X G d 20 rfl) (fun _ _ _ _ _ _ us hl => match us, hl with | [_, _], _ => rfl)
    d__law_due := defOk_of d 21 rfl (glo_at X G d 21 rfl) (fun _ _ _ _ _ _ us hl => match us, hl with | [_, _, _], _ => rfl)
    d__law_heard := defOk_of d 22 rfl (glo_at X G d 22 rfl) (fun _ _ _ _ _ _ us hl => match us, hl with | [_], _ => rfl)
    d__law_is_short := defOk_of d 23 rfl (glo_at X G d 23 rfl) (fun _ _ _ _ _ _ us hl => match us, hl with | [_], _ => rfl)
    b_range := free_at X G d 36 rfl
    b_repr := free_at X G d 37 rfl
    cWeather := He.ga K "WeatherError"
    cR := (He.cT K ("_law_refused_right", none)).1
    pR := (He.cT K ("_law_refused_right", none)).2
    tR := TB
    g_Weather := (glo_at X G d 29 rfl)
    e_Weather := He.exm_ok (d.fact 40 (f := .exm "BadNumber" "WeatherError" true) rfl)
    n_BadNumber := xs.2.2.2
    d__law_refused_right := defOkC_of d 24 rfl (glo_at X G d 24 rfl) (fun _ _ _ _ _ _ us hl => match us, hl with | [_], _ => rfl) }
end
abbrev R : PySem.W.OpenRow := PySem.W.OpenLaw.row PySem.Challenge.rw_fairweather_k02_shorts_reckoned
abbrev hk : PySem.W.Hook := He.hookX 4 fa fn ts tf ex
theorem lawG {w : World} {mg : Str → Option Value} {f : Addr} {h : Heap} (Y : hk.says w h) (G : h.Ns mainGlobals mg) (hm : mg ("law" : Str) = some (.ref f)) : ∃ K : PySem.W.Frag, K.In h ∧ LawG PySem.Challenge.rw_fairweather_k02_shorts_reckoned w K 9 63 "_law_script" mg f h := by
  obtain ⟨K, X, c⟩ := Y
  have d := c.t.d
  have e := hm.symm.trans (glo_at X G d 25 rfl)
  cases e
  obtain ⟨fd, F⟩ := d.def_ 25 (d := dTop "law" s_law) rfl
  have b := FunD.bindsA (ps := ["_law_script"]) F fun _ _ _ _ _ _ us hl => match us, hl with | [_], _ => rfl
  refine ⟨K, X, fd, [He.cT K ("_law_refused_right", none)], spLaw K (He.cT K ("_law_refused_right", none)).2, ?_, ?_, ?_, fun s u => b s [u] rfl, fun H a ns hl _ ht hs => ⟨a, ns, rfl, hs, hl, fun p hp => ?_, fun _ => rfl⟩, fun base _ _ TB => ?_⟩
  · intro p hp; rw [List.mem_singleton.mp hp]; exact c.empty _ (List.mem_cons_self ..)
  · intro p hp; rw [List.mem_singleton.mp hp]; exact c.out _ (List.mem_cons_self ..)
  · intro p hp; rw [List.mem_singleton.mp hp]; exact PySem.W.codeHd_of_K X (c.hd _ (List.mem_cons_self ..))
  · rw [List.mem_singleton.mp hp]; exact LamX.TabS.nil (ht _ (List.mem_cons_self ..))
  · exact ok_law (txt X G c (TB _ (List.mem_cons_self ..))) (fun_of F)
end K02
open PySem PySem.W PySem.Calls PyProof.Rows
theorem PySem.Challenge.cw_fairweather_k02_shorts_reckoned_holds : PySem.Challenge.rw_fairweather_k02_shorts_reckoned.Holds := by
  w_on; o_law
  o_head K02.hk
  case hw => w_witness2
  case hc =>
    refine FW.walkG (l := PySem.Challenge.rw_fairweather_k02_shorts_reckoned) (n := 63) (k := 9) (x := "_law_script") rfl (by decide) (by kernel_rfl) ⟨rfl, by decide, by decide⟩ ?F
    intro w mg fa h Y G hmg0
    exact K02.lawG Y G hmg0
