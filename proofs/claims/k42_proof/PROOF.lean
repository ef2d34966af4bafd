import PyProof.Rows.All
import Wide.All
import OpenK.AllK
import Wide.FinOn
import HandS.ForMost
import HandS.ForExc
import HandS.IsInst
import HandS.Wide
import HandS.CallLocal
import HandS.Defaults
import HandS.ExcInit
import HandS.ExcIs
import HandS.ExcField
import HandS.ExcValue
import HandS.RaiseMore
import HandS.Lambda
import HandS.EndTab
import PyProof.ReprRoads
import HandS.Comp
import KE.KDflt
import HandS.Property
import HandS.MakeKwOnly
import HandS.Star
import HandS.Flow
import HandS.Head0
import HandS.Head1
import HandS.Head2
import HandS.HeadEnd
import HandS.HeadHook1
import HandS.HeadHook2
import HandS.HeadHook3
import HandS.HeadHook4
import HandS.WrittenGet
import HandS.More
import HandS.Walk
import PySem.Challenge.RW_fairweather_k42_lines_of_letters
set_option Elab.async false
set_option linter.all false
set_option maxRecDepth 100000
set_option maxHeartbeats 4000000
/-! fair weather: the ground that all laws stand on -/
namespace FW
open PySem L2 PyProof.Rows

/-! ### readings, a step each -/
section
variable {σ : L2.St} {H : Hp} {D : Ends} {Q : VK} {ta tb te : TE} {t u : TS} {g : TG} {i : Nat} {v x y : V} {r : R2} {tt tu : TT} {QT : Bool → Hp → Prop}
theorem w_seq (h : t { D with nx := u D } σ H) : tSeq t u D σ H := h
theorem w_asg (h : te σ H fun x H1 => g x σ H1 D.nx) : tAsg te g D σ H := h
theorem w_name {QG : L2.St → Hp → Prop} (h : QG (σ.set i (some v)) H) : gName i v σ H QG := h
theorem w_ret (h : te σ H D.rt) : tRet te D σ H := h
theorem w_drop (h : te σ H fun _ H1 => D.nx σ H1) : tDrop te D σ H := h
theorem w_next (h : D.nx σ H) : tNext D σ H := h
theorem w_var (e : σ[i]? = some (some v)) (h : Q v H) : tVar i σ H Q := ⟨v, e, h⟩
theorem w_c (h : Q v H) : tC v σ H Q := h
theorem w_op (h : ta σ H fun x H1 => tb σ H1 fun y H2 => r x y H2 Q) : tOp r ta tb σ H Q := h
theorem w_un {ru : V → Hp → VK → Prop} (h : ta σ H fun x H1 => ru x H1 Q) : tUn ru ta σ H Q := h
theorem w_I0 {f : Int → Int → V} {a b : Int} (h : Q (f a b) H) : rI0 f (.int a) (.int b) H Q := ⟨a, b, rfl, rfl, h⟩
theorem w_I {C : Int → Int → Prop} {f : Int → Int → V} {a b : Int} (c : C a b) (h : Q (f a b) H) : rI C f (.int a) (.int b) H Q := ⟨a, b, rfl, rfl, c, h⟩
theorem w_U {f : Int → V} {a : Int} (h : Q (f a) H) : rU f (.int a) H Q := ⟨a, rfl, h⟩
theorem w_eq (s : scal x y = true) (h : Q (.bl (decide (x = y))) H) : rEq x y H Q := ⟨s, h⟩
theorem w_ne (s : scal x y = true) (h : Q (.bl (!decide (x = y))) H) : rNe x y H Q := ⟨s, h⟩
theorem w_test (h : ta σ H fun x H1 => ∃ c, x = .bl c ∧ QT c H1) : tTest ta σ H QT := h
theorem w_B (h : ta σ H fun x H1 => ∃ c, x = .bl c ∧ QT c H1) : tB ta σ H QT := h
theorem w_bl {b : Bool} {R : Bool → Prop} (h : R b) : ∃ c, V.bl b = .bl c ∧ R c := ⟨b, rfl, h⟩
theorem w_not (h : tt σ H fun c H1 => QT (!c) H1) : tNot tt σ H QT := h
theorem w_and (h : tt σ H fun c H1 => if c = true then tu σ H1 QT else QT false H1) : tAnd tt tu σ H QT := h
theorem w_or (h : tt σ H fun c H1 => if c = true then QT true H1 else tu σ H1 QT) : tOr tt tu σ H QT := h
theorem w_andV (h : ta σ H fun x H1 => ∃ c, x = .bl c ∧ if c = true then tb σ H1 Q else Q (.bl false) H1) : tAndV ta tb σ H Q := h
theorem w_orV (h : ta σ H fun x H1 => ∃ c, x = .bl c ∧ if c = true then Q (.bl true) H1 else tb σ H1 Q) : tOrV ta tb σ H Q := h
theorem w_notV (h : ta σ H fun x H1 => ∃ c, x = .bl c ∧ Q (.bl (!c)) H1) : tNotV ta σ H Q := h
theorem w_if (h : tt σ H fun c H1 => if c = true then t D σ H1 else u D σ H1) : tIfS tt t u D σ H := h
theorem w_ifE (h : tt σ H fun c H1 => if c = true then ta σ H1 Q else tb σ H1 Q) : tIf tt ta tb σ H Q := h
theorem w_ite {c : Bool} {A B : Prop} (h1 : c = true → A) (h2 : c = false → B) : if c = true then A else B := by
  cases c with
  | true => exact h1 rfl
  | false => exact h2 rfl
theorem w_iteD {p : Prop} [Decidable p] {A B : Prop} (h1 : p → A) (h2 : ¬ p → B) : if decide p = true then A else B := by
  by_cases h : p
  · rw [if_pos (decide_eq_true h)]; exact h1 h
  · rw [if_neg (by simp [h])]; exact h2 h
theorem w_iteN {p : Prop} [Decidable p] {A B : Prop} (h1 : ¬ p → A) (h2 : p → B) : if (!decide p) = true then A else B := by
  by_cases h : p
  · rw [if_neg (by simp [h])]; exact h2 h
  · rw [if_pos (by simp [h])]; exact h1 h
theorem w_rfl {A : Prop} (h : A) : V.non = V.non ∧ A := ⟨rfl, h⟩
theorem w_tr {A : Prop} (h : A) : True ∧ A := ⟨trivial, h⟩
theorem w_nyes {A B : Prop} (h : B) : if (!true) = true then A else B := h
theorem w_nno {A B : Prop} (h : A) : if (!false) = true then A else B := h
theorem w_T {A B : Prop} (h : A) : if True then A else B := by rw [if_pos trivial]; exact h
theorem w_F {A B : Prop} (h : B) : if False then A else B := by rw [if_neg not_false]; exact h
theorem w_yes {A B : Prop} (h : A) : if true = true then A else B := h
theorem w_no {A B : Prop} (h : B) : if false = true then A else B := h
theorem w_nil {QA : List V → Hp → Prop} (h : QA [] H) : tNil σ H QA := h
theorem w_cons {ta : TE} {tr : TA} {QA : List V → Hp → Prop} (h : ta σ H fun x H1 => tr σ H1 fun xs H2 => QA (x :: xs) H2) : tCons ta tr σ H QA := h
theorem w_cb {rc : List V → Hp → VK → Prop} {t : TA} (h : t σ H fun vs H1 => rc vs H1 Q) : tCB rc t σ H Q := h
theorem w_call {sp : Sp} {dvs : List V} {E : XK} {t : TA} (h : t σ H fun vs H1 => sp (vs ++ dvs) H1 Q E) : tCall sp dvs E t σ H Q := h
theorem w_lst {t : TA} (h : t σ H fun xs H1 => xs.length ≤ sizeLine ∧ ∀ p, H1 p = none → Q (.ref p) (upd H1 p (.lst xs))) : tLst t σ H Q := h
theorem w_tup {t : TA} (h : t σ H fun xs H1 => xs.length ≤ sizeLine ∧ ∀ p, H1 p = none → Q (.ref p) (upd H1 p (.tup xs))) : tTup t σ H Q := h
theorem w_ixL {K : PySem.W.Frag} {p : Addr} {xs : List V} {k : Int} (s : SqL K H p xs) (e : atI xs k = some v) (h : Q v H) : rIxL K (.ref p) (.int k) H Q := ⟨p, xs, k, v, rfl, rfl, s, e, h⟩
theorem w_sub {ti to : TE} {ts : TSet} {QG : L2.St → Hp → Prop} (h : to σ H fun o H1 => ti σ H1 fun i H2 => ts o i v H2 fun H3 => QG σ H3) : gSub to ti ts v σ H QG := h
theorem w_setL {p : Addr} {xs : List V} {k : Int} {j : Nat} {QH : Hp → Prop} (e : H p = some (.lst xs)) (ej : ixN xs.length k = some j) (h : QH (upd H p (.lst (xs.set j v)))) : rSetL (.ref p) (.int k) v H QH := ⟨p, xs, k, j, rfl, rfl, e, ej, h⟩
end

/-- `int` of an int or of a truth -/
def rInt1 : List V → Hp → VK → Prop := fun xs H Q => match xs with
  | [.int i] => Q (.int i) H
  | [.bl b] => Q (.int (if b then 1 else 0)) H
  | _ => False
theorem call_intA {X : Cx} : CallR X (.type "int") rInt1 := by
  intro pins s σ H xs us Q I r h
  refine call_int1 pins s σ H xs us Q I r ?_
  unfold rInt1 at h
  split at h
  · exact Or.inl ⟨_, rfl, h⟩
  · exact Or.inr ⟨_, rfl, h⟩
  · exact h.elim
theorem w_int {i : Int} {H : Hp} {Q : VK} (h : Q (.int i) H) : rInt1 [.int i] H Q := h
theorem w_intB {b : Bool} {H : Hp} {Q : VK} (h : Q (.int (if b then 1 else 0)) H) : rInt1 [.bl b] H Q := h
def rAbs : List V → Hp → VK → Prop := fun xs H Q => ∃ i, xs = [.int i] ∧ Q (.int (if i < 0 then -i else i)) H
theorem call_absA {X : Cx} : CallR X (.builtin "abs") rAbs := call_abs
theorem w_abs {i : Int} {H : Hp} {Q : VK} (h : Q (.int (if i < 0 then -i else i)) H) : rAbs [.int i] H Q := ⟨i, rfl, h⟩
def rLen (K : PySem.W.Frag) : List V → Hp → VK → Prop := fun xs H Q => ∃ x n, xs = [x] ∧ LenV K x H n ∧ Q (.int n) H
theorem call_lenA {X : Cx} : CallR X (.builtin "len") (rLen X.K) := call_len
theorem w_lenL {K : PySem.W.Frag} {H : Hp} {Q : VK} {p : Addr} {xs : List V} (s : SqL K H p xs) (h : Q (.int xs.length) H) : rLen K [.ref p] H Q := ⟨.ref p, xs.length, rfl, Or.inl ⟨xs, s, rfl⟩, h⟩

/-! ### the cloud: what a law draws from -/
/-- at c a list of the cells (at another place), how many were begun (n), what is left of a great one -/
def Cloud (K : PySem.W.Frag) (H : Hp) (c : Addr) (n : Nat) : Prop :=
  ∃ (l : Addr) (cells : List Int) (rest : Int), H c = some (.lst [.ref l, .int n, .int rest]) ∧ SqL K H l (cells.map V.int) ∧ l ≠ c
/-- all but c is as it was -/
def Ext (c : Addr) (H H' : Hp) : Prop := ∀ b o, b ≠ c → H b = some o → H' b = some o
theorem Ext.refl (c : Addr) (H : Hp) : Ext c H H := fun _ _ _ h => h
theorem Ext.trans {c : Addr} {H H1 H2 : Hp} (a : Ext c H H1) (b : Ext c H1 H2) : Ext c H H2 := fun x o n h => b x o n (a x o n h)
theorem Ext.upd {c : Addr} {H : Hp} {o : HO} : Ext c H (upd H c o) := fun b u n h => by rw [upd_ne n]; exact h
theorem Ext.new {c p : Addr} {H : Hp} {o : HO} (h : H p = none) : Ext c H (L2.upd H p o) := fun b u _ e => by rw [upd_ne (ne_of_none e h)]; exact e
theorem Ext.sqL {c a : Addr} {K : PySem.W.Frag} {H H' : Hp} {xs : List V} (e : Ext c H H') (n : a ≠ c) (h : SqL K H a xs) : SqL K H' a xs := by
  rcases h with (h | ⟨o, h⟩) | h
  · exact .inl (.inl (e _ _ n h))
  · exact .inl (.inr ⟨o, e _ _ n h⟩)
  · exact .inr h
theorem Ext.sqT {c a : Addr} {K : PySem.W.Frag} {H H' : Hp} {xs : List V} (e : Ext c H H') (n : a ≠ c) (h : SqT K H a xs) : SqT K H' a xs := by
  rcases h with (h | ⟨o, h⟩) | h
  · exact .inl (.inl (e _ _ n h))
  · exact .inl (.inr ⟨o, e _ _ n h⟩)
  · exact .inr h
/-- a draw: an int from 0 below many; one cell more was begun at most -/
def spDrop (K : PySem.W.Frag) : Sp := fun vs H Q _ => ∃ (c : Addr) (n : Nat) (many : Int), vs = [.ref c, .int many] ∧ Cloud K H c n ∧ n < 1000000 ∧ 0 < many ∧ many < 1073741824 ∧
  ∀ (r : Int) (n' : Nat) (H' : Hp), 0 ≤ r → r < many → n' ≤ n + 1 → Cloud K H' c n' → Ext c H H' → Q (.int r) H'
/-! ### arithmetic of great ints -/
def CDivA (_ j : Int) : Prop := j ≠ 0 ∧ j.natAbs.log2 < 9000
theorem op_fdivA {X : Cx} : OpR X (binaryOp .FloorDiv) (rI CDivA fun i j => .int (i.fdiv j)) := opI fun _ _ _ _ _ _ _ hc q => floordiv_int hc.1 q (.inl (PyProof.noPylong_of_log2 hc.2))
theorem log2_lt {n k : Nat} (h : n < 2 ^ k) (h0 : 0 < k) : n.log2 < k := PySem.Flt.log2_lt_of h0 h

/-! ### lists of ints as data -/
theorem dpAll_ints (K : PySem.W.Frag) (H : Hp) : ∀ ns : List Int, DpAll K H (ns.map V.int) (ns.map PyData.int)
  | [] => .nil
  | n :: ns => .cons (.int n) (dpAll_ints K H ns)
theorem canLay_ints : ∀ ns : List Int, PyData.canLayAll0 (ns.map PyData.int) = true
  | [] => by simp [PyData.canLayAll0]
  | n :: ns => by simp [PyData.canLayAll0, PyData.canLay0, canLay_ints ns]
theorem shaped_ints (ns : List Int) : SeqAt.shaped (.list (ns.map PyData.int)) = true := by
  have h1 : PyData.canLay0 (.list (ns.map PyData.int)) = true := by simp [PyData.canLay0, canLay_ints]
  have h2 : PyData.depth (.list (ns.map PyData.int)) ≤ 64 := by
    have := depthAll_ints ns
    simp only [PyData.depth]
    omega
  unfold SeqAt.shaped
  rw [h1, decide_eq_true h2]
  rfl
theorem shaped_nil : SeqAt.shaped (.list []) = true := shaped_ints []
/-- xs != [] for a list of ints -/
theorem w_neNil {K : PySem.W.Frag} {H : Hp} {Q : VK} {a p : Addr} {ns : List Int} (h1 : SqL K H a (ns.map V.int)) (h2 : SqL K H p []) (h : Q (.bl (!ns.isEmpty)) H) : rNeD K (.ref a) (.ref p) H Q := by
  refine ⟨_, _, .lst h1 (dpAll_ints K H ns), .lst h2 .nil, shaped_ints ns, shaped_nil, ?_⟩
  have e : PyData.eqv (.list (ns.map PyData.int)) (.list []) = ns.isEmpty := by
    cases ns with
    | nil => simp [PyData.eqv, PyData.eqvAll]
    | cons n ns => simp [PyData.eqv, PyData.eqvAll]
  rw [e]
  exact h
theorem atI_map {ns : List Int} {i : Int} (h0 : 0 ≤ i) (h1 : i < ns.length) : ∃ z, ns[i.toNat]? = some z ∧ atI (ns.map V.int) i = some (.int z) := by
  obtain ⟨j, rfl⟩ : ∃ j : Nat, i = (j : Int) := ⟨i.toNat, by omega⟩
  have hj : j < ns.length := by omega
  refine ⟨ns[j], by simp [hj], at_of rfl (by simp [hj])⟩
theorem sqL_new {K : PySem.W.Frag} {H : Hp} {a p : Addr} {xs : List V} {o : HO} (h : H p = none) (q : SqL K H a xs) : SqL K (upd H p o) a xs := by
  rcases q with (q | ⟨u, q⟩) | q
  · exact .inl (.inl (by rw [upd_ne (ne_of_none q h)]; exact q))
  · exact .inl (.inr ⟨u, by rw [upd_ne (ne_of_none q h)]; exact q⟩)
  · exact .inr q
theorem sqT_new {K : PySem.W.Frag} {H : Hp} {a p : Addr} {xs : List V} {o : HO} (h : H p = none) (q : SqT K H a xs) : SqT K (upd H p o) a xs := by
  rcases q with (q | ⟨u, q⟩) | q
  · exact .inl (.inl (by rw [upd_ne (ne_of_none q h)]; exact q))
  · exact .inl (.inr ⟨u, by rw [upd_ne (ne_of_none q h)]; exact q⟩)
  · exact .inr q
theorem sqL_ne {K : PySem.W.Frag} {H : Hp} {a p : Addr} {xs : List V} {o : HO} (n : a ≠ p) (q : SqL K H a xs) : SqL K (upd H p o) a xs := by
  rcases q with (q | ⟨u, q⟩) | q
  · exact .inl (.inl (by rw [upd_ne n]; exact q))
  · exact .inl (.inr ⟨u, by rw [upd_ne n]; exact q⟩)
  · exact .inr q
theorem sqT_ne {K : PySem.W.Frag} {H : Hp} {a p : Addr} {xs : List V} {o : HO} (n : a ≠ p) (q : SqT K H a xs) : SqT K (upd H p o) a xs := by
  rcases q with (q | ⟨u, q⟩) | q
  · exact .inl (.inl (by rw [upd_ne n]; exact q))
  · exact .inl (.inr ⟨u, by rw [upd_ne n]; exact q⟩)
  · exact .inr q
theorem w_made {n : Nat} {H : Hp} {R : Addr → Prop} (hn : n ≤ sizeLine) (h : ∀ p, H p = none → R p) : n ≤ sizeLine ∧ ∀ p, H p = none → R p := ⟨hn, h⟩
theorem rd_new {H : Hp} {a p : Addr} {o u : HO} (h : H p = none) (q : H a = some u) : upd H p o a = some u := by rw [upd_ne (ne_of_none q h)]; exact q
theorem rd_ne {H : Hp} {a p : Addr} {o u : HO} (n : a ≠ p) (q : H a = some u) : upd H p o a = some u := by rw [upd_ne n]; exact q
theorem mix2 {m n a b c : Int} (m0 : 0 ≤ m) (m1 : m < 2147483648) (n0 : 0 ≤ n) (n1 : n < 1000000) (a0 : 0 ≤ a) (a1 : a ≤ 10000) (b0 : 0 ≤ b) (b1 : b ≤ 1000000) (c0 : 0 ≤ c) (c1 : c ≤ 1000000) :
    CPow (m * (2 * n + a) + b * n * n + c) 3 := by
  refine ⟨by decide, by decide, ?_⟩
  have h1 : 0 ≤ m * (2 * n + a) := Int.mul_nonneg m0 (by omega)
  have h2 : m * (2 * n + a) ≤ 2147483648 * 2010000 := Int.mul_le_mul (by omega) (by omega) (by omega) (by omega)
  have h3 : 0 ≤ b * n := Int.mul_nonneg b0 n0
  have h4 : b * n ≤ 1000000 * 1000000 := Int.mul_le_mul b1 (by omega) n0 (by omega)
  have h5 : 0 ≤ b * n * n := Int.mul_nonneg h3 n0
  have h6 : b * n * n ≤ (1000000 * 1000000) * 1000000 := Int.mul_le_mul h4 (by omega) n0 (by omega)
  omega
/-! ### kinds of values -/
def isInt : V → Bool
  | .int _ => true
  | _ => false
def isIntB : V → Bool
  | .int _ => true
  | .bl _ => true
  | _ => false
def isBl : V → Bool
  | .bl _ => true
  | _ => false
def isStr : V → Bool
  | .str _ => true
  | _ => false
/-- a value of a plain kind: a reference is to a list, a tuple or a dict -/
def Kn (K : PySem.W.Frag) (H : Hp) : V → Prop
  | .ref a => ∃ T, (T = "list" ∨ T = "tuple" ∨ T = "dict") ∧ TyX K H (.ref a) (.type T)
  | .non => True
  | .bl _ => True
  | .int _ => True
  | .str _ => True
  | _ => False
/-- how a value of a plain kind answers to a built-in class -/
theorem kn_ty {K : PySem.W.Frag} {H : Hp} {v : V} (h : Kn K H v) : ∃ T, TyX K H v (.type T) ∧ (T = "list" ∨ T = "tuple" ∨ T = "dict" ∨ T = "NoneType" ∨ T = "bool" ∨ T = "int" ∨ T = "str") ∧
    (isInt v = (T == "int")) ∧ (isBl v = (T == "bool")) ∧ (isStr v = (T == "str")) := by
  cases v with
  | ref a =>
    obtain ⟨T, e, t⟩ := h
    rcases e with rfl | rfl | rfl
    · exact ⟨_, t, by simp, by simp [isInt], by simp [isBl], by simp [isStr]⟩
    · exact ⟨_, t, by simp, by simp [isInt], by simp [isBl], by simp [isStr]⟩
    · exact ⟨_, t, by simp, by simp [isInt], by simp [isBl], by simp [isStr]⟩
  | non => exact ⟨"NoneType", .base .non, by simp, by simp [isInt], by simp [isBl], by simp [isStr]⟩
  | bl b => exact ⟨"bool", .base (.bl b), by simp, by simp [isInt], by simp [isBl], by simp [isStr]⟩
  | int i => exact ⟨"int", .base (.int i), by simp, by simp [isInt], by simp [isBl], by simp [isStr]⟩
  | str x => exact ⟨"str", .base (.str x), by simp, by simp [isInt], by simp [isBl], by simp [isStr]⟩
  | byt _ => exact h.elim
  | flt _ => exact h.elim
  | ty _ => exact h.elim
theorem w_isInt {K : PySem.W.Frag} {H : Hp} {Q : VK} {v : V} (h : Kn K H v) (q : Q (.bl (isIntB v)) H) : rIsi K [v, .ty "int"] H Q := by
  obtain ⟨T, t, e, e1, e2, e3⟩ := kn_ty h
  refine ⟨v, .ty "int", .type T, .type "int", isIntB v, rfl, .ty "int", t, ?_, q⟩
  have q1 : isIntB v = (isInt v || isBl v) := by cases v <;> rfl
  rw [q1, e1, e2]
  rcases e with rfl | rfl | rfl | rfl | rfl | rfl | rfl <;> exact kit_ty (by decide +kernel)
theorem w_isBl {K : PySem.W.Frag} {H : Hp} {Q : VK} {v : V} (h : Kn K H v) (q : Q (.bl (isBl v)) H) : rIsi K [v, .ty "bool"] H Q := by
  obtain ⟨T, t, e, e1, e2, e3⟩ := kn_ty h
  refine ⟨v, .ty "bool", .type T, .type "bool", isBl v, rfl, .ty "bool", t, ?_, q⟩
  rw [e2]
  rcases e with rfl | rfl | rfl | rfl | rfl | rfl | rfl <;> exact kit_ty (by decide +kernel)
theorem w_isStr {K : PySem.W.Frag} {H : Hp} {Q : VK} {v : V} (h : Kn K H v) (q : Q (.bl (isStr v)) H) : rIsi K [v, .ty "str"] H Q := by
  obtain ⟨T, t, e, e1, e2, e3⟩ := kn_ty h
  refine ⟨v, .ty "str", .type T, .type "str", isStr v, rfl, .ty "str", t, ?_, q⟩
  rw [e3]
  rcases e with rfl | rfl | rfl | rfl | rfl | rfl | rfl <;> exact kit_ty (by decide +kernel)

/-! ### a text in a row of texts -/
theorem inV_strs (x : Str) : ∀ ss : List Str, inV (.str x) (ss.map V.str) = ss.contains x
  | [] => rfl
  | s :: ss => by
    have ih := inV_strs x ss
    unfold inV at ih ⊢
    rw [List.map_cons, List.any_cons, ih, List.contains_cons]
    congr 1
    show eqV (.str s) (.str x) = (x == s)
    by_cases h : x = s
    · subst h; simp [eqV]
    · have h2 : ¬ s = x := fun e => h e.symm
      show (s == x) = (x == s)
      rw [beq_eq_false_iff_ne.mpr h, beq_eq_false_iff_ne.mpr h2]
theorem flat_strs : ∀ ss : List Str, (ss.map V.str).all flatV = true
  | [] => rfl
  | s :: ss => by rw [List.map_cons, List.all_cons, flat_strs ss]; rfl
theorem w_inT {K : PySem.W.Frag} {H : Hp} {Q : VK} {p : Addr} {x : Str} {ss : List Str} (s : SqT K H p (ss.map V.str)) (q : Q (.bl (ss.contains x)) H) : rIn K false (.str x) (.ref p) H Q :=
  ⟨p, _, rfl, .inr s, rfl, flat_strs ss, by rw [inV_strs]; exact q⟩
theorem w_notInT {K : PySem.W.Frag} {H : Hp} {Q : VK} {p : Addr} {x : Str} {ss : List Str} (s : SqT K H p (ss.map V.str)) (q : Q (.bl (!ss.contains x)) H) : rIn K true (.str x) (.ref p) H Q :=
  ⟨p, _, rfl, .inr s, rfl, flat_strs ss, by rw [inV_strs]; exact q⟩

/-! ### defs that may be called by their names -/
/-- a def of the text as it stands behind the top, under its name -/
structure DefOk (K : PySem.W.Frag) (mg : Str → Option Value) (x : Str) (st : Stmt) (ps : List Str) : Prop where
  ex : ∃ (f : Addr) (fd : FuncData), Fun K x x st f fd ∧ mg x = some (.ref f) ∧ Binds K fd ps []
structure Can (P : Program) (w : World) (K : PySem.W.Frag) (mg : Str → Option Value) (base : Heap) (CX : CXT) (k : Nat) (x : Str) (ps : List Str) (sp : Sp) : Prop where
  ex : ∃ (f : Addr) (fd : FuncData), FnOk P w K mg base CX k f fd ps sp ∧ mg x = some (.ref f) ∧ PySem.W.keepIn K (.ref f) = true ∧ Binds K fd ps []
theorem DefOk.can {P : Program} {w : World} {K : PySem.W.Frag} {mg : Str → Option Value} {base : Heap} {CX : CXT} {k : Nat} {x : Str} {st : Stmt} {ps : List Str} {sp : Sp} (d : DefOk K mg x st ps)
    (h : ∀ f fd, Fun K x x st f fd → FnOk P w K mg base CX k f fd ps sp) : Can P w K mg base CX k x ps sp := by
  obtain ⟨f, fd, F, m, b⟩ := d.ex
  exact ⟨f, fd, h f fd F, m, F.kp, b⟩
section
variable {X : Cx} {CX : CXT} {k j : Nat} {x : Str} {ps : List Str} {sp : Sp} {E : XK} {p pos : Pos} {e : Expr} {es : List Expr} {t : TA}
theorem pe_can (c : Can X.prog X.w X.K X.mg X.base CX k x ps sp) (hr : Room j X.A) (hk : k ≤ j) (hx : Passes CX X E) (hg : Gl X x) (ha : PA X (e :: es) t) (hdb : (x == ("__debug__" : Str)) = false := by decide)
    (he : starEach (e :: es) X.env = (false, eval e X.env) :: starEach es X.env := by rfl) (hpl : (backTo pos (starEach es X.env)).any (·.1) = false := by rfl) :
    PE X (.Call (.Name x p) (e :: es) [] pos) (tCall sp [] E t) := by
  obtain ⟨f, fd, F, m, kp, b⟩ := c.ex
  exact pe_call F (hr.mono hk) hg m kp b .nil hx ha hdb he hpl
/-- a constant of the text -/
theorem pe_gc {X : Cx} {x : Str} {v : V} {pos : Pos} (hg : Gl X x) (h : ∃ u, X.mg x = some u ∧ RelV v u) (hd : (x == ("__debug__" : Str)) = false := by decide) : PE X (.Name x pos) (tC v) := by
  obtain ⟨u, hm, r⟩ := h
  exact pe_glob hg hm r hd
/-! ### a local name that holds a def -/
def tHeld (P : Program) (w : World) (K : PySem.W.Frag) (mg : Str → Option Value) (base : Heap) (k i : Nat) (t : TA) : TE := fun σ H Q => ∃ f sp, σ[i]? = some (some (.ref f)) ∧ Held P w K mg base k f sp ∧ t σ H fun vs H1 => sp vs H1 Q (fun _ _ _ => False)
theorem pe_held {X : Cx} {k i : Nat} {x : Str} {p pos : Pos} {e : Expr} {es : List Expr} {t : TA} (hr : Room k X.A) (hN : X.N[i]? = some x) (hv : Vis X.env.scope x) (ha : PA X (e :: es) t)
    (hdb : (x == ("__debug__" : Str)) = false := by decide) (hcd : (x == ("__classdict__" : Str)) = false := by decide)
    (he : starEach (e :: es) X.env = (false, eval e X.env) :: starEach es X.env := by rfl) (hpl : (backTo pos (starEach es X.env)).any (·.1) = false := by rfl) : PE X (.Call (.Name x p) (e :: es) [] pos) (tHeld X.prog X.w X.K X.mg X.base k i t) := by
  refine ⟨fun pins s σ H Q I h => ?_⟩
  obtain ⟨f, sp, hs, hS, ht⟩ := h
  exact (pe_callA (p := p) (pos := pos) (S := fun a => if a = f then some sp else none) (fun g sg e => by
    by_cases hg : g = f
    · subst hg; simp at e; subst e; exact hS
    · simp [hg] at e) hr hN hv ha hdb hcd he hpl).run pins s σ H Q I ⟨f, sp, hs, by simp, ht⟩
theorem w_held {P : Program} {w : World} {K : PySem.W.Frag} {mg : Str → Option Value} {base : Heap} {k i : Nat} {t : TA} {σ : L2.St} {H : Hp} {Q : VK} {f : Addr} {sp : Sp} (e : σ[i]? = some (some (.ref f))) (h : Held P w K mg base k f sp)
    (q : t σ H fun vs H1 => sp vs H1 Q (fun _ _ _ => False)) : tHeld P w K mg base k i t σ H Q := ⟨f, sp, e, h, q⟩
end
/-! ### what grows -/
def Grow (H H' : Hp) : Prop := ∀ b o, H b = some o → H' b = some o
theorem Grow.refl (H : Hp) : Grow H H := fun _ _ e => e
theorem Grow.trans {H H1 H2 : Hp} (a : Grow H H1) (b : Grow H1 H2) : Grow H H2 := fun x o e => b x o (a x o e)
theorem Grow.new {H : Hp} {p : Addr} {o : HO} (n : H p = none) : Grow H (upd H p o) := fun b u e => by rw [upd_ne (ne_of_none e n)]; exact e
theorem Grow.ext {c : Addr} {H H' : Hp} (g : Grow H H') : Ext c H H' := fun b o _ e => g b o e
theorem Grow.sqL {K : PySem.W.Frag} {H H' : Hp} {a : Addr} {xs : List V} (g : Grow H H') (h : SqL K H a xs) : SqL K H' a xs := by
  rcases h with (h | ⟨o, h⟩) | h
  · exact .inl (.inl (g _ _ h))
  · exact .inl (.inr ⟨o, g _ _ h⟩)
  · exact .inr h
theorem Grow.sqT {K : PySem.W.Frag} {H H' : Hp} {a : Addr} {xs : List V} (g : Grow H H') (h : SqT K H a xs) : SqT K H' a xs := by
  rcases h with (h | ⟨o, h⟩) | h
  · exact .inl (.inl (g _ _ h))
  · exact .inl (.inr ⟨o, g _ _ h⟩)
  · exact .inr h
theorem Cloud.grow {K : PySem.W.Frag} {H H' : Hp} {c : Addr} {n : Nat} (g : Grow H H') (h : Cloud K H c n) : Cloud K H' c n := by
  obtain ⟨l, cells, rest, h1, h2, h3⟩ := h
  exact ⟨l, cells, rest, g _ _ h1, g.sqL h2, h3⟩
theorem Cloud.new {K : PySem.W.Frag} {H : Hp} {c p : Addr} {n : Nat} {o : HO} (e : H p = none) (h : Cloud K H c n) : Cloud K (upd H p o) c n := h.grow (Grow.new e)
theorem Cloud.some {K : PySem.W.Frag} {H : Hp} {c : Addr} {n : Nat} (h : Cloud K H c n) : ∃ o, H c = some o := by
  obtain ⟨l, cells, rest, h1, _⟩ := h
  exact ⟨_, h1⟩
theorem Cloud.ne {K : PySem.W.Frag} {H : Hp} {c p : Addr} {n : Nat} (h : Cloud K H c n) (e : H p = none) : p ≠ c := by
  obtain ⟨o, q⟩ := h.some
  exact fun z => ne_of_none q e z.symm
/-! ### targets -/
section
variable {K : PySem.W.Frag} {σ : L2.St} {H : Hp} {QG : L2.St → Hp → Prop} {v : V} {vs : List V}
theorem w_gtup {n : Nat} {t : TGs} {a : Addr} (s : SqT K H a vs) (l : vs.length = n) (h : t vs σ H QG) : gTup K n t (.ref a) σ H QG := ⟨a, vs, rfl, s, l, h⟩
theorem w_gcons {t : TG} {u : TGs} (h : t v σ H fun σ' H' => u vs σ' H' QG) : gCons t u (v :: vs) σ H QG := ⟨v, vs, rfl, h⟩
theorem w_gnil (h : QG σ H) : gNil [] σ H QG := ⟨rfl, h⟩
end
theorem w_par {σ : L2.St} {H : Hp} {D : Ends} {i j : Nat} {ta : TA} (h : ta σ H fun vs H1 => ∃ v w, vs = [v, w] ∧ D.nx ((σ.set i (some v)).set j (some w)) H1) : tPar i j ta D σ H := h
theorem w_par2 {v u : V} {R : V → V → Prop} (h : R v u) : ∃ x y, [v, u] = [x, y] ∧ R x y := ⟨v, u, rfl, h⟩
theorem w_inX {K : PySem.W.Frag} {H : Hp} {Q : VK} {p : Addr} {x : V} {vs : List V} (s : SqT K H p vs) (f1 : flatV x = true) (f : vs.all flatV = true) (q : Q (.bl (inV x vs)) H) : rIn K false x (.ref p) H Q := ⟨p, vs, rfl, .inr s, f1, f, q⟩
theorem w_chain {r r' : R2} {ta tb tc : TE} {σ : L2.St} {H : Hp} {Q : VK} (h : ta σ H fun x H1 => tb σ H1 fun y H2 => r x y H2 fun z H3 => ∃ k, z = .bl k ∧ (if k = true then tc σ H3 fun w' H4 => r' y w' H4 Q else Q (.bl false) H3)) : tChain r r' ta tb tc σ H Q := h
theorem w_dnew {σ : L2.St} {H : Hp} {Q : VK} (h : ∀ p, H p = none → Q (.ref p) (upd H p (.dK []))) : tDNewK σ H Q := h
theorem w_callNB {n m : Nat} {sp : Sp} {gV : List V → List V → List V} {E : XK} {t tk : TA} {σ : L2.St} {H : Hp} {Q : VK} (h : t σ H fun vs H1 => tk σ H1 fun zs H2 => vs.length = n ∧ zs.length = m ∧ sp (gV vs zs) H2 Q E) : tCallN n m sp gV E t tk σ H Q := h
end FW

set_option maxRecDepth 100000
set_option maxHeartbeats 4000000
/-! fair weather: exceptions that are kept -/
namespace PySem.W
open PySem PySem.Spec PySem.Calls PyProof.Rows
section
variable {prog : Program} {w : World} {A : Around} {E : Value → Shared → Prop} {s : Shared} {K : Frag} {x D : Addr} {ox : Obj} {od : Option Obj}
theorem fw_findClass (dct : hasDictIn K D = true) (ha : findIn K (.ref D) "__class__" = some (some (.builtin "object.__class__"))) (hn : specialIn K (.builtin "object.__class__") "__get__" = some (some (.builtin "getset_descriptor.__get__")))
    (htk : takesIn K (.builtin "object.__class__") = some true) : findObj K D od "__class__" = some (.bind (.builtin "getset_descriptor.__get__") (.builtin "object.__class__")) := by
  obtain ⟨cd, hc, _⟩ := any_some dct
  unfold findObj
  rw [hc, Option.bind_some, ha, Option.bind_some]
  simp [hn, htk]
/-- the class of an own exception, asked by isinstance: whether it has a dict or not -/
theorem fw_class {Q : Option Value → Shared → Prop} (C : L2.ExcC K D) (X : K.In s.heap) (I : InstAt s.heap x ox D od) (h : Q (some (.ref D)) { s with toks := s.toks + 1 }) : wpAny (model prog w) A (getAttr? (.ref x) "__class__") Q E s := by
  have hf := fw_findClass (od := od) C.hd C.ha C.hn C.ht
  obtain ⟨hp, gs, dr, tk, os⟩ := s
  have l0 := I.type (M := model prog w)
  have l1 := looks_findIn (M := model prog w) X C.hg
  have l2 := looks_findIn (M := model prog w) X C.hk
  have l3 := looks_find (M := model prog w) X I hf
  have ls : Looks (model prog w) hp (isInstance (.ref x) (.type "BaseException")) true := l0.andThen (looks_subIn X C.hs)
  have b0 : (false && onTheHeap (Value.builtin "BaseException.__getattribute__")) = false := rfl
  have b2 : (Value.builtin "BaseException.__getattribute__" == Value.builtin "object.__getattribute__") = false := by decide +kernel
  have b1 : (onTheHeap (Value.ref D) && Value.builtin "BaseException.__getattribute__" == Value.builtin "object.__getattribute__") = false := by rw [b2]; rfl
  unfold getAttr? getAttrBy? getAttrBy
  refine wpAny_bind (wpAny_mkText (wpAny_bind (wpAny_attempt (wpAny_holding (wpAny_bind (l0.at (wpAny_bind (l1.at ?_))))))))
  show wpAny _ _ (if (onTheHeap (Value.ref D) && Value.builtin "BaseException.__getattribute__" == Value.builtin "object.__getattribute__") = true then _ else _) _ _ _
  rw [b1, if_neg Bool.false_ne_true]; unfold getAttrByItsOwn hookBefore
  refine wpAny_bind ?_
  rw [if_pos (show onTheHeap (Value.ref D) = true from rfl)]
  refine l2.at ?_
  refine wpAny_bind (wpAny_attempt (wpAny_holding ?_))
  unfold callGetattribute; rw [b0, if_neg Bool.false_ne_true]; unfold boundAndCalled
  rw [PySem.F.excAttr_ValueError.ga.bind (.ref x)]
  refine wpAny_bind (wpAny_pure ?_)
  show wpAny _ _ (call (.builtin "BaseException.__getattribute__") [.ref x, .str "__class__" tk]) _ _ _
  refine wpAny_call (codeAny_call_builtin PySem.F.excAttr_ValueError.ga.plain PySem.F.entry_bexc_ga ?_)
  refine @check_slot (model prog w) _ _ ⟨hp, gs, dr, tk + 1, os⟩ "BaseException.__getattribute__" "BaseException" "__getattribute__" (.ref x) [.str "__class__" tk] [] _ (by decide +kernel) (by decide +kernel) ls (PySem.F.args_bexc_ga (.ref x) (.str "__class__" tk)) ?_
  unfold Builtin.«object.__getattribute__»
  refine wpAny_bind (wpAny_of_eq (a := ((Value.ref x : Value), [Value.str "__class__" tk])) (by first | rfl | (simp only [slotArgs]; rfl)) ?_)
  refine wpAny_bind (wpAny_pure (wpAny_bind (l0.at (wpAny_bind (l3.at ?_)))))
  show wpAny _ _ (holding [Value.builtin "object.__class__"] (call (.builtin "getset_descriptor.__get__") [.builtin "object.__class__", .ref x, .ref D]) >>= ret) _ _ _
  refine wpAny_bind (wpAny_holding (wpAny_call (class_get (s := ⟨hp, gs, dr, tk + 1, os⟩) (ox := ox) (od := od) X I C.hm ?_)))
  refine wpAny_pure ?_
  show wpAny _ _ (handedOut (.ref D)) _ _ _
  rw [handedOut_of (v := .ref D) rfl]
  first
    | exact wpAny_pure (wpAny_pure h)
    | exact wpAny_pure h
    | exact wpAny_pure (wpAny_bind (wpAny_pure (wpAny_pure h)))
theorem fw_kitx (C : L2.ExcC K D) : KitX K (.ref x) (.ref D) (fun h => InstAt h x ox D od) where
  ty := fun _ _ _ I => I.type
  it := fun _ _ X _ => by
    obtain ⟨cd, hc, _⟩ := any_some C.hd
    unfold clsIn at hc; split at hc
    · rename_i ho
      intro A Q E s k q; unfold isType loadHead
      exact wpAny_bind (wpAny_loadPart (k _ _ (X _ _ ho)) (wpAny_pure q))
    · exact nomatch hc
  ne := fun h tp dd its n sl X htp => (handS_kitx_exc (x := x) (ox := ox) C.hg C.hk C.hs C.hd C.ha C.hn C.ht C.hm).ne h tp dd its n sl X htp
  ca := fun X I k => fw_class C X I k
end
end PySem.W

namespace FW
open PySem L2 PyProof.Rows
/-- an exception that is kept, at a: its class, its dict -/
def ExT (a : Addr) (cls : Value) (d : Option Addr) : HO := .ext fun h => ∃ (oe : Obj) (vs : Array Value), h.get? a = some oe ∧ Zc cls d oe ∧ oe.data = .fields vs
theorem exT_ok {P : Program} {w : World} {H : Hp} {h : Heap} {a : Addr} {cls : Value} {d : Option Addr} {oe : Obj} {vs : Array Value} (e : h.get? a = some oe) (z : Zc cls d oe) (f : oe.data = .fields vs) : ObjOk P w H h a (ExT a cls d) :=
  ⟨⟨oe, vs, e, z, f⟩, ⟨oe, e⟩, fun _ _ ⟨o, v, q, r⟩ k => ⟨o, v, k o q, r⟩⟩
theorem exT_at {P : Program} {w : World} {H : Hp} {h : Heap} {a : Addr} {cls : Value} {d : Option Addr} (ok : HOk P w H h) (e : H a = some (ExT a cls d)) : ∃ (oe : Obj) (vs : Array Value), h.get? a = some oe ∧ Zc cls d oe ∧ oe.data = .fields vs := by
  have x : ObjOk P w H h a (.ext fun h => ∃ (oe : Obj) (vs : Array Value), h.get? a = some oe ∧ Zc cls d oe ∧ oe.data = .fields vs) := ok a _ e
  exact x.1
section
variable {X : Cx} {pins : List (Addr × Obj)} {σ : L2.St} {H : Hp} {sI s' : Shared} {B : Heap} {a : Addr} {cls : Value} {d : Option Addr} {oe : Obj} {vs : Array Value}
/-- an exception has landed, and is kept from now on -/
theorem landT (I : Inv X pins σ H sI) (nb : ∀ b o, sI.heap.get? b = some o → b ∉ frs X.stack → B.get? b = some o) (ba : B.get? a = none) (na : H a = none) (nfr : a ∉ frs X.stack) (st : B.StaysIn s'.heap) (up : sI.heap.UpToSlots s'.heap) (os : s'.os = sI.os)
    (ag : AllBare s'.gens) (e : s'.heap.get? a = some oe) (z : Zc cls d oe) (f : oe.data = .fields vs) : Inv X pins σ (upd H a (ExT a cls d)) s' := by
  have gone : sI.heap.get? a = none := by
    cases q : sI.heap.get? a with
    | none => rfl
    | some o => have := nb a o q nfr; rw [ba] at this; exact nomatch this
  have ne : ∀ b o, sI.heap.get? b = some o → b ≠ a := fun b o q y => by rw [y, gone] at q; exact nomatch q
  have slot : ∀ b ∈ frs X.stack, ∀ o, sI.heap.get? b = some o → ∃ sl, s'.heap.get? b = some { o with slots := sl } := fun b hb o q => by
    obtain ⟨_, o', q', hd⟩ := I.stack.mem hb
    rw [q] at q'; cases q'
    exact up b o q hd
  refine I.call' (ch := []) os ⟨fun b o q _ hb _ => st b o (nb b o q hb), fun b o q _ hb _ => slot b hb o q, fun b o q n _ => by rw [upd_ne (ne b o q)]; exact n, fun b o q _ => ?_, fun b xs q => by rw [upd_ne (ne_of_none q na)]; exact q,
    fun b o u q => by rw [upd_ne (ne_of_none q na)]; exact q, fun b ps q => ⟨#[], by rw [upd_ne (ne_of_none q na), q]; simp⟩⟩ ?_ ag (fun _ y => nomatch y)
  · by_cases hb : b ∈ frs X.stack
    · obtain ⟨sl, y⟩ := slot b hb o q
      exact ⟨_, y⟩
    · exact ⟨o, st b o (nb b o q hb)⟩
  · exact HOk.laidN ((I.inGround nb).kept st) (fun _ _ y => y) na (exT_ok e z f)
/-- into a suite whose exception is kept -/
theorem toSuite (I : Inv X pins σ H sI) : Inv (X.suite a (X.pn ++ pins)) [] σ H sI :=
  ⟨I.ok.suite _ _, I.os, I.bare, I.base, I.loc, I.cell, I.free, I.freeC, fun p hp => by rw [List.append_nil] at hp; exact I.pin p hp, I.hok, I.len⟩
theorem ofSuite {pn' : List (Addr × Obj)} (I : Inv (X.suite a (X.pn ++ pins)) pn' σ H sI) (ok : X.Ok) : Inv X pins σ H sI :=
  ⟨ok, I.os, I.bare, I.base, I.loc, I.cell, I.free, I.freeC, fun p hp => I.pin p (List.mem_append_left _ hp), I.hok, I.len⟩
end
/-- what is wished of an exception by «except c as n: y = n»: it is kept; slot i is n's, slot j is y's -/
def wKeep (K : PySem.W.Frag) (c : Value) (n i j : Nat) (D : Ends) : WX := fun cls d σ H => PySem.W.exmOne K cls c = some true ∧ ∀ a, H a = none → σ.length = n → D.nx (((σ.set i (some (.ref a))).set j (some (.ref a))).set i none) (upd H a (ExT a cls d))
section
variable {X : Cx} {x n y : Str} {c : Value} {i j : Nat} {body : List Stmt} {np py pn' pa pos pos' : Pos} {tb : WX → TS}
theorem ps_try_keep (hs : X.stack = X.env :: X.outer) (hf : X.env.frame = some X.env.locals) (hN : X.N.Nodup) (hi : X.N[i]? = some n) (hln : X.env.kindOf n = some .local) (hj : X.N[j]? = some y) (hly : X.env.kindOf y = some .local) (hij : i ≠ j) (hc : Names X x c)
    (hb : ∀ (W : WX) (pn : List (Addr × Obj)) (xe : Value → Shared → Prop), Takes (X.tr pn xe) W → PassesOwn (model X.prog X.w) X.A X.env xe → PSs (X.tr pn xe) body (tb W))
    (hsw : swapsWith (.Name n pn') (some (.Name y py)) pa.line X.env = pure false := by rfl) (hdn : (n == ("__debug__" : Str)) = false := by decide) (hcn : (n == ("__classdict__" : Str)) = false := by decide) :
    PS X (.Try body [.ExceptHandler (some (.Name x np)) (some n) [.Assign [.Name y py] (.Name n pn') pa] pos'] [] [] pos) (fun D σ H => i < σ.length ∧ tb (wKeep X.K c X.N.length i j D) D σ H) := by
  refine ⟨fun pins s σ H D I h => ?_⟩
  obtain ⟨hlen, h⟩ := h
  have ok := I.ok
  have hfr : X.A.frames = some (X.env :: X.outer) := by rw [ok.frames, hs]
  refine wpAny_Try_except ?_
  refine wpAny_mono ((hb (wKeep X.K c X.N.length i j D) (X.pn ++ pins) _ (fun u s1 xx => ?c1) PassesOwn.looking).run [] s σ H D (I.toTry _) h) (fun f s1 hsp => ?flow) (fun e s1 he => he)
  case flow =>
    cases f with
    | next => obtain ⟨σ1, H1, J, q⟩ := hsp; exact wpAny_execs_nil ⟨σ1, H1, J.ofTry ok, q⟩
    | brk => obtain ⟨σ1, H1, J, q⟩ := hsp; exact ⟨σ1, H1, J.ofTry ok, q⟩
    | cont => obtain ⟨σ1, H1, J, q⟩ := hsp; exact ⟨σ1, H1, J.ofTry ok, q⟩
    | ret u => obtain ⟨v, σ1, H1, J, r, q⟩ := hsp; exact ⟨v, σ1, H1, J.ofTry ok, r, q⟩
  case c1 =>
    obtain ⟨a, B, sI, pins1, σ1, H1, cls, d, rfl, J1, nb, up, sky, na, os, ag, hm, hyes⟩ := xx
    have J : Inv X pins σ1 H1 sI := J1.ofTry ok
    have sky1 : Sky B (X.env :: X.outer) a (Zc cls d) X.env.locals s1.heap := by rw [← hs]; exact sky
    show wpAny (model X.prog X.w) X.A (noteFrame (.ref a) X.env) _ _ _
    refine Sky.land Zc.steady hfr hf sky1 fun h3 fl3 up3 => ?_
    obtain ⟨oe3, vs3, he3, hz3, hd3⟩ := fl3.there
    have notFr : a ∉ frs X.stack := fun hmem => by
      rw [hs] at hmem
      obtain ⟨_, o', e', hnf⟩ := fl3.2.2.1.mem hmem
      rw [he3] at e'; cases e'
      exact hnf _ hd3
    have J3 : Inv X pins σ1 (upd H1 a (ExT a cls d)) { s1 with heap := h3 } := landT J nb fl3.2.1 na notFr fl3.1 (up.trans up3) os ag he3 hz3 hd3
    have S3 : Inv (X.suite a (X.pn ++ pins)) [] σ1 (upd H1 a (ExT a cls d)) { s1 with heap := h3 } := toSuite J3
    refine wpAny_handleBy_cons (codeAny_handlers_test ?_) (by intro q; cases q)
    have lt : PySem.W.Looks (model X.prog X.w) h3 (typeOf (.ref a)) cls := fun A Q E s k q => wpAny_typeOf_ref (k _ _ he3) (by rw [hz3.1]; exact q)
    have lm := PySem.W.exm_one (M := model X.prog X.w) J3.kIn lt hm
    have test : ∀ {Q : Value → Shared → Prop} {E : Value → Shared → Prop}, Q c { s1 with heap := h3 } → wpAny (model X.prog X.w) (X.A.mark (some (.ref a))) (eval (.Name x np) X.env) Q E { s1 with heap := h3 } := fun {Q E} q => by
      obtain ⟨g1, g2, g3 | ⟨g3, g4, g5⟩⟩ := hc
      · exact ld_glob (X := X.suite a (X.pn ++ pins)) S3 g1 g3 q g2
      · exact ld_blt (X := X.suite a (X.pn ++ pins)) S3 g1 g3 g4 q g5 g2
    refine test (lm.here ?_)
    refine codeAny_handlers_suite_as (HandSPX.lands_againZ fl3 fun h4 fl4 up4 => ?_)
    obtain ⟨oe4, vs4, he4, hz4, hd4⟩ := fl4.there
    have J4 : Inv X pins σ1 (upd H1 a (ExT a cls d)) { s1 with heap := h4 } := landT J nb fl4.2.1 na notFr fl4.1 ((up.trans up3).trans up4) os ag he4 hz4 hd4
    refine store_ok (X := X.suite a (X.pn ++ pins)) (v := .ref a) (toSuite J4) hN hi (.inl hln) rfl (fun s5 S5 => ?_) (.inr hln)
    have suite : PSs (X.suite a (X.pn ++ pins)) [.Assign [.Name y py] (.Name n pn') pa] (tAsg (tVar i) (gName j)) :=
      pss_one (ps_set hN hj (.inl hly) (pe_var hi (.inl hln) hdn hcn) hsw (.inr hly))
    refine wpAny_mono (suite.run [] s5 _ _ { nx := fun σ6 H6 => D.nx (σ6.set i none) H6, rt := fun _ _ => False } S5 ?_) (fun f s6 hsp => ?_) (fun _ _ z => z.elim)
    · refine ⟨.ref a, ?_, ?_⟩
      · have : i < σ1.length := by rw [J.len]; rw [I.len] at hlen; exact hlen
        rw [List.getElem?_set_self this]
      · exact hyes a na J.len
    · cases f with
      | next =>
        obtain ⟨σ6, H6, S6, q6⟩ := hsp
        exact gone_ok (ofSuite S6 ok) hN hi hln fun s7 J7 => ⟨_, _, J7, q6⟩
      | brk => obtain ⟨σ6, H6, S6, q6⟩ := hsp; exact q6.elim
      | cont => obtain ⟨σ6, H6, S6, q6⟩ := hsp; exact q6.elim
      | ret u => obtain ⟨v6, σ6, H6, S6, r6, q6⟩ := hsp; exact q6.elim
end

/-- isinstance(e, c), e an exception that is kept -/
def rIsX (K : PySem.W.Frag) : List V → Hp → VK → Prop := fun xs H Q => ∃ (a D : Addr) (d : Option Addr) (c : V) (cv : Value) (b : Bool), xs = [.ref a, c] ∧ H a = some (ExT a (.ref D) d) ∧ ExcC K D ∧
  (d = none ∨ ∃ (dd : Addr) (fs : List (Str × V)), d = some dd ∧ H dd = some (.xd fs)) ∧ ClsV c cv ∧ PySem.W.kitOne K (.ref D) cv = some b ∧ Q (.bl b) H
theorem inst_of {X : Cx} {pins : List (Addr × Obj)} {σ : L2.St} {H : Hp} {s : Shared} {a D : Addr} {d : Option Addr} (I : Inv X pins σ H s) (e : H a = some (ExT a (.ref D) d)) (hd : d = none ∨ ∃ (dd : Addr) (fs : List (Str × V)), d = some dd ∧ H dd = some (.xd fs)) :
    ∃ (ox : Obj) (od : Option Obj), PySem.W.InstAt s.heap a ox D od := by
  obtain ⟨oe, vs, h1, h2, h3⟩ := exT_at I.hok e
  obtain ⟨oc, ob, odt, osl⟩ := oe
  obtain ⟨z1, z2⟩ := h2
  dsimp only at z1 z2 h3
  subst z1 z2 h3
  rcases hd with rfl | ⟨dd, fs, rfl, hx⟩
  · exact ⟨_, none, h1, rfl, rfl, trivial⟩
  · obtain ⟨mA, ⟨o, es, ep, ho, _⟩, _⟩ := (show ObjOk X.prog X.w H s.heap dd (.xd fs) from I.hok dd _ hx)
    exact ⟨_, some o, h1, rfl, rfl, ho⟩
theorem call_isX {X : Cx} : CallR X (.builtin "isinstance") (rIsX X.K) := by
  intro pins s σ H xs us Q I r h
  obtain ⟨a, D, d, c, cv, b, rfl, e, C, hd, k, q1, q⟩ := h
  obtain ⟨u1, u2, rfl, r1, r2⟩ := vals2 r
  cases (show u1 = Value.ref a from r1)
  have e2 := k.eq r2
  subst e2
  obtain ⟨ox, od, J⟩ := inst_of I e hd
  exact PySem.W.kia_one (PySem.W.fw_kitx C) I.kIn J q1 (fun z => nomatch z) fun tk => ⟨.bl b, H, I.tok tk, rfl, q⟩
/-- isinstance of a plain value, or of an exception that is kept -/
def rIsA (K : PySem.W.Frag) : List V → Hp → VK → Prop := fun xs H Q => rIsi K xs H Q ∨ rIsX K xs H Q
theorem call_isA {X : Cx} : CallR X (.builtin "isinstance") (rIsA X.K) := by
  intro pins s σ H xs us Q I r h
  rcases h with h | h
  · exact call_isi pins s σ H xs us Q I r h
  · exact call_isX pins s σ H xs us Q I r h
theorem w_isIntA {K : PySem.W.Frag} {H : Hp} {Q : VK} {v : V} (h : Kn K H v) (q : Q (.bl (isIntB v)) H) : rIsA K [v, .ty "int"] H Q := Or.inl (w_isInt h q)
theorem w_isBlA {K : PySem.W.Frag} {H : Hp} {Q : VK} {v : V} (h : Kn K H v) (q : Q (.bl (isBl v)) H) : rIsA K [v, .ty "bool"] H Q := Or.inl (w_isBl h q)
theorem w_isStrA {K : PySem.W.Frag} {H : Hp} {Q : VK} {v : V} (h : Kn K H v) (q : Q (.bl (isStr v)) H) : rIsA K [v, .ty "str"] H Q := Or.inl (w_isStr h q)
/-- e.f, e an exception that is kept -/
def tXt (K : PySem.W.Frag) (f : Str) (te : TE) : TE := fun σ H Q => te σ H fun x H1 => ∃ (a C dd : Addr) (fs : List (Str × V)) (v : V), x = .ref a ∧ H1 a = some (ExT a (.ref C) (some dd)) ∧ H1 dd = some (.xd fs) ∧ XfC K C ∧
  PySem.W.findIn K (.ref C) f = some none ∧ fs.lookup f = some v ∧ Q v H1
theorem pe_xt {X : Cx} {e : Expr} {te : TE} {pos : Pos} {f : Str} (he : PE X e te) (hb : attributeBase e f X.env (eval e X.env) = eval e X.env := by rfl) : PE X (.Attribute e f pos) (tXt X.K f te) := by
  refine ⟨fun pins s σ H Q I h => attr_of hb (thn (he.run pins s σ H _ I h) fun u s1 ⟨x, H1, I1, rx, a, C, dd, fs, v, ex, ea, ed, T, hno, hl, q⟩ => ?_)⟩
  subst ex
  obtain rfl : u = Value.ref a := rx
  obtain ⟨oe, vs, h1, h2, h3⟩ := exT_at I1.hok ea
  obtain ⟨mA, hns, hr⟩ := (show ObjOk X.prog X.w H1 s1.heap dd (.xd fs) from I1.hok dd _ ed)
  obtain ⟨od, ho, l⟩ := lookIn_ns hns
  obtain ⟨z, hz, rz⟩ := RelO.some_of (v := v) (o := mA f) (by rw [← hl]; exact hr f)
  have J : PySem.W.InstAt s1.heap a oe C (some od) := ⟨h1, h2.1, by unfold PySem.W.notCls; rw [h3] <;> rfl, by rw [h2.2]; exact ho⟩
  exact HandSPX.exc_get I1.kIn J T.ga T.gg T.exC (PySem.W.findObj_own T.hdC hno rfl (by rw [l, hz])) (handed_of rz) ⟨v, H1, I1.tok _, rz, q⟩

/-! ### an own exception of one field, made and raised -/
/-- its __init__: self.f = v -/
def spInit1 (K : PySem.W.Frag) (C : Addr) (f : Str) : Sp := fun vs H Q _ => ∃ (a : Addr) (v : V), vs = [.ref a, v] ∧ OexC K C ∧ PySem.W.findIn K (.ref C) f = some none ∧ H a = some (exo a C none) ∧
  ∀ dx, H dx = none → dx ≠ a → Q .non (upd (upd H dx (exd dx [(f, v)])) a (exo a C (some dx)))
/-- what the text says of such a class -/
structure Exn (P : Program) (w : World) (K : PySem.W.Frag) (mg : Str → Option Value) (base : Heap) (cn f : Str) (C : Addr) : Prop where
  oex : OexC K C
  gC : mg cn = some (.ref C)
  no : PySem.W.findIn K (.ref C) f = some none
  xf : XfC K C
  exc : ExcC K C
  init : ∃ (fI : Addr) (fd : FuncData) (ps : List Str), PySem.W.findIn K (.ref C) "__init__" = some (some (.ref fI)) ∧ PySem.W.typeIn K (.ref fI) = some (.type "function") ∧ FnOk P w K mg base CX0 1 fI fd ps (spInit1 K C f) ∧ Binds K fd ps []
theorem del_upd {H : Hp} {a d : Addr} {o1 o2 o3 o4 : HO} (n : H a = none) (hne : d ≠ a) : upd (del (upd (upd (upd H a o1) d o2) a o3) a) d o4 = upd H d o4 := by
  funext b
  by_cases h1 : b = d
  · subst h1; rw [upd_same, upd_same]
  · rw [upd_ne h1, upd_ne h1]
    by_cases h2 : b = a
    · subst h2; rw [del_same, n]
    · rw [del_ne h2, upd_ne h2, upd_ne h1, upd_ne h2]
def rMk1 (K : PySem.W.Frag) (C : Addr) (f : Str) (Q : XK) : List V → Hp → Prop := fun vs H1 => vs.length ≤ 1000 ∧ ∀ a, H1 a = none → spInit1 K C f (.ref a :: (vs ++ [])) (upd H1 a (exo a C none))
  (fun v H2 => v = .non ∧ ∃ (d : Addr) (fs : List (Str × V)), H2 a = some (exo a C (some d)) ∧ H2 d = some (exd d fs) ∧ H1 d = none ∧ Q (.ref C) (some d) (upd (del H2 a) d (.xd fs))) (fun _ _ _ => False)
theorem w_mk1 {K : PySem.W.Frag} {C : Addr} {f : Str} {Q : XK} {v : V} {H1 : Hp} (T : OexC K C) (no : PySem.W.findIn K (.ref C) f = some none) (q : ∀ d, H1 d = none → Q (.ref C) (some d) (upd H1 d (.xd [(f, v)]))) : rMk1 K C f Q [v] H1 := by
  refine ⟨by simp, fun a na => ⟨a, v, rfl, T, no, upd_same, fun dx n1 n2 => ⟨rfl, dx, [(f, v)], upd_same, ?_, ?_, ?_⟩⟩⟩
  · rw [upd_ne n2, upd_same]
  · rw [upd_ne n2] at n1; exact n1
  · rw [del_upd na n2]; rw [upd_ne n2] at n1; exact q dx n1
def tRaise1 (K : PySem.W.Frag) (C : Addr) (f : Str) (W : WX) (ta : TA) : TS := fun _ σ H => ta σ H (rMk1 K C f fun cls d H' => W cls d σ H')
theorem ps_raise1 {X : Cx} {W : WX} {cn f : Str} {C : Addr} {e : Expr} {ta : TA} {p pos pos2 : Pos} (T : Exn X.prog X.w X.K X.mg X.base cn f C) (hc : X.calm = true) (hr : Room 2 X.A) (tk : Takes X W) (ha : PA X [e] ta) (hg : Gl X cn)
    (hdb : (cn == ("__debug__" : Str)) = false := by decide) (he : starEach (e :: []) X.env = (false, eval e X.env) :: starEach [] X.env := by rfl) (hpl : (backTo pos (starEach [] X.env)).any (·.1) = false := by rfl) :
    PS X (.Raise (some (.Call (.Name cn p) [e] [] pos)) none pos2) (tRaise1 X.K C f W ta) := by
  obtain ⟨fI, fd, ps, iC, tI, F, b⟩ := T.init
  exact ps_raise hc tk (pmk_oex (p := p) (dvs := []) (ds := []) T.oex iC tI F hr b .nil (fun _ _ _ _ _ _ _ z => z.elim) hg T.gC ha hdb he hpl)
theorem w_raise1 {K : PySem.W.Frag} {C : Addr} {f : Str} {W : WX} {ta : TA} {σ : L2.St} {H : Hp} {D : Ends} (h : ta σ H (rMk1 K C f fun cls d H' => W cls d σ H')) : tRaise1 K C f W ta D σ H := h
end FW

set_option maxRecDepth 100000
set_option maxHeartbeats 4000000
/-! fair weather: repr of what a law makes; defs that are promised where no repr is under way -/
namespace FW
open PySem L2 PyProof.Rows
/-- what repr shows of a value -/
def rShow (K : PySem.W.Frag) : List V → Hp → VK → Prop := fun xs H Q =>
  (∃ i, xs = [.int i] ∧ i.natAbs.log2 < 1920 ∧ Q (.str (PyData.shown (.int i))) H) ∨
  (∃ (a : Addr) (d : PyData), xs = [.ref a] ∧ Dp K H (.ref a) d ∧ d.showable = true ∧ d.hasDict = false ∧ d.depth ≤ 60 ∧ d.shown.length ≤ sizeLine ∧ Q (.str d.shown) H)
theorem call_show {X : Cx} (hg : X.A.guards = some []) (hu : X.A.units + 64 < cLine) : CallR X (.builtin "repr") (rShow X.K) := by
  intro pins s σ H xs us Q I r h
  rcases h with ⟨i, rfl, hz, q⟩ | ⟨a, d, rfl, hd, h1, h2, h3, h4, q⟩
  · exact SkE.call_repr_int pins s σ H [.int i] us Q I r ⟨i, rfl, hz, q⟩
  · obtain ⟨u, rfl, e⟩ := vals1 r
    obtain rfl : u = Value.ref a := e
    obtain ⟨as, rd⟩ := Dp.reads I d (.ref a) (.ref a) hd rfl
    exact repr_of_reads' rd h1 (PyData.noDict_hsm h2) hg (by omega) (fun _ _ e => e) (fun h' u tk hk => ⟨.str d.shown, H, I.kept hk, ⟨u, rfl⟩, q⟩) h4
/-- a def's promise, where no repr is under way -/
structure FnG (P : Program) (w : World) (K : PySem.W.Frag) (mg : Str → Option Value) (base : Heap) (CX : CXT) (k : Nat) (f : Addr) (fd : FuncData) (ps : List Str) (sp : Sp) : Prop where
  size : ∀ vs H Q E, sp vs H Q E → vs.length = ps.length
  goes : ∀ (A : Around) (outer : List Env) (s : Shared) (H : Hp) (args : Args) (us : List Value) (vs : List V) (Q : VK) (E : XK), A.guards = some [] → Room k A → Env0 P w K mg base A outer s H → BindsTo s fd args (ps.zip us) → Vals vs us →
    sp vs H Q E → codeAny (model P w) A (.call (.ref f) args) (CR CX outer P w H s Q E) s
section
variable {P : Program} {w : World} {K : PySem.W.Frag} {mg : Str → Option Value} {base : Heap} {CX : CXT}
theorem FnG.of {k : Nat} {f : Addr} {fd : FuncData} {ps : List Str} {sp : Sp} (F : FnOk P w K mg base CX k f fd ps sp) : FnG P w K mg base CX k f fd ps sp :=
  ⟨F.len, fun A outer s H args us vs Q E _ hr e0 hb hv hs => F.run A outer s H args us vs Q E hr e0 hb hv hs⟩
theorem guards_in {A : Around} {env : Env} (h : A.guards = some []) : (A.deeper env).guards = some [] := by
  exact h
theorem fun_okG {x qual : Str} {st : Stmt} {f : Addr} {fd : FuncData} {N ps : List Str} {k : Nat} {sp : Sp} (F : Fun K x qual st f fd) (S : FnScope N ps (defScope st)) (size : ∀ vs H Q E, sp vs H Q E → vs.length = ps.length)
    (walk : ∀ (cdv : Value) (A : Around) (outer : List Env) (s : Shared) (H : Hp) (vs : List V) (Q : VK) (E : XK), (A.deeper (envOfC qual (defScope st) s.heap.objs.size f cdv)).guards = some [] → Room k (A.deeper (envOfC qual (defScope st) s.heap.objs.size f cdv)) →
      (∀ oc od kV doc pm an ct osl, K.lookup f = some ⟨oc, od, .func (PySem.W.fnOf x qual (defArgs st) (defBody st) (defScope st) .none kV doc pm an cdv ct), osl⟩ → sp vs H Q E →
      ∃ t, PSs (cxOf CX P w K mg base N qual (defScope st) f cdv A outer s H E) (defBody st) t ∧ t { nx := fun _ H' => Q .non H', rt := Q } (L2.start N vs) H)) : FnG P w K mg base CX (k + 1) f fd ps sp := by
  obtain ⟨oc, od, kV, doc, pm, an, cdv, ct, osl, rfl, lk, hcd⟩ := F.ex
  exact ⟨size, fun A outer s H args us vs Q E hG hr e0 hb hv hs => LamX.run_ofS lk hcd S hr e0 hb hv (size _ _ _ _ hs) fun hr' => walk cdv A outer s H vs Q E (guards_in hG) hr' oc od kV doc pm an ct osl lk hs⟩
/-- a def under its name that is so promised -/
structure CanG (P : Program) (w : World) (K : PySem.W.Frag) (mg : Str → Option Value) (base : Heap) (CX : CXT) (k : Nat) (x : Str) (ps : List Str) (sp : Sp) : Prop where
  at_ : ∃ (f : Addr) (fd : FuncData), FnG P w K mg base CX k f fd ps sp ∧ mg x = some (.ref f) ∧ PySem.W.keepIn K (.ref f) = true ∧ Binds K fd ps []
theorem CanG.of {k : Nat} {x : Str} {ps : List Str} {sp : Sp} (c : Can P w K mg base CX k x ps sp) : CanG P w K mg base CX k x ps sp := by
  obtain ⟨f, fd, F, m, kp, b⟩ := c.ex
  exact ⟨f, fd, .of F, m, kp, b⟩
theorem canG_of {k : Nat} {x : Str} {st : Stmt} {ps : List Str} {sp : Sp} (d : DefOk K mg x st ps) (h : ∀ f fd, Fun K x x st f fd → FnG P w K mg base CX k f fd ps sp) : CanG P w K mg base CX k x ps sp := by
  obtain ⟨f, fd, F, m, b⟩ := d.ex
  exact ⟨f, fd, h f fd F, m, F.kp, b⟩
end
section
variable {X : Cx} {CX : CXT} {k j : Nat} {x : Str} {ps : List Str} {sp : Sp} {E : XK} {p pos : Pos} {e : Expr} {es : List Expr} {t : TA}
theorem pe_canG (c : CanG X.prog X.w X.K X.mg X.base CX k x ps sp) (hG : X.A.guards = some []) (hr : Room j X.A) (hk : k ≤ j) (hx : Passes CX X E) (hg : Gl X x) (ha : PA X (e :: es) t) (hdb : (x == ("__debug__" : Str)) = false := by decide)
    (he : starEach (e :: es) X.env = (false, eval e X.env) :: starEach es X.env := by rfl) (hpl : (backTo pos (starEach es X.env)).any (·.1) = false := by rfl) :
    PE X (.Call (.Name x p) (e :: es) [] pos) (tCall sp [] E t) := by
  obtain ⟨f, fd, F, m, kp, b⟩ := c.at_
  refine ⟨fun pins s σ H Q I h => wpAny_Call_Name_kw (ld_glob I hg m (PySem.W.callWith_K (h₀ := X.base) I.ok.mod.kin kp (thn (ha.run pos pins s σ H _ I h) fun us s1 y => ?_) he hpl) hdb)⟩
  obtain ⟨vs, H1, J, r, q⟩ := y
  rw [List.append_nil] at q
  have n : us.length = ps.length := by rw [← r.length]; exact F.size _ _ _ _ q
  have bind := b s1 us J.kIn (by rw [List.append_nil]; exact n)
  rw [List.append_nil] at bind
  refine ⟨J.kIn, wpAny_call (codeAny_mono (F.goes X.A X.stack s1 H1 ⟨us, []⟩ us vs Q E hG (hr.mono hk) J.env0 bind r q) fun z s2 hz => ?_)⟩
  match z, hz with
  | .error err, hz => exact hx pins σ H1 s1 err s2 J hz
  | .ok (.ret u), hz => exact J.after hz
  | .ok .next, hz => exact (show False from hz).elim
  | .ok .brk, hz => exact (show False from hz).elim
  | .ok .cont, hz => exact (show False from hz).elim
end
end FW

set_option maxRecDepth 100000
set_option maxHeartbeats 4000000
/-! fair weather: from the promise of a law's def to the row, where no repr is under way -/
namespace FW
open PySem L2 PyProof.Rows LamX
section
variable {P : Program} {w : World} {K : PySem.W.Frag} {mg mb : Str → Option Value} {a : Addr} {cs : List (Addr × Addr)} {vs : List Value} {ns : List Int} {s : Shared}
/-- what stands behind the top, when the law is called -/
structure Ready (K : PySem.W.Frag) (mg mb : Str → Option Value) (a : Addr) (cs : List (Addr × Addr)) (vs : List Value) (ns : List Int) (s : Shared) : Prop where
  kin : K.In s.heap
  glo : s.heap.Ns mainGlobals mg
  blt : s.heap.Ns builtinsNs mb
  same : ∀ x : Str, x ≠ "__name__" → mb x = bootBuiltins x
  lim : s.heap.NoLimit
  gens : s.gens = #[]
  tabs : ∀ p ∈ cs, s.heap.get? p.2 = some { cls := .none, data := .fields #[] }
  off : ∀ p ∈ cs, K.lookup p.2 = none
  heads : ∀ p ∈ cs, PySem.W.CodeHd s.heap p.1 p.2
  bmain : ∃ (bm : Addr) (ob : Obj), mg "__builtins__" = some (.ref bm) ∧ bm ≠ builtinsNs ∧ s.heap.get? bm = some ob ∧ ob.cls = .type "module" ∧ ob.dict = some builtinsNs ∧ ob.data = .plain
  list : s.heap.get? a = some { cls := .type "list", data := .seq vs.toArray }
  nums : IntsAre vs ns
  size : ns.length ≤ sizeLine
/-- what an abstract heap may track then -/
structure Tracks (K : PySem.W.Frag) (a : Addr) (cs : List (Addr × Addr)) (H : Hp) : Prop where
  all : ∀ b u, H b = some u → (b = a ∧ K.lookup a = none ∧ ∃ o xs, u = .frz o (.lst xs)) ∨ ∃ p ∈ cs, b = p.2 ∧ u = .tbl #[]
  tab : ∀ p ∈ cs, H p.2 = some (.tbl #[])
variable {H : Hp}
theorem Ready.lone (R : Ready K mg mb a cs vs ns s) {p : Addr × Addr} (hp : p ∈ cs) : p.2 ≠ a := fun z => by
  have q := R.tabs p hp
  rw [z, R.list] at q
  cases q
/-- an object that is no list and no table is not tracked -/
theorem Ready.other (R : Ready K mg mb a cs vs ns s) (T : Tracks K a cs H) {b : Addr} {o : Obj} (e : s.heap.get? b = some o) (h1 : ∀ us n, o.data ≠ .seq us n) (h2 : o.data ≠ .fields #[]) : H b = none := by
  match q : H b with
  | none => rfl
  | some u =>
    rcases T.all b u q with ⟨rfl, _⟩ | ⟨p, hp, rfl, _⟩
    · rw [R.list] at e; cases e; exact (h1 _ _ rfl).elim
    · rw [R.tabs p hp] at e; cases e; exact (h2 rfl).elim
theorem Ready.under (R : Ready K mg mb a cs vs ns s) (T : Tracks K a cs H) {b : Addr} {m : Str → Option Value} (h : s.heap.Ns b m) : (hidT s.heap H).Ns b m := by
  obtain ⟨o, es, ep, e, d, r⟩ := h
  refine ⟨o, es, ep, hidT_get e (R.other T e (fun us n z => ?_) (fun z => ?_)), d, r⟩ <;> (rw [d] at z; cases z)
theorem Ready.kbase (R : Ready K mg mb a cs vs ns s) (T : Tracks K a cs H) : K.In (hidT s.heap H) := by
  intro b o e
  refine hidT_get (R.kin b o e) ?_
  match q : H b with
  | none => rfl
  | some u =>
    rcases T.all b u q with ⟨rfl, n, _⟩ | ⟨p, hp, rfl, _⟩
    · rw [n] at e; cases e
    · rw [R.off p hp] at e; cases e
theorem Ready.tabB (R : Ready K mg mb a cs vs ns s) (T : Tracks K a cs H) {p : Addr × Addr} (hp : p ∈ cs) : TabB (hidT s.heap H) mg p.1 p.2 := by
  have tb := R.tabs p hp
  constructor
  · obtain ⟨o, us, file, tf, flags, tg, inF, text, tt, e, r1, r2, r3, rest⟩ := R.heads p hp
    refine ⟨o, us, file, tf, flags, tg, inF, text, tt, hidT_get e (R.other T e (fun _ _ z => ?_) (fun z => ?_)), r1, r2, r3, rest⟩ <;> (rw [r2] at z; cases z)
    simp at r3
  · obtain ⟨bm, ob, b1, b2, b3, b4, b5, b6⟩ := R.bmain
    have plain : H bm = none := R.other T b3 (fun _ _ z => by rw [b6] at z; cases z) (fun z => by rw [b6] at z; cases z)
    refine ⟨bm, ob, b1, b2, fun q => ?_, fun q => ?_, hidT_get b3 plain, b4, b5, b6⟩
    · obtain ⟨o, es, ep, e, d, _⟩ := R.glo
      rw [q, e] at b3; cases b3
      rw [d] at b6; cases b6
    · rw [q, tb] at b3; cases b3; cases b6
  · intro z
    obtain ⟨o, es, ep, e, d, _⟩ := R.glo
    rw [z, tb] at e; cases e; cases d
theorem Ready.env (R : Ready K mg mb a cs vs ns s) (T : Tracks K a cs H) (ok : HOk P w H s.heap) : Env0 P w K mg (hidT s.heap H) callerA [] s H where
  frames := rfl
  mod := ⟨R.kbase T, R.under T R.glo, ⟨mb, R.under T R.blt, R.same⟩, by obtain ⟨mc, h1, h2⟩ := R.lim; exact ⟨mc, R.under T h1, h2⟩⟩
  bs := fun b o e => of_hidT e
  bsz := Nat.le_of_eq (hidT_size _ _)
  funs := trivial
  frf := fun b hb => nomatch (show b ∈ ([] : List Addr) from hb)
  hok := ok
  bare := .of_eq R.gens
/-- the law's call, from such a heap -/
theorem Ready.call (R : Ready K mg mb a cs vs ns s) (T : Tracks K a cs H) (ok : HOk P w H s.heap) (sq : SqL K H a (ns.map V.int)) {CX : CXT} {k : Nat} {fa : Addr} {fd : FuncData} {x : Str} {sp : Sp} (hr : Room k callerA)
    (F : ∀ base : Heap, K.In base → base.Ns mainGlobals mg → (∀ p ∈ cs, TabB base mg p.1 p.2) → FnG P w K mg base CX k fa fd [x] sp) (bind : ∀ (s : Shared) (u : Value), BindsTo s fd ⟨[u], []⟩ [(x, u)])
    (hsp : sp [.ref a] H (fun v _ => v = .bl true) fun _ _ _ => False) (hCX : ∀ H e s', CX [] H s (fun _ _ _ => False) e s' → False) :
    codeAny (model P w) callerA (.call (.ref fa) ⟨[.ref a], []⟩) (fun r s' => r = .ok (.ret (.bool true)) ∧ OldK s.heap s'.heap ∧ s'.os = s.os ∧ AllBare s'.gens) s := by
  have G := F _ (R.kbase T) (R.under T R.glo) (fun p hp => R.tabB T hp)
  refine codeAny_mono (G.goes callerA [] s H ⟨[.ref a], []⟩ [.ref a] [.ref a] (fun v _ => v = .bl true) (fun _ _ _ => False) rfl hr (R.env T ok) (bind s (.ref a)) (.cons rfl .nil) hsp) fun z s' hz => ?_
  match z, hz with
  | .error err, hz => exact (hCX H err s' hz).elim
  | .ok .next, hz => exact (show False from hz).elim
  | .ok .brk, hz => exact (show False from hz).elim
  | .ok .cont, hz => exact (show False from hz).elim
  | .ok (.ret u), hz =>
    obtain ⟨v, H', os, bare, un, ok', rv, rfl⟩ := hz
    obtain rfl : u = Value.bool true := rv
    have old : ∀ b o, (∀ p ∈ cs, p.2 ≠ b) → s.heap.get? b = some o → s'.heap.get? b = some o := fun b o nb e => by
      match q : H b with
      | none => exact un.keep b o e q (fun z => nomatch (show b ∈ ([] : List Addr) from z)) (by simp)
      | some u =>
        rcases T.all b u q with ⟨rfl, _, ob, xs, rfl⟩ | ⟨p, hp, e2, _⟩
        · have e1 := (ok b _ q).1
          have e2 := (ok' b _ (un.frzs b ob _ q)).1
          rw [e] at e1; cases e1
          exact e2
        · exact (nb p hp e2.symm).elim
    have more : ∀ p ∈ cs, ∃ m : Array Value, s'.heap.get? p.2 = some { cls := .none, data := .fields m } := fun p hp => by
      obtain ⟨m, q⟩ := un.tbls p.2 #[] (T.tab p hp)
      exact ⟨_, ok' p.2 _ q⟩
    refine ⟨rfl, ⟨fun b o e => ?_, fun b o e => ?_⟩, os, bare⟩
    · by_cases hb : ∃ p ∈ cs, p.2 = b
      · obtain ⟨p, hp, rfl⟩ := hb
        obtain ⟨m, hm⟩ := more p hp
        have tb := R.tabs p hp
        rw [tb] at e; cases e
        exact .inr (.inl ⟨((R.heads p hp).tab tb).isCodeTable, rfl, #[], m, rfl, by rw [Array.empty_append]; exact hm⟩)
      · exact .inl (old b o (fun p hp z => hb ⟨p, hp, z⟩) e)
    · by_cases hb : ∃ p ∈ cs, p.2 = b
      · obtain ⟨p, hp, rfl⟩ := hb
        obtain ⟨m, hm⟩ := more p hp
        exact ⟨_, hm⟩
      · exact ⟨o, old b o (fun p hp z => hb ⟨p, hp, z⟩) e⟩
open Classical in
/-- the heap that tracks the tables, and the script where the text's part of the heap does not hold it -/
noncomputable def H0 (K : PySem.W.Frag) (a : Addr) (cs : List (Addr × Addr)) (vs : List Value) (ns : List Int) : Hp := fun b =>
  if ∃ p ∈ cs, p.2 = b then some (.tbl #[]) else if b = a ∧ K.lookup a = none then some (.frz { cls := .type "list", data := .seq vs.toArray } (.lst (ns.map V.int))) else none
theorem h0_tab {b : Addr} (h : ∃ p ∈ cs, p.2 = b) : H0 K a cs vs ns b = some (.tbl #[]) := by unfold H0; exact if_pos h
theorem h0_list (h : ¬ ∃ p ∈ cs, p.2 = a) (n : K.lookup a = none) : H0 K a cs vs ns a = some (.frz { cls := .type "list", data := .seq vs.toArray } (.lst (ns.map V.int))) := by
  unfold H0; rw [if_neg h]; exact if_pos ⟨rfl, n⟩
theorem Ready.tracks (R : Ready K mg mb a cs vs ns s) : Tracks K a cs (H0 K a cs vs ns) := by
  refine ⟨fun b u e => ?_, fun p hp => h0_tab ⟨p, hp, rfl⟩⟩
  unfold H0 at e
  split at e
  · rename_i h; obtain ⟨p, hp, e2⟩ := h; cases e
    exact .inr ⟨p, hp, e2.symm, rfl⟩
  · split at e
    · rename_i h; cases e
      exact .inl ⟨h.1, h.2, _, _, rfl⟩
    · cases e
theorem Ready.ok0 (R : Ready K mg mb a cs vs ns s) : HOk P w (H0 K a cs vs ns) s.heap := by
  intro b u e
  unfold H0 at e
  split at e
  · rename_i h; obtain ⟨p, hp, rfl⟩ := h; cases e
    exact R.tabs p hp
  · split at e
    · rename_i h; cases e
      obtain ⟨rfl, _⟩ := h
      exact ⟨R.list, by rw [List.length_map]; exact R.size, vs, _, vals_ints R.nums, R.list⟩
    · cases e
theorem Ready.sq0 (R : Ready K mg mb a cs vs ns s) : SqL K (H0 K a cs vs ns) a (ns.map V.int) := by
  have no : ¬ ∃ p ∈ cs, p.2 = a := fun ⟨p, hp, z⟩ => R.lone hp z
  match q : K.lookup a with
  | none => exact .inl (.inr ⟨_, h0_list no q⟩)
  | some o =>
    have e := R.kin a o q
    rw [R.list] at e; cases e
    exact .inr ⟨_, vs.toArray, _, q, rfl, rfl, rfl, by rw [List.size_toArray, R.nums.length]; exact R.size, by simpa using vals_ints R.nums⟩
end
/-- what is known of a law's promise behind the top -/
structure LawG (l : PySem.W.OpenLaw) (w : World) (K : PySem.W.Frag) (k n : Nat) (x : Str) (mg : Str → Option Value) (fa : Addr) (h : Heap) : Prop where
  ex : ∃ (fd : FuncData) (cs : List (Addr × Addr)) (sp : Sp), (∀ p ∈ cs, h.get? p.2 = some { cls := .none, data := .fields #[] }) ∧ (∀ p ∈ cs, K.lookup p.2 = none) ∧ (∀ p ∈ cs, PySem.W.CodeHd h p.1 p.2) ∧ (∀ (s : Shared) (u : Value), BindsTo s fd ⟨[u], []⟩ [(x, u)]) ∧
    (∀ (H : Hp) (a : Addr) (ns : List Int), ns.length ≤ n → (∀ z ∈ ns, Builtin.Int.intBits z ≤ 1048576) → (∀ p ∈ cs, H p.2 = some (.tbl #[])) → SqL K H a (ns.map V.int) → sp [.ref a] H (fun v _ => v = .bl true) fun _ _ _ => False) ∧
    ∀ base : Heap, K.In base → base.Ns mainGlobals mg → (∀ p ∈ cs, TabB base mg p.1 p.2) → FnG l.prog w K mg base L2.CX0 k fa fd [x] sp
theorem walkG {l : PySem.W.OpenLaw} {n k : Nat} {q : Program} {loose : List Str} {XP : (Str → Option Value) → Heap → Prop} {YP : World → Heap → Prop} {d : DefRec} {x : Str} (hn : l.most = some n) (hn2 : n ≤ sizeLine) (hdf : d.params.defaults = []) (hr : Room k callerA)
    (F : ∀ (w : World) (mg : Str → Option Value) (fa : Addr) (h : Heap), YP w h → h.Ns mainGlobals mg → mg d.name = some (.ref fa) → ∃ K : PySem.W.Frag, K.In h ∧ LawG l w K k n x mg fa h) : PySem.W.WalkO q loose XP YP l.row.toRowW d [] (fun f vs => PySem.call f vs) := by
  refine Att.attach_callB hn hdf fun w s₀ s mg mb fa o pm cd doc a vs ns G Y ho hd hcd hmg hobj hints hlen hbits hg => ?_
  obtain ⟨K, KX, ⟨fd, cs, sp, hT, nT, C, hb, hsp, hF⟩⟩ := F w mg fa s.heap Y G.T.g hmg
  have R : Ready K mg mb a cs vs ns s := ⟨KX, G.T.g, G.T.b, G.T.builtins, G.T.nolimit, hg, hT, nT, C, G.T.bmain, hobj, hints, Nat.le_trans hlen hn2⟩
  exact R.call R.tracks R.ok0 R.sq0 hr hF hb (hsp _ a ns hlen hbits R.tracks.tab R.sq0) fun H e s' z => z
end FW

set_option maxRecDepth 100000
set_option maxHeartbeats 4000000
/-! fair weather: what the laws have in common -/
namespace FW
open PySem L2 PyProof.Rows
/-! ### kinds of values, carried on -/
theorem TyX.grow {K : PySem.W.Frag} {c : Addr} {H H' : Hp} {a : Addr} {t : Value} (e : Ext c H H') (n : a ≠ c) (h : TyX K H (.ref a) t) : TyX K H' (.ref a) t := by
  cases h with
  | base b =>
    refine .base ?_
    cases b with
    | lst h => exact .lst (e _ _ n h)
    | frz h => exact .frz (e _ _ n h)
    | tup h => exact .tup (e _ _ n h)
    | dK h => exact .dK (e _ _ n h)
    | dT h => exact .dT (e _ _ n h)
    | ins h a1 a2 a3 a4 a5 => exact .ins (e _ _ n h) a1 a2 a3 a4 a5
  | set h => exact .set (e _ _ n h)
  | kList h k => exact .kList h k
  | kTuple h k => exact .kTuple h k
  | kDict h k => exact .kDict h k
  | fTuple h => exact .fTuple (e _ _ n h)
  | fDict h => exact .fDict (e _ _ n h)
theorem Kn.ext {K : PySem.W.Frag} {c : Addr} {H H' : Hp} {v : V} (e : Ext c H H') (n : v ≠ .ref c) (h : Kn K H v) : Kn K H' v := by
  cases v with
  | ref a =>
    obtain ⟨T, hT, t⟩ := h
    exact ⟨T, hT, TyX.grow e (fun z => n (by rw [z])) t⟩
  | _ => exact h
theorem kn_lst {K : PySem.W.Frag} {H : Hp} {p : Addr} {xs : List V} (e : H p = some (.lst xs)) : Kn K H (.ref p) := ⟨"list", .inl rfl, .base (.lst e)⟩
theorem kn_tup {K : PySem.W.Frag} {H : Hp} {p : Addr} {xs : List V} (e : H p = some (.tup xs)) : Kn K H (.ref p) := ⟨"tuple", .inr (.inl rfl), .base (.tup e)⟩
theorem kn_dK {K : PySem.W.Frag} {H : Hp} {p : Addr} {xs : List (Key × V)} (e : H p = some (.dK xs)) : Kn K H (.ref p) := ⟨"dict", .inr (.inr rfl), .base (.dK e)⟩
/-! ### a def whose code object is known -/
structure DefOkC (K : PySem.W.Frag) (mg : Str → Option Value) (x : Str) (st : Stmt) (ps : List Str) (c : Addr) : Prop where
  ex : ∃ (f : Addr) (fd : FuncData), Fun K x x st f fd ∧ mg x = some (.ref f) ∧ Binds K fd ps [] ∧ fd.code = .ref c
section
variable {P : Program} {w : World} {K : PySem.W.Frag} {mg : Str → Option Value} {base : Heap} {CX : CXT} {k : Nat} {x : Str} {st : Stmt} {ps N : List Str} {sp : Sp} {c : Addr}
theorem DefOkC.can (d : DefOkC K mg x st ps c) (h : ∀ f fd, Fun K x x st f fd → fd.code = .ref c → FnOk P w K mg base CX k f fd ps sp) : Can P w K mg base CX k x ps sp := by
  obtain ⟨f, fd, F, m, b, e⟩ := d.ex
  exact ⟨f, fd, h f fd F e, m, F.kp, b⟩
theorem fun_okC {f : Addr} {fd : FuncData} (F : Fun K x x st f fd) (hc : fd.code = .ref c) (S : FnScope N ps (defScope st)) (len : ∀ vs H Q E, sp vs H Q E → vs.length = ps.length)
    (walk : ∀ (A : Around) (outer : List Env) (s : Shared) (H : Hp) (vs : List V) (Q : VK) (E : XK), Room k (A.deeper (envOfC x (defScope st) s.heap.objs.size f (.ref c))) → sp vs H Q E →
      ∃ t, PSs (cxOf CX P w K mg base N x (defScope st) f (.ref c) A outer s H E) (defBody st) t ∧ t { nx := fun _ H' => Q .non H', rt := Q } (L2.start N vs) H) : FnOk P w K mg base CX (k + 1) f fd ps sp := by
  obtain ⟨oc, od, kV, doc, pm, an, cdv, ct, osl, rfl, lk, hcd⟩ := F.ex
  obtain rfl : cdv = .ref c := hc
  exact fn_of lk hcd S len walk
end
/-! ### what a lambda leaves as it was, tables of code objects -/
section
variable {K : PySem.W.Frag} {H H' : Hp} {c : Addr} {n : Nat} {T : List (Addr × Str)}
theorem ExtN.sqL {a : Addr} {xs : List V} (e : LamX.ExtN H H') (h : SqL K H a xs) : SqL K H' a xs := by
  rcases h with (h | ⟨o, h⟩) | h
  · exact .inl (.inl (e _ _ h nofun))
  · exact .inl (.inr ⟨o, e _ _ h nofun⟩)
  · exact .inr h
theorem ExtN.cloud (e : LamX.ExtN H H') (h : Cloud K H c n) : Cloud K H' c n := by
  obtain ⟨l, cells, rest, h1, h2, h3⟩ := h
  exact ⟨l, cells, rest, e _ _ h1 nofun, ExtN.sqL e h2, h3⟩
theorem ExtN.kn {v : V} (e : LamX.ExtN H H') (h : Kn K H v) : Kn K H' v := by
  cases v with
  | ref a =>
    obtain ⟨S, hS, t⟩ := h
    refine ⟨S, hS, ?_⟩
    cases t with
    | base b =>
      refine .base ?_
      cases b with
      | lst h => exact .lst (e _ _ h nofun)
      | frz h => exact .frz (e _ _ h nofun)
      | tup h => exact .tup (e _ _ h nofun)
      | dK h => exact .dK (e _ _ h nofun)
      | dT h => exact .dT (e _ _ h nofun)
    | set h => exact .set (e _ _ h nofun)
    | kList h k => exact .kList h k
    | kTuple h k => exact .kTuple h k
    | kDict h k => exact .kDict h k
    | fTuple h => exact .fTuple (e _ _ h nofun)
    | fDict h => exact .fDict (e _ _ h nofun)
  | _ => exact h
theorem tabs_ext (t : LamX.Tabs T H) (h : Cloud K H c n) (e : Ext c H H') : LamX.Tabs T H' := by
  obtain ⟨l, cells, rest, h1, _, _⟩ := h
  intro p hp
  obtain ⟨ps, t1, t2, t3⟩ := t p hp
  refine ⟨ps, e _ _ (fun z => by rw [z, h1] at t1; cases t1) t1, t2, fun pos cv hcv => ?_⟩
  obtain ⟨d, e1, e2⟩ := t3 pos cv hcv
  exact ⟨d, e1, e _ _ (fun z => by rw [z, h1] at e2; exact nomatch (show HO.lst _ = HO.ext _ from Option.some.inj e2)) e2⟩
end
/-- one value of two, by a test -/
theorem w_ifM {c : Bool} {Q : VK} {H : Hp} {x y : V} {A B : Prop} (ha : Q x H → A) (hb : Q y H → B) (h : Q (if c = true then x else y) H) : if c = true then A else B := by
  cases c with
  | true => exact ha h
  | false => exact hb h
theorem w_ifCC {c : Bool} {Q : VK} {σ : L2.St} {H : Hp} {x y : V} (h : Q (if c = true then x else y) H) : if c = true then tC x σ H Q else tC y σ H Q := by
  cases c with
  | true => exact h
  | false => exact h
theorem w_ifVC {c : Bool} {Q : VK} {σ : L2.St} {H : Hp} {i : Nat} {x y : V} (e : σ[i]? = some (some x)) (h : Q (if c = true then x else y) H) : if c = true then tVar i σ H Q else tC y σ H Q := by
  cases c with
  | true => exact ⟨x, e, h⟩
  | false => exact h
theorem Kn.grow {K : PySem.W.Frag} {H H' : Hp} {v : V} (g : Grow H H') (h : Kn K H v) : Kn K H' v := ExtN.kn (LamX.ExtN.of g) h
theorem w_neSelf {x : V} {H : Hp} {Q : VK} (s : scal x x = true) (q : Q (.bl false) H) : rNe x x H Q := ⟨s, by simp only [decide_true, Bool.not_true]; exact q⟩
theorem w_eqSelf {x : V} {H : Hp} {Q : VK} (s : scal x x = true) (q : Q (.bl true) H) : rEq x x H Q := ⟨s, by simp only [decide_true]; exact q⟩
/-! ### what repr shows of rows -/
theorem text_le (b : Nat) : ∀ (ts : List Str) (k : Nat) (acc : Str), (∀ t ∈ ts, t.length ≤ b) → (textFrom k acc ts).length ≤ acc.length + (b + 2) * ts.length
  | [], k, acc, _ => by show acc.length ≤ _; omega
  | t :: r, k, acc, h => by
    have ih := text_le b r (k + 1) (acc ++ (if k > 0 then ", " else "" : String) ++ t) (fun x hx => h x (List.mem_cons_of_mem _ hx))
    have ht := h t (List.mem_cons_self ..)
    have hs : ((if k > 0 then ", " else "" : String) : Str).length ≤ 2 := by split <;> decide
    show (textFrom (k + 1) (acc ++ (if k > 0 then ", " else "" : String) ++ t) r).length ≤ _
    rw [Str.length_append, Str.length_append] at ih
    rw [List.length_cons, Nat.mul_add]
    omega
theorem shownAll_ints : ∀ ns : List Int, PyData.shownAll (ns.map PyData.int) = ns.map fun n => PyData.shown (.int n)
  | [] => rfl
  | n :: ns => by show _ :: PyData.shownAll (ns.map PyData.int) = _; rw [shownAll_ints ns]; rfl
theorem showable_ints : ∀ ns : List Int, (∀ n ∈ ns, n.natAbs.log2 < 1920) → PyData.showableAll (ns.map PyData.int) = true
  | [], _ => rfl
  | n :: ns, h => by
    show (PyData.showable (.int n) && PyData.showableAll (ns.map PyData.int)) = true
    rw [showable_ints ns fun m hm => h m (List.mem_cons_of_mem _ hm), Bool.and_true]
    exact decide_eq_true (h n (List.mem_cons_self ..))
theorem noDict_ints : ∀ ns : List Int, PyData.hasDictAll (ns.map PyData.int) = false
  | [] => rfl
  | n :: ns => by show (PyData.hasDict (.int n) || PyData.hasDictAll (ns.map PyData.int)) = false; rw [noDict_ints ns]; rfl
theorem shown_ints {ns : List Int} (h : ∀ n ∈ ns, n.natAbs.log2 < 1920) (hl : ns.length ≤ 1000) : (PyData.shown (.list (ns.map PyData.int))).length ≤ sizeLine := by
  show (listText (PyData.shownAll (ns.map PyData.int))).length ≤ _
  rw [shownAll_ints, sizeLine_eq]
  unfold listText
  rw [Str.length_append]
  have z := text_le 1921 (ns.map fun n => PyData.shown (.int n)) 0 "[" (fun t ht => by
    obtain ⟨n, hn, rfl⟩ := List.mem_map.mp ht
    exact int_text_len_1921 (h n hn))
  rw [List.length_map] at z
  have e1 : (("[" : String) : Str).length = 1 := by decide
  have e2 : (("]" : String) : Str).length = 1 := by decide
  rw [e1] at z
  rw [e2]
  omega
theorem w_showI {K : PySem.W.Frag} {i : Int} {H : Hp} {Q : VK} (h : i.natAbs.log2 < 1920) (q : Q (.str (PyData.shown (.int i))) H) : rShow K [.int i] H Q := .inl ⟨i, rfl, h, q⟩
theorem w_showN {K : PySem.W.Frag} {a : Addr} {ns : List Int} {H : Hp} {Q : VK} (sq : SqL K H a (ns.map V.int)) (h : ∀ n ∈ ns, n.natAbs.log2 < 1920) (hl : ns.length ≤ 1000) (q : Q (.str (PyData.shown (.list (ns.map PyData.int)))) H) : rShow K [.ref a] H Q :=
  .inr ⟨a, .list (ns.map PyData.int), rfl, .lst sq (dpAll_ints K H ns), showable_ints ns h, noDict_ints ns, by have := depthAll_ints ns; simp only [PyData.depth]; omega, shown_ints h hl, q⟩
theorem dpAll_strs (K : PySem.W.Frag) (H : Hp) : ∀ ss : List Str, DpAll K H (ss.map V.str) (ss.map PyData.str)
  | [] => .nil
  | s :: ss => .cons (.str s) (dpAll_strs K H ss)
theorem w_showS {K : PySem.W.Frag} {a : Addr} {ss : List Str} {H : Hp} {Q : VK} (sq : SqT K H a (ss.map V.str)) (h : (PyData.tuple (ss.map PyData.str)).showable = true ∧ (PyData.tuple (ss.map PyData.str)).hasDict = false ∧ (PyData.tuple (ss.map PyData.str)).depth ≤ 60 ∧ (PyData.tuple (ss.map PyData.str)).shown.length ≤ sizeLine)
    (q : Q (.str (PyData.shown (.tuple (ss.map PyData.str)))) H) : rShow K [.ref a] H Q := .inr ⟨a, .tuple (ss.map PyData.str), rfl, .tup sq (dpAll_strs K H ss), h.1, h.2.1, h.2.2.1, h.2.2.2, q⟩
/-! ### calls by keywords alone -/
structure CanW (P : Program) (w : World) (K : PySem.W.Frag) (mg : Str → Option Value) (base : Heap) (CX : CXT) (k : Nat) (x : Str) (ks : List Str) (gV : List V → List V → List V) (sp : Sp) : Prop where
  at_ : ∃ (f : Addr) (fd : FuncData) (ps : List Str) (g : List Value → List Value → List Value), FnOk P w K mg base CX k f fd ps sp ∧ mg x = some (.ref f) ∧ PySem.W.keepIn K (.ref f) = true ∧ KBn K fd ps 0 ks g gV
theorem canW_of {P : Program} {w : World} {K : PySem.W.Frag} {mg : Str → Option Value} {base : Heap} {CX : CXT} {k : Nat} {x : Str} {st : Stmt} {ps ks : List Str} {sp : Sp} (π : {α : Type} → List α → List α) (d : DefOk K mg x st ps) (h : ∀ f fd, Fun K x x st f fd → FnOk P w K mg base CX k f fd ps sp)
    (rel : ∀ {zs : List V} {ws : List Value}, Vals zs ws → Vals (π zs) (π ws))
    (bind : ∀ (kV doc pm : Value) (an : Option Addr) (cdv ct : Value) (ws : List Value), ws.length = ks.length → bindArgs (PySem.W.fnOf x x (defArgs st) (defBody st) (defScope st) .none kV doc pm an cdv ct) ⟨[], ks.zip ws⟩ = pure (ps.zip (π ws))) :
    CanW P w K mg base CX k x ks (fun _ zs => π zs) sp := by
  obtain ⟨f, fd, F, m, _⟩ := d.ex
  have G := h f fd F
  have kp := F.kp
  obtain ⟨oc, od, kV, doc, pm, an, cdv, ct, osl, rfl, lk, hcd⟩ := F.ex
  refine ⟨f, _, ps, fun _ ws => π ws, G, m, kp, ⟨fun s us ws _ l1 l2 => ?_, fun _ r => rel r⟩⟩
  cases us with
  | nil => exact .of_eq (bind kV doc pm an cdv ct ws l2)
  | cons _ _ => cases l1
theorem pe_canW {X : Cx} {CX : CXT} {k j : Nat} {x : Str} {ks : List Str} {gV : List V → List V → List V} {sp : Sp} {E : XK} {p pos : Pos} {kws : List Keyword} {tk : TA} (c : CanW X.prog X.w X.K X.mg X.base CX k x ks gV sp) (hr : Room j X.A) (hk : k ≤ j) (hx : Passes CX X E) (hg : Gl X x) (hkw : PK X kws tk)
    (hall : (backToKw pos (keywordEach kws X.env)).all (·.1.isSome) = true := by rfl) (hks : (backToKw pos (keywordEach kws X.env)).filterMap (·.1) = ks := by rfl) (hdb : (x == ("__debug__" : Str)) = false := by decide)
    (hpl : ((backTo pos (starEach [] X.env)).any (·.1) || (backToKw pos (keywordEach kws X.env)).any (·.1.isNone)) = false := by rfl) : PE X (.Call (.Name x p) [] kws pos) (tCallN 0 ks.length sp gV E tNil tk) := by
  obtain ⟨f, fd, ps, g, F, m, kp, b⟩ := c.at_
  refine ⟨fun pins s σ H Q I h => wpAny_Call_Name_kw (ld_glob I hg m (PySem.W.callWith_KW0 (h₀ := X.base) I.ok.mod.kin kp hall (thn (hkw.run pos pins s σ H _ I h) fun ws s2 y => ?_) hpl) hdb)⟩
  obtain ⟨zs, H2, J, rz, l1, l2, q⟩ := y
  refine ⟨J.kIn, ?_⟩
  rw [hks]
  exact run_fnN (us := []) (vs := []) F (hr.mono hk) b hx J .nil rz l1 l2 q
theorem w_callN {n m : Nat} {sp : Sp} {gV : List V → List V → List V} {E : XK} {t tk : TA} {σ : L2.St} {H : Hp} {Q : VK} (h : t σ H fun vs H1 => tk σ H1 fun zs H2 => vs.length = n ∧ zs.length = m ∧ sp (gV vs zs) H2 Q E) : tCallN n m sp gV E t tk σ H Q := h
/-- one way or its opposite -/
theorem w_negV {c : Bool} {Q : VK} {σ : L2.St} {H : Hp} {i : Nat} {a : Int} (e : σ[i]? = some (some (.int a))) (h : Q (.int (if c = true then -a else a)) H) : if c = true then tUn (rU fun i => .int (-i)) (tVar i) σ H Q else tVar i σ H Q := by
  cases c with
  | true => exact ⟨_, e, a, rfl, h⟩
  | false => exact ⟨_, e, h⟩
/-! ### comprehensions: a value made of each item, the heap growing -/
section
variable {K : PySem.W.Frag} {te : TE} {i : Nat} {σ : L2.St} {H1 : Hp} {Q : VK} {a : Addr}
theorem pe_lc1 {X : Cx} {x : Str} {i : Nat} {elt tg iter : Expr} {ifs : List Expr} {scope : Scope} {pos : Pos} {wi : TI} {g : TG} {tt : TT} {te : TE} (hc : X.calm = true) (hN : X.N.Nodup) (hi : PI X tg iter wi) (ok : BlkOk X.N X.env.scope scope [(x, i)])
    (hg : ∀ (s : Shared) (H : Hp) (C : Addr) (cl : List (Str × Addr)) (fp : List Addr), PG (X.blk s H scope (compEnvC scope cl C X.env) fp) tg g) (ht : ∀ (s : Shared) (H : Hp) (C : Addr) (cl : List (Str × Addr)) (fp : List Addr), PTs (X.blk s H scope (compEnvC scope cl C X.env) fp) ifs tt)
    (he : ∀ (s : Shared) (H : Hp) (C : Addr) (cl : List (Str × Addr)) (fp : List Addr), PE (X.blk s H scope (compEnvC scope cl C X.env) fp) elt te) (hs : ∀ x, foldedSetIterable iter X.env x = pure x := by intro _; rfl) : PE X (.ListComp elt [⟨tg, iter, ifs, 0⟩] scope pos) (tLc wi g tt te [i]) :=
  pe_lc (own := [(x, i)]) hc hN hi ok hg ht he hs
theorem ps_setLc1 {X : Cx} {k i : Nat} {x y : Str} {py : Pos} {elt tg iter : Expr} {ifs : List Expr} {scope : Scope} {pos spos : Pos} {wi : TI} {g : TG} {tt : TT} {te : TE} (hc : X.calm = true) (hN : X.N.Nodup) (hy : X.N[i]? = some y) (hyl : X.env.scope.names.lookup y = some .local)
    (hsw : swapsWith (.ListComp elt [⟨tg, iter, ifs, 0⟩] scope pos) (some (.Name y py)) spos.line X.env = pure true) (hi : PI X tg iter wi) (ok : BlkOk X.N X.env.scope scope [(x, k)])
    (hg : ∀ (s : Shared) (H : Hp) (C : Addr) (cl : List (Str × Addr)) (fp : List Addr), PG (X.blk s H scope (compEnvC scope cl C X.env) fp) tg g) (ht : ∀ (s : Shared) (H : Hp) (C : Addr) (cl : List (Str × Addr)) (fp : List Addr), PTs (X.blk s H scope (compEnvC scope cl C X.env) fp) ifs tt)
    (he : ∀ (s : Shared) (H : Hp) (C : Addr) (cl : List (Str × Addr)) (fp : List Addr), PE (X.blk s H scope (compEnvC scope cl C X.env) fp) elt te) (hs : ∀ x, foldedSetIterable iter X.env x = pure x := by intro _; rfl) :
    PS X (.Assign [.Name y py] (.ListComp elt [⟨tg, iter, ifs, 0⟩] scope pos) spos) (tAsg (tLc wi g tt te [k]) (gName i)) := ps_setLc (own := [(x, k)]) hc hN hy hyl hsw hi ok hg ht he hs
/-- a turn: of the j-th item the j-th value is made -/
def Turns (te : TE) (i : Nat) (σ : L2.St) (H1 : Hp) (xs ys : List V) : Prop := ∀ (j : Nat) (x y : V) (H' : Hp) (R : VK), xs[j]? = some x → ys[j]? = some y → Grow H1 H' → (∀ H2, Grow H' H2 → R y H2) → te ((wipe σ [i]).set i (some x)) H' R
theorem lc_turn {xs ys : List V} {D : Addr} (hw : ∀ x, wipe ((wipe σ [i]).set i (some x)) [i] = wipe σ [i]) (hl : ys.length = xs.length) (hs : xs.length < sizeLine) (turn : Turns te i σ H1 xs ys) (nD : H1 D = none)
    (j : Nat) (x : V) (H' : Hp) (ex : xs[j]? = some x) (p : H' D = some (.lst (ys.take j)) ∧ Grow H1 H') :
    gName i x (wipe σ [i]) H' fun σ2 H2 => wipe σ2 [i] = wipe σ [i] ∧ tYes σ2 H2 fun b H3 => if b = true then te σ2 H3 fun y H4 => ∃ acc, H4 D = some (.lst acc) ∧ acc.length < sizeLine ∧
      (upd H4 D (.lst (acc ++ [y])) D = some (.lst (ys.take (j + 1))) ∧ Grow H1 (upd H4 D (.lst (acc ++ [y])))) else (H3 D = some (.lst (ys.take (j + 1))) ∧ Grow H1 H3) := by
  refine ⟨hw x, ?_⟩
  unfold tYes
  refine w_yes ?_
  have hj : j < ys.length := by rw [hl]; exact (List.getElem?_eq_some_iff.mp ex).1
  refine turn j x ys[j] H' _ ex (by simp [hj]) p.2 fun H2 g => ⟨ys.take j, g _ _ p.1, by rw [List.length_take]; omega, ?_, fun b o e => ?_⟩
  · rw [upd_same, List.take_succ_eq_append_getElem hj]
  · rw [upd_ne (ne_of_none e nD)]; exact g _ _ (p.2 _ _ e)
theorem lcL {Qd : Addr → Hp → Prop} {xs ys : List V} (hw : ∀ x, wipe ((wipe σ [i]).set i (some x)) [i] = wipe σ [i]) (hl : ys.length = xs.length) (hs : xs.length < sizeLine) (sq : SqL K H1 a xs) (turn : Turns te i σ H1 xs ys)
    (done : ∀ D H', H1 D = none → H' D = some (.lst ys) → Grow H1 H' → Qd D H') (D : Addr) (nD : H1 D = none) :
    ∃ W : Nat → Nat → Hp → Prop, (∃ m, W 0 m (upd H1 D (.lst []))) ∧ ∀ j m H, W j m H →
      ((Itl K a).stop j H ∧ Qd D H) ∨ ((Itl K a).go j H ∧ ∃ Nx : Hp → Prop, (∀ H', Nx H' → ∃ m', m' < m ∧ W (j + 1) m' H') ∧ ∀ x H', (Itl K a).yld j H x H' → gName i x (wipe σ [i]) H' fun σ2 H2 => wipe σ2 [i] = wipe σ [i] ∧ tYes σ2 H2 fun b H3 =>
        if b = true then te σ2 H3 fun y H4 => ∃ acc, H4 D = some (.lst acc) ∧ acc.length < sizeLine ∧ Nx (upd H4 D (.lst (acc ++ [y]))) else Nx H3) :=
  lc_list (xs := xs) (fun j H' => H' D = some (.lst (ys.take j)) ∧ Grow H1 H') ⟨upd_same, Grow.new nD⟩ (fun j H' _ p => p.2.sqL sq) (lc_turn hw hl hs turn nD) (fun H' p => done D H' nD (by rw [← hl, List.take_length] at p; exact p.1) p.2)
theorem lcT {Qd : Addr → Hp → Prop} {xs ys : List V} (hw : ∀ x, wipe ((wipe σ [i]).set i (some x)) [i] = wipe σ [i]) (hl : ys.length = xs.length) (hs : xs.length < sizeLine) (sq : SqT K H1 a xs) (turn : Turns te i σ H1 xs ys)
    (done : ∀ D H', H1 D = none → H' D = some (.lst ys) → Grow H1 H' → Qd D H') (D : Addr) (nD : H1 D = none) :
    ∃ W : Nat → Nat → Hp → Prop, (∃ m, W 0 m (upd H1 D (.lst []))) ∧ ∀ j m H, W j m H →
      ((Itt K a).stop j H ∧ Qd D H) ∨ ((Itt K a).go j H ∧ ∃ Nx : Hp → Prop, (∀ H', Nx H' → ∃ m', m' < m ∧ W (j + 1) m' H') ∧ ∀ x H', (Itt K a).yld j H x H' → gName i x (wipe σ [i]) H' fun σ2 H2 => wipe σ2 [i] = wipe σ [i] ∧ tYes σ2 H2 fun b H3 =>
        if b = true then te σ2 H3 fun y H4 => ∃ acc, H4 D = some (.lst acc) ∧ acc.length < sizeLine ∧ Nx (upd H4 D (.lst (acc ++ [y]))) else Nx H3) :=
  lc_tup (xs := xs) (fun j H' => H' D = some (.lst (ys.take j)) ∧ Grow H1 H') ⟨upd_same, Grow.new nD⟩ (fun j H' _ p => p.2.sqT sq) (lc_turn hw hl hs turn nD) (fun H' p => done D H' nD (by rw [← hl, List.take_length] at p; exact p.1) p.2)
end
/-- a part of a list of ints -/
theorem cut_ints (ns : List Int) (lo hi : Option Int) : ∃ ms : List Int, cutV (ns.map V.int) lo hi = ms.map V.int ∧ ms.length ≤ ns.length := by
  refine ⟨(ns.drop (HT.sIx (ns.map V.int).length 0 lo)).take (HT.sIx (ns.map V.int).length (ns.map V.int).length hi - HT.sIx (ns.map V.int).length 0 lo), ?_, ?_⟩
  · unfold cutV
    rw [List.map_take, List.map_drop]
  · rw [List.length_take, List.length_drop]; omega
/-! ### promises that all laws have -/
/-- the cloud of a script -/
def spBegin (K : PySem.W.Frag) : Sp := fun vs H Q _ => ∃ (a : Addr) (ns : List Int), vs = [.ref a] ∧ SqL K H a (ns.map V.int) ∧ ns.length ≤ 63 ∧ ∀ c H', H c = none → Grow H H' → Cloud K H' c 0 → Q (.ref c) H'
/-- one of some -/
def spOneOf (K : PySem.W.Frag) : Sp := fun vs H Q _ => ∃ (c : Addr) (n : Nat) (p : Addr) (xs : List V), vs = [.ref c, .ref p] ∧ Cloud K H c n ∧ n < 999990 ∧ SqL K H p xs ∧ p ≠ c ∧ 0 < xs.length ∧ xs.length < 1000000 ∧
  ∀ (x : V) (n' : Nat) (H' : Hp), x ∈ xs → n' ≤ n + 1 → Cloud K H' c n' → Ext c H H' → Q x H'
end FW

set_option maxRecDepth 100000
set_option maxHeartbeats 4000000
/-! fair weather: a lambda with one parameter that has a default, handed to a def -/
namespace FW
open PySem PySem.Spec PyProof.Rows L2 LamX
/-- its names: one parameter p, captured ones, globals; N: the names of the def that makes it -/
structure LamP (N : List Str) (sc scope : Scope) (p : Str) : Prop where
  kind : scope.kind = .function
  co : scope.isCoroutine = false
  gen : scope.isGenerator = false
  par : scope.names.lookup p = some .local
  nocell : ∀ z ∈ scope.names, z.2 ≠ .cell
  apart : ∀ z ∈ scope.names, z.2 = .local → z.1 ∉ N
  up : ∀ z ∈ scope.names, z.2 = .free → sc.names.lookup z.1 = some .cell ∨ sc.names.lookup z.1 = some .free
def lamPB (N : List Str) (sc scope : Scope) (p : Str) : Bool :=
  decide (scope.kind = .function) && (!scope.isCoroutine && (!scope.isGenerator && (decide (scope.names.lookup p = some .local) && scope.names.all fun z =>
    !decide (z.2 = .cell) && ((!decide (z.2 = .local) || !decide (z.1 ∈ N)) && (!decide (z.2 = .free) || (decide (sc.names.lookup z.1 = some .cell) || decide (sc.names.lookup z.1 = some .free)))))))
theorem lamP_by {N : List Str} {sc scope : Scope} {p : Str} (h : lamPB N sc scope p = true) : LamP N sc scope p := by
  unfold lamPB at h
  simp only [Bool.and_eq_true, Bool.or_eq_true, Bool.not_eq_true', decide_eq_true_eq, decide_eq_false_iff_not, List.all_eq_true] at h
  obtain ⟨k1, k2, k3, k4, k5⟩ := h
  refine ⟨k1, k2, k3, k4, fun z hz => (k5 z hz).1, fun z hz e => ?_, fun z hz e => ?_⟩
  · rcases (k5 z hz).2.1 with q | q
    · exact absurd e q
    · exact q
  · rcases (k5 z hz).2.2 with q | q
    · exact absurd e q
    · exact q
section
variable {X : Cx} {pins : List (Addr × Obj)} {σ : L2.St} {H HZ : Hp} {s s1 : Shared} {scope : Scope} {p : Str}
theorem LamP.cells (L : LamP X.N X.env.scope scope p) (ok : X.Ok) : ∀ z ∈ scope.names, z.2 = .free → ∃ c, X.env.cells.lookup z.1 = some c := fun z hz e => by
  rcases L.up z hz e with q | q
  · exact ok.has _ (.inl q)
  · exact ok.has _ (.inr q)
/-- its body begins -/
theorem startP {A : Around} {outer : List Env} {E : XK} {f c' : Addr} {g : Heap} {tk : Nat} {u : Value} (I : Inv X pins σ H s) (L : LamP X.N X.env.scope scope p) (en : Env0 X.prog X.w X.K X.mg X.base A outer s1 HZ) (calm : A.handled = none)
    (un : Un (frs X.stack) [] H HZ s.heap s1.heap) (ns : g.Ns s1.heap.objs.size fun y => ([(p, u)] : List (Str × Value)).reverse.lookup y) (kp : ∀ b o, s1.heap.get? b = some o → g.get? b = some o) :
    Inv (lamCx X A outer s1 HZ E scope f c') [] σ HZ { s1 with heap := g, toks := tk } := by
  have has := L.cells I.ok
  have mine : ∀ {y c}, (cloFrom X.env.cells scope.names []).lookup y = some c → X.env.cells.lookup y = some c := fun {y c} e => by
    rcases cloFrom_mem (PySem.mem_of_lookup e) with hm | ⟨m1, m2⟩
    · cases hm
    · obtain ⟨d, hd⟩ := has _ m1 rfl
      have hd' : X.env.cells.lookup y = some d := hd
      obtain rfl : c = d := by rw [m2, hd'] <;> rfl
      exact hd'
  have there : ∀ {y}, scope.names.lookup y = some .free → ∃ c, (cloFrom X.env.cells scope.names []).lookup y = some c := fun {y} hl =>
    mem_lookup (cloFrom_has (cells := X.env.cells) (acc := []) (show (y, NameKind.free) ∈ scope.names from PySem.mem_of_lookup hl))
  have still : ∀ {c : Addr} {v : Option Value}, H c = none → s.heap.IsCell c v → g.IsCell c v := fun {c v} n ⟨o, ho, hv⟩ => by
    obtain ⟨sl, q⟩ := un.any ho n (by simp)
    exact ⟨_, kp _ _ q, hv⟩
  have none_ : ∀ b : Addr, b ∉ (lamCx X A outer s1 HZ E scope f c').ex := fun b z => absurd (show b ∈ ([] : List Addr) from z) (by simp)
  have okL : (lamCx X A outer s1 HZ E scope f c').Ok := by
    refine ⟨en.mod, L.kind, rfl, rfl, Nat.le_refl _, ?i1, ?i2, ?i3, fun _ => calm, Around.frames_deeper en.frames, .inr ⟨rfl, rfl⟩, ?i4, en.bs, en.bsz, ?i5, ?i6, en.funs, en.frf⟩
    case i1 => exact fun y z c e1 e2 => I.ok.inj y z c (mine e1) (mine e2)
    case i2 =>
      intro y hy
      rcases (show scope.names.lookup y = some .cell ∨ scope.names.lookup y = some .free from hy) with q | q
      · exact absurd rfl (L.nocell _ (PySem.mem_of_lookup q))
      · exact there q
    case i3 => exact fun y c z _ => nomatch (show false = true from z)
    case i4 => exact fun b z => absurd z (none_ b)
    case i5 => exact fun b _ _ => none_ b
    case i6 => exact fun b z => absurd z (none_ b)
  refine ⟨okL, rfl, en.bare, Un.kept kp, ⟨_, ns, ?j1⟩, ?j2, en.hok.fresh (Nat.le_refl _), ?j3, ?j4, en.hok.kept kp, I.len⟩
  case j1 =>
    intro i y v e1 e2 e3
    rcases (show Vis scope y from e3) with q | q | q
    · exact absurd (List.mem_of_getElem? (show X.N[i]? = some y from e1)) (L.apart _ (PySem.mem_of_lookup q) rfl)
    · exact absurd rfl (L.nocell _ (PySem.mem_of_lookup q))
    · obtain ⟨m, hn, hl⟩ := I.loc
      have up := L.up _ (PySem.mem_of_lookup q) rfl
      obtain ⟨u', r, w'⟩ := hl i y v e1 e2 (up.elim (fun k => .inr (.inl k)) (fun k => .inr (.inr k)))
      obtain ⟨d, hd⟩ := there q
      refine ⟨u', r, .inr ⟨.inr q, d, hd, ?_⟩⟩
      have md := mine hd
      rcases w' with ⟨kl, _⟩ | ⟨_, d2, ed, hc⟩
      · have kl' : X.env.scope.names.lookup y = some .local := kl
        rcases up with k | k <;> rw [show X.env.scope.names.lookup y = _ from k] at kl' <;> cases kl'
      · rw [md] at ed; cases ed
        exact still (I.freeC y _ md) hc
  case j2 =>
    intro y c e
    obtain ⟨v, hv⟩ := I.cell y c (mine e)
    exact ⟨v, still (I.freeC y c (mine e)) hv⟩
  case j3 =>
    intro y c e
    obtain ⟨v, o, ho, hv⟩ := I.cell y c (mine e)
    exact un.free c o ho (I.freeC y c (mine e)) (by simp)
  case j4 => exact fun q hq => absurd (show q ∈ ([] : List (Addr × Obj)) ++ [] from hq) (by simp)
end
abbrev lamPF (q : Str) (params : Arguments) (body : Expr) (scope : Scope) (cl : List (Str × Addr)) (t : Addr) (doc pm cv ct : Value) : FuncData := PySem.W.kdv_fn "<lambda>" q params (.expr body) scope cl (.ref t) doc pm cv ct
section
variable {X : Cx} {pins : List (Addr × Obj)} {σ : L2.St} {H : Hp} {s : Shared}
/-- it is made: a tuple of its default, a code object that is new or found in the table, the def itself -/
theorem makeP {T : List (Addr × Str)} {c P : Addr} {params : Arguments} {body d0 : Expr} {v0 : V} {scope : Scope} {pos : Pos} {Q : Value → Shared → Prop} (I : Inv X pins σ H s) (TB : TabB X.base X.mg c P) (hcode : X.env.code = .ref c)
    (hm : (P, X.env.qual ++ "<lambda>") ∈ T) (hu : ∀ b ∈ T, b.1 = P → b.2 = X.env.qual ++ "<lambda>") (hT : Tabs T H) (hd : params.defaults = [d0]) (hk : params.kw_defaults = []) (he : PE X d0 (tC v0)) (cells : ∀ z ∈ scope.names, z.2 = .free → ∃ c, X.env.cells.lookup z.1 = some c)
    (go : ∀ (f t c' : Addr) (u pm ctv doc : Value) (H1 : Hp) (s' : Shared), Inv X pins σ H1 s' → ExtN H H1 → Tabs T H1 →
      s'.heap.get? f = some ⟨.type "function", none, .func (lamPF (X.env.qual ++ "<lambda>") params body scope (cloFrom X.env.cells scope.names []) t doc pm (.ref c') ctv), #[]⟩ → s'.heap.get? t = some (PySem.W.kdv_tup [u]) →
      H1 f = none → f ∉ frs X.stack → H1 t = none → t ∉ frs X.stack → H1 c' = some (CodeO c' (X.env.qual ++ "<lambda>")) → Q (.ref f) s') :
    wpAny (model X.prog X.w) X.A (eval (.Lambda params body scope pos) X.env) Q X.xe s := by
  obtain ⟨ps, hP, ht, ha⟩ := hT _ hm
  refine PySem.W.kdv_lam (by rw [hd]; rfl) hk ?_
  rw [hd]
  refine PySem.W.kdv_all1 (thn (he.run pins s σ H (fun _ K1 => K1 = H) I rfl) fun u sa ⟨va, Ha, Ia, _, ea⟩ => ?_)
  subst ea
  refine PySem.W.kdv_all0 ?_
  rw [makeFunction_eq]
  simp only [List.zip_nil_right, List.filterMap_nil, List.isEmpty_nil, List.isEmpty_cons, if_true, pure_bind, Bool.false_eq_true, if_false]
  refine wpAny_bind (wpAny_newTextTuple ?_)
  have nt : Ha sa.heap.objs.size = none := Ia.hok.fresh (Nat.le_refl _)
  have off : ∀ f, sa.heap.objs.size ≤ f → f ∉ frs X.stack := fun f hf z => by
    rcases List.mem_cons.mp (Ia.stkSub _ z) with e | e
    · have lt := Ia.lt
      rw [← e] at lt
      exact Nat.lt_irrefl _ (Nat.lt_of_lt_of_le lt hf)
    · exact Ia.nofs hf e
  have offt := off _ (Nat.le_refl _)
  have Ib : Inv X pins σ Ha { sa with heap := sa.heap.push (PySem.W.kdv_tup [u]) } := Ia.kept fun b o e => Heap.get?_push_of_some _ e
  have tt : (sa.heap.push (PySem.W.kdv_tup [u])).get? sa.heap.objs.size = some (PySem.W.kdv_tup [u]) := Heap.get?_push_size _ rfl
  have grown : sa.heap.objs.size ≤ (sa.heap.push (PySem.W.kdv_tup [u])).objs.size := by rw [Heap.size_push]; omega
  have less : sa.heap.objs.size < (sa.heap.push (PySem.W.kdv_tup [u])).objs.size := by rw [Heap.size_push]; omega
  revert tt Ib grown less
  generalize sa.heap.push (PySem.W.kdv_tup [u]) = hb
  intro Ib tt grown less
  generalize hsb : ({ sa with heap := hb } : Shared) = sb at Ib ⊢
  have hbs : sb.heap = hb := by rw [← hsb]
  rw [← hbs] at tt grown less
  have bt : sb.heap.BuiltinsAt X.mg P := TB.bm.keeps Ib.bk
  have pt : sb.heap.get? P = some { cls := .none, data := .fields ps } := Ib.hok P _ hP
  cases found : codeAmong pos ps.toList with
  | none =>
    refine PySem.W.kdv_makeTail (mg := X.mg) (c := c) (P := P) (ps := ps) (closure_ok cells) Ib.ok.glob (Ib.mod.glob.keeps Ib.bk) hcode (TB.code.keeps Ib.bk) pt ht found TB.gP bt fun c' ctv doc hc tk keep ge lt rec_ tab => ?_
    obtain ⟨c2, oc, vs, tq, ec, hoc, hdc, hv⟩ := rec_
    cases ec
    have szs : sb.heap.objs.size ≤ hc.objs.size := Nat.le_trans ge (Nat.le_of_lt lt)
    have nC : Ha c' = none := Ib.hok.fresh ge
    have If := inv_table (t' := tk) (more := #[rawInt pos.line, rawInt pos.col, .ref c']) (h' := hc.push (PySem.W.kdv_obj "<lambda>" (X.env.qual ++ "<lambda>") params (.expr body) scope (cloFrom X.env.cells scope.names []) (.ref sa.heap.objs.size) doc ((X.mg "__name__").getD .none) c' ctv)) Ib hP
      (fun b o nb e => Heap.get?_push_of_some _ (keep b o nb e)) (Heap.get?_push_of_some _ tab) ge ⟨oc, vs, tq, Heap.get?_push_of_some _ hoc, hdc, hv⟩
    have eN : ExtN Ha (upd (upd Ha P (.tbl (ps ++ #[rawInt pos.line, rawInt pos.col, .ref c']))) c' (CodeO c' (X.env.qual ++ "<lambda>"))) := fun b o e n => by
      have n1 : b ≠ c' := ne_of_none e nC
      have n2 : b ≠ P := fun z => n ps (Option.some.inj (e.symm.trans (by rw [z]; exact hP)))
      rw [upd_ne n1, upd_ne n2]
      exact e
    have asL : (ps ++ #[rawInt pos.line, rawInt pos.col, .ref c']).toList = ps.toList ++ [rawInt pos.line, rawInt pos.col, .ref c'] := by simp
    have tP : sa.heap.objs.size ≠ P := fun z => by rw [← z, nt] at hP; cases hP
    have tC' : sa.heap.objs.size ≠ c' := Nat.ne_of_lt (Nat.lt_of_lt_of_le less ge)
    refine go hc.objs.size sa.heap.objs.size c' u ((X.mg "__name__").getD .none) ctv doc _ _ If eN ?t1 (Heap.get?_push_size _ rfl) (Heap.get?_push_of_some _ (keep _ _ tP tt)) ?t2 (off _ (Nat.le_trans grown szs)) ?t3 offt upd_same
    case t1 =>
      intro b hb'
      by_cases same : b.1 = P
      · rw [hu b hb' same, same]
        refine ⟨_, by rw [upd_ne (ne_of_none hP nC), upd_same], by rw [asL]; exact PySem.TriplesOk_snoc _ _ _ _ ht, fun pq cv hcv => ?_⟩
        rw [asL] at hcv
        rcases among_app _ ht hcv with z | z
        · obtain ⟨c0, e1, e2⟩ := ha pq cv z
          exact ⟨c0, e1, eN _ _ e2 codeO_ne⟩
        · exact ⟨c', z, upd_same⟩
      · obtain ⟨qs, a1, a2, a3⟩ := hT b hb'
        refine ⟨qs, ?_, a2, fun pq cv hcv => ?_⟩
        · rw [upd_ne (ne_of_none a1 nC), upd_ne same]; exact a1
        · obtain ⟨c0, e1, e2⟩ := a3 pq cv hcv
          exact ⟨c0, e1, eN _ _ e2 codeO_ne⟩
    case t2 =>
      have m1 : hc.objs.size ≠ c' := Nat.ne_of_gt lt
      have m2 : hc.objs.size ≠ P := Nat.ne_of_gt (Nat.lt_of_lt_of_le (Heap.lt_size pt) szs)
      rw [upd_ne m1, upd_ne m2]
      exact Ib.hok.fresh szs
    case t3 =>
      rw [upd_ne tC', upd_ne tP]
      exact nt
  | some cv =>
    obtain ⟨c', ec, hco⟩ := ha pos cv found
    subst ec
    refine PySem.W.kdv_makeTailHit (mg := X.mg) (c := c) (P := P) (ps := ps) (closure_ok cells) Ib.ok.glob (Ib.mod.glob.keeps Ib.bk) hcode (TB.code.keeps Ib.bk) pt ht found bt fun ctv doc hc tk keep szs => ?_
    have If : Inv X pins σ Ha { sb with heap := hc.push ⟨.type "function", none, .func (lamPF (X.env.qual ++ "<lambda>") params body scope (cloFrom X.env.cells scope.names []) sa.heap.objs.size doc ((X.mg "__name__").getD .none) (.ref c') ctv), #[]⟩, toks := tk } :=
      Ib.kept fun b o e => Heap.get?_push_of_some _ (keep b o e)
    exact go hc.objs.size sa.heap.objs.size c' u ((X.mg "__name__").getD .none) ctv doc Ha _ If (ExtN.refl Ha) hT (Heap.get?_push_size _ rfl) (Heap.get?_push_of_some _ (keep _ _ tt)) (Ib.hok.fresh szs) (off _ (Nat.le_trans grown szs)) nt offt hco
end
section
variable {X : Cx} {pins : List (Addr × Obj)} {σ : L2.St} {H : Hp} {s : Shared}
/-- it is called, in the def that got it -/
theorem actP {CXg : CXT} {Eg : XK} {Ng : List Str} {qg : Str} {sg : Scope} {g f t c' : Addr} {cdg pm ctv doc u : Value} {params : Arguments} {body : Expr} {scope : Scope} {k i : Nat} {a p : Str} {pn : List (Addr × Obj)} {xe : Value → Shared → Prop} {W : WX} {E : XK} {tb : TE} {q1 q2 : Pos}
    (I : Inv X pins σ H s) (L : LamP X.N X.env.scope scope p) (hf : s.heap.get? f = some ⟨.type "function", none, .func (lamPF (X.env.qual ++ "<lambda>") params body scope (cloFrom X.env.cells scope.names []) t doc pm (.ref c') ctv), #[]⟩)
    (ht : s.heap.get? t = some (PySem.W.kdv_tup [u])) (nf : H f = none) (rf : f ∉ frs X.stack) (nt : H t = none) (rt : t ∉ frs X.stack)
    (bind : ∀ z : Shared, z.heap.get? t = some (PySem.W.kdv_tup [u]) → BindsTo z (lamPF (X.env.qual ++ "<lambda>") params body scope (cloFrom X.env.cells scope.names []) t doc pm (.ref c') ctv) ⟨[], []⟩ [(p, u)])
    (tk : Takes ((cxOf CXg X.prog X.w X.K X.mg X.base Ng qg sg g cdg X.A X.stack s H Eg).tr pn xe) W) (hW : ∀ cls d σ' H', E cls d H' → W cls d σ' H') (hr : Room (k + 1) (X.A.deeper (envOfC qg sg s.heap.objs.size g cdg)))
    (inner : ∀ (A : Around) (outer : List Env) (s : Shared) (H : Hp), Room k (A.deeper (lamEnv X scope s.heap.objs.size f c')) → PE (lamCx X A outer s H E scope f c') body tb)
    (hN : Ng[i]? = some a) (hv : Vis sg a) (hd : (a == ("__debug__" : Str)) = false := by decide) (hcd : (a == ("__classdict__" : Str)) = false := by decide) :
    PE ((cxOf CXg X.prog X.w X.K X.mg X.base Ng qg sg g cdg X.A X.stack s H Eg).tr pn xe) (.Call (.Name a q1) [] [] q2)
      (fun σZ HZ Q => σZ[i]? = some (some (.ref f)) ∧ HZ c' = some (CodeO c' (X.env.qual ++ "<lambda>")) ∧ tb σ HZ Q) := by
  refine ⟨fun pinsZ sZ σZ HZ Q IZ ⟨hs, hc, hq⟩ => ?_⟩
  refine wpAny_Call_Name_kw (thn ((pe_var (pos := q1) (i := i) hN hv hd hcd).run pinsZ sZ σZ HZ (fun v K1 => v = .ref f ∧ K1 = HZ) IZ ⟨.ref f, hs, rfl, rfl⟩) fun uf sa ⟨v, Ha, Ia, ra, ev, eH⟩ => ?_)
  subst ev eH
  obtain rfl : uf = Value.ref f := ra
  have nob : ∀ b : Addr, b ∉ ([] : List Addr) := fun b z => nomatch z
  have fa := Ia.base.keep f _ hf nf rf (nob f)
  have ta := Ia.base.keep t _ ht nt rt (nob t)
  refine PySem.W.callWith_F0 ⟨_, _, _, _, fa⟩ ?_
  have un : Un (frs X.stack) [] H Ha s.heap sa.heap := Ia.base
  obtain ⟨⟨oc, vs, tq, hoc, hdc, hvc⟩, _, _⟩ := Ia.hok c' _ hc
  have runs : codeAny (model X.prog X.w) (X.A.deeper (envOfC qg sg s.heap.objs.size g cdg)) (.call (.ref f) ⟨[], []⟩) (CR (L2.CX X.prog X.w) (envOfC qg sg s.heap.objs.size g cdg :: X.stack) X.prog X.w Ha sa Q E) sa := by
    refine PySem.W.kla_callFunE hr.depth fa rfl L.co L.gen rfl ⟨c', oc, vs, tq, rfl, hoc, hdc, hvc⟩ (bind sa ta _ _ _ _ ?_)
    refine wpAny_newFunctionEnv L.nocell ?b1 (fun hz ns sb => ⟨Ia.nolimit.fresh _ sb, ?b2⟩) L.kind
    case b1 =>
      intro y hy
      rw [List.mem_singleton.mp hy]
      exact L.par
    case b2 =>
      show codeAny _ _ (.expr body (lamEnv X scope sa.heap.objs.size f c')) _ _
      have kp : ∀ b o, sa.heap.get? b = some o → hz.get? b = some o := fun b o e => sb.extBut b o (Nat.ne_of_lt (Heap.lt_size e)) (Heap.get?_push_of_some _ e)
      have J : Inv (lamCx X (X.A.deeper (envOfC qg sg s.heap.objs.size g cdg)) (envOfC qg sg s.heap.objs.size g cdg :: X.stack) sa Ha E scope f c') [] σ Ha { sa with heap := hz, toks := sa.toks + ([(p, u)] : List (Str × Value)).length } :=
        startP I L Ia.env0 hr.hd un ns kp
      refine PySem.W.kla_codeExpr (wpAny_mono ((inner _ _ sa Ha (hr.deeper _)).run [] _ _ Ha Q J hq) ?b3 fun _ _ z => z)
      case b3 => exact fun v s' ⟨w', H', J', rv, q⟩ => ⟨w', H', J'.os, J'.bare, J'.base, J'.hok, rv, q⟩
  have out : Passes (L2.CX X.prog X.w) ((cxOf CXg X.prog X.w X.K X.mg X.base Ng qg sg g cdg X.A X.stack s H Eg).tr pn xe) E := passes_call tk hW
  refine wpAny_call (codeAny_mono runs fun r s' z => ?_)
  match r, z with
  | .error e, z => exact out pinsZ σZ Ha sa e s' Ia z
  | .ok (.ret _), z => exact Ia.after z
  | .ok .next, z => exact z.elim
  | .ok .brk, z => exact z.elim
  | .ok .cont, z => exact z.elim
/-- x(lambda p=d: body) -/
theorem pe_lamcallP {T : List (Addr × Str)} {TT : (XK → Hp → VK → Prop) → Hp → VK → Prop} {x a p : Str} {g c P : Addr} {k : Nat} {pg : Arguments} {bg : List Stmt} {sg : Scope} {dV kV doc pm cdv ct oc : Value} {an od : Option Addr} {osl : Array (Option Value)} {Ng : List Str}
    {params : Arguments} {body d0 : Expr} {v0 : V} {scope : Scope} {t : XK → TE} {q1 q2 q3 : Pos} (hg : Gl X x) (hm : X.mg x = some (.ref g)) (hk : PySem.W.keepIn X.K (.ref g) = true)
    (lk : X.K.lookup g = some ⟨oc, od, .func (PySem.W.fnOf x x pg bg sg dV kV doc pm an cdv ct), osl⟩) (hcg : PySem.W.codeIn X.K cdv x = true) (hb : L2.Binds X.K (PySem.W.fnOf x x pg bg sg dV kV doc pm an cdv ct) [a] []) (Sg : FnScope Ng [a] sg) (hNg : Ng[0]? = some a) (hva : Vis sg a)
    (hG : GivesTo X Ng x sg g cdv bg a (X.env.qual ++ "<lambda>") TT) (TB : TabB X.base X.mg c P) (hcode : X.env.code = .ref c) (hmT : (P, X.env.qual ++ "<lambda>") ∈ T) (hu : ∀ b ∈ T, b.1 = P → b.2 = X.env.qual ++ "<lambda>") (hr : Room (k + 2) X.A)
    (L : LamP X.N X.env.scope scope p) (hd : params.defaults = [d0]) (hkd : params.kw_defaults = []) (he : PE X d0 (tC v0))
    (bind : ∀ (q : Str) (cl : List (Str × Addr)) (t : Addr) (u doc pm cv ctv : Value) (z : Shared), z.heap.get? t = some (PySem.W.kdv_tup [u]) → BindsTo z (lamPF q params body scope cl t doc pm cv ctv) ⟨[], []⟩ [(p, u)])
    (inner : ∀ (A : Around) (outer : List Env) (s : Shared) (H : Hp) (E : XK) (f c' : Addr), Room k (A.deeper (lamEnv X scope s.heap.objs.size f c')) → PE (lamCx X A outer s H E scope f c') body (t E))
    (n1 : (x == ("__debug__" : Str)) = false := by decide) (n2 : (a == ("__debug__" : Str)) = false := by decide) (n3 : (a == ("__classdict__" : Str)) = false := by decide) :
    PE X (.Call (.Name x q1) [.Lambda params body scope q2] [] q3) (tLam T TT t) := by
  refine ⟨fun pins s σ H Q I ⟨hT, h⟩ => ?_⟩
  refine wpAny_Call_Name_kw (ld_glob I hg hm (PySem.W.callWith_K (h₀ := X.base) I.ok.mod.kin hk ?_ (by rfl) (by rfl)) n1)
  show wpAny _ _ (spliced ((false, eval (.Lambda params body scope q2) X.env) :: backTo q3 (starEach [] X.env))) _ _ s
  refine Calls.spliced_cons (makeP I TB hcode hmT hu hT hd hkd he (L.cells I.ok) fun f t1 c' u pm' ctv doc' H1 s' J eN T1 hf ht nf rf nt rt hco => ?_)
  refine Calls.spliced_nil ⟨J.kIn, ?_⟩
  have runs : codeAny (model X.prog X.w) X.A (.call (.ref g) ⟨[.ref f], []⟩) (CR C8.CX0 X.stack X.prog X.w H1 s' Q C8.E0) s' := by
    refine run_ofS (N := Ng) (ps := [a]) (us := [.ref f]) (vs := [.ref f]) lk hcg Sg hr J.env0 (hb s' [.ref f] J.kIn rfl) (.cons rfl .nil) rfl fun hr' => ?_
    obtain ⟨td, hp, hq⟩ := hG f c' s' H1 Q (fun E H' Q' => t E σ H' Q') (fun W pn xe E p1 p2 tk hW => actP (i := 0) J L hf ht nf rf nt rt (fun z => bind _ _ _ _ _ _ _ _ z) tk hW hr' (fun A outer s H hr2 => inner A outer s H E f c' hr2) hNg hva n2 n3) hco (h H1 eN T1)
    exact ⟨td, hp.nox, hq⟩
  refine wpAny_call (codeAny_mono runs fun r s2 z => ?_)
  match r, z with
  | .error e, z => exact (show False from z).elim
  | .ok (.ret _), z => exact J.after z
  | .ok .next, z => exact z.elim
  | .ok .brk, z => exact z.elim
  | .ok .cont, z => exact z.elim
end
end FW

set_option maxRecDepth 100000
set_option maxHeartbeats 4000000
/-! fair weather: isinstance of rows of classes, repr of rows with nothing in them, comprehensions over ranges, draws in them -/
namespace FW
open PySem L2 PyProof.Rows
/-! ### isinstance(e, (c1, ..)) -/
/-- e an exception that is kept -/
def rIsXT (K : PySem.W.Frag) : List V → Hp → VK → Prop := fun xs H Q => ∃ (a tp D : Addr) (d : Option Addr) (cs : List V) (us : List Value) (b : Bool), xs = [.ref a, .ref tp] ∧ H tp = some (.tup cs) ∧ Paired ClsV cs us ∧ H a = some (ExT a (.ref D) d) ∧ ExcC K D ∧
  (d = none ∨ ∃ (dd : Addr) (fs : List (Str × V)), d = some dd ∧ H dd = some (.xd fs)) ∧ PySem.W.kitAny K (.ref D) us = some b ∧ Q (.bl b) H
theorem call_isXT {X : Cx} : CallR X (.builtin "isinstance") (rIsXT X.K) := by
  intro pins s σ H xs us Q I r h
  obtain ⟨a, tp, D, d, cs, ws, b, rfl, hT, pc, e, C, hd, q1, q⟩ := h
  obtain ⟨u1, u2, rfl, r1, r2⟩ := vals2 r
  cases (show u1 = Value.ref a from r1)
  cases (show u2 = Value.ref tp from r2)
  obtain ⟨ox, od, J⟩ := inst_of I e hd
  obtain ⟨_, its, rv, ob, k1, k2, n, k3⟩ := (show ObjOk X.prog X.w H s.heap tp (.tup cs) from I.hok tp _ hT)
  obtain rfl := ClsV.all pc rv
  obtain ⟨oc, odd, dt, sl⟩ := ob
  simp only at k2 k3
  subst k2 k3
  exact PySem.W.kia_tup (PySem.W.fw_kitx C) I.kIn J k1 q1 (fun z => nomatch z) fun tk => ⟨.bl b, H, I.tok tk, rfl, q⟩
def rIsAT (K : PySem.W.Frag) : List V → Hp → VK → Prop := fun xs H Q => rIsiT K xs H Q ∨ rIsXT K xs H Q
theorem call_isAT {X : Cx} : CallR X (.builtin "isinstance") (rIsAT X.K) := by
  intro pins s σ H xs us Q I r h
  rcases h with h | h
  · exact call_isiT pins s σ H xs us Q I r h
  · exact call_isXT pins s σ H xs us Q I r h
/-! ### repr where there may be nothing -/
def rShowA (K : PySem.W.Frag) : List V → Hp → VK → Prop := fun xs H Q => rShow K xs H Q ∨ (xs = [.non] ∧ Q (.str "None") H) ∨ ∃ b, xs = [.bl b] ∧ Q (.str (if b = true then "True" else "False")) H
theorem call_showA {X : Cx} (hg : X.A.guards = some []) (hu : X.A.units + 64 < cLine) : CallR X (.builtin "repr") (rShowA X.K) := by
  intro pins s σ H xs us Q I r h
  rcases h with h | ⟨rfl, q⟩ | ⟨b, rfl, q⟩
  · exact call_show hg hu pins s σ H xs us Q I r h
  · obtain ⟨u, rfl, e⟩ := vals1 r
    obtain rfl : u = Value.none := e
    exact PySem.P.repr_of_none ⟨.str _, H, I.tok _, ⟨_, rfl⟩, q⟩
  · obtain ⟨u, rfl, e⟩ := vals1 r
    obtain rfl : u = Value.bool b := e
    refine PySem.P.repr_of_bool ⟨.str _, H, I.tok _, ⟨_, rfl⟩, ?_⟩
    cases b <;> exact q
def vo : Option Int → V
  | none => .non
  | some n => .int n
def po : Option Int → PyData
  | none => .none
  | some n => .int n
theorem dpAll_os (K : PySem.W.Frag) (H : Hp) : ∀ os : List (Option Int), DpAll K H (os.map vo) (os.map po)
  | [] => .nil
  | none :: os => .cons .non (dpAll_os K H os)
  | some n :: os => .cons (.int n) (dpAll_os K H os)
theorem os_depth : ∀ os : List (Option Int), PyData.depthAll (os.map po) = 0
  | [] => rfl
  | none :: os => by simp only [List.map, po, PyData.depthAll, PyData.depth, os_depth os, Nat.max_self]
  | some n :: os => by simp only [List.map, po, PyData.depthAll, PyData.depth, os_depth os, Nat.max_self]
theorem os_noDict : ∀ os : List (Option Int), PyData.hasDictAll (os.map po) = false
  | [] => rfl
  | none :: os => by show (PyData.hasDict .none || PyData.hasDictAll (os.map po)) = false; rw [os_noDict os]; rfl
  | some n :: os => by show (PyData.hasDict (.int n) || PyData.hasDictAll (os.map po)) = false; rw [os_noDict os]; rfl
/-- small ones -/
def SmO (o : Option Int) : Prop := ∀ n, o = some n → n.natAbs.log2 < 1920
theorem os_show : ∀ os : List (Option Int), (∀ o ∈ os, SmO o) → PyData.showableAll (os.map po) = true
  | [], _ => rfl
  | none :: os, h => by
    show (PyData.showable .none && PyData.showableAll (os.map po)) = true
    rw [os_show os fun m hm => h m (List.mem_cons_of_mem _ hm), Bool.and_true]; rfl
  | some n :: os, h => by
    show (PyData.showable (.int n) && PyData.showableAll (os.map po)) = true
    rw [os_show os fun m hm => h m (List.mem_cons_of_mem _ hm), Bool.and_true]
    exact decide_eq_true (h _ (List.mem_cons_self ..) n rfl)
theorem os_shownAll : ∀ os : List (Option Int), PyData.shownAll (os.map po) = os.map fun o => PyData.shown (po o)
  | [] => rfl
  | o :: os => by show _ :: PyData.shownAll (os.map po) = _; rw [os_shownAll os]; rfl
theorem os_text {o : Option Int} (h : SmO o) : (PyData.shown (po o)).length ≤ 1921 := by
  cases o with
  | none => decide
  | some n => exact int_text_len_1921 (h n rfl)
theorem os_shown {os : List (Option Int)} (h : ∀ o ∈ os, SmO o) (hl : os.length ≤ 1000) : (PyData.shown (.list (os.map po))).length ≤ sizeLine := by
  show (listText (PyData.shownAll (os.map po))).length ≤ _
  rw [os_shownAll, sizeLine_eq]
  unfold listText
  rw [Str.length_append]
  have z := text_le 1921 (os.map fun o => PyData.shown (po o)) 0 "[" (fun t ht => by
    obtain ⟨o, ho, rfl⟩ := List.mem_map.mp ht
    exact os_text (h o ho))
  rw [List.length_map] at z
  have a1 : (("[" : String) : Str).length = 1 := by decide
  have a2 : (("]" : String) : Str).length = 1 := by decide
  rw [a1] at z
  rw [a2]
  omega
theorem w_showO {K : PySem.W.Frag} {a : Addr} {os : List (Option Int)} {H : Hp} {Q : VK} (sq : SqL K H a (os.map vo)) (h : ∀ o ∈ os, SmO o) (hl : os.length ≤ 1000) (q : Q (.str (PyData.shown (.list (os.map po)))) H) : rShow K [.ref a] H Q :=
  .inr ⟨a, .list (os.map po), rfl, .lst sq (dpAll_os K H os), os_show os h, os_noDict os, by have := os_depth os; simp only [PyData.depth]; omega, os_shown h hl, q⟩
theorem w_showo {K : PySem.W.Frag} {o : Option Int} {H : Hp} {Q : VK} (h : SmO o) (q : Q (.str (PyData.shown (po o))) H) : rShowA K [vo o] H Q := by
  cases o with
  | none => exact .inr (.inl ⟨rfl, q⟩)
  | some n => exact .inl (.inl ⟨n, rfl, h n rfl, q⟩)
/-! ### comprehensions over a range -/
section
variable {te : TE} {i : Nat} {σ : L2.St} {H1 : Hp}
/-- a turn: of the number j the j-th value is made -/
def TurnsR (te : TE) (i : Nat) (σ : L2.St) (H1 : Hp) (n : Nat) (ys : List V) : Prop := ∀ (j : Nat) (y : V) (H' : Hp) (R : VK), j < n → ys[j]? = some y → Grow H1 H' → (∀ H2, Grow H' H2 → R y H2) → te ((wipe σ [i]).set i (some (.int (0 + (j : Int))))) H' R
theorem lcR {Qd : Addr → Hp → Prop} {n : Nat} {ys : List V} (hw : ∀ x, wipe ((wipe σ [i]).set i (some x)) [i] = wipe σ [i]) (hl : ys.length = n) (hs : n < sizeLine) (turn : TurnsR te i σ H1 n ys)
    (done : ∀ D H', H1 D = none → H' D = some (.lst ys) → Grow H1 H' → Qd D H') (D : Addr) (nD : H1 D = none) :
    ∃ W : Nat → Nat → Hp → Prop, (∃ m, W 0 m (upd H1 D (.lst []))) ∧ ∀ j m H, W j m H →
      ((Itr 0 n).stop j H ∧ Qd D H) ∨ ((Itr 0 n).go j H ∧ ∃ Nx : Hp → Prop, (∀ H', Nx H' → ∃ m', m' < m ∧ W (j + 1) m' H') ∧ ∀ x H', (Itr 0 n).yld j H x H' → gName i x (wipe σ [i]) H' fun σ2 H2 => wipe σ2 [i] = wipe σ [i] ∧ tYes σ2 H2 fun b H3 =>
        if b = true then te σ2 H3 fun y H4 => ∃ acc, H4 D = some (.lst acc) ∧ acc.length < sizeLine ∧ Nx (upd H4 D (.lst (acc ++ [y]))) else Nx H3) := by
  refine lc_range (lo := 0) (n := n) (fun j H' => H' D = some (.lst (ys.take j)) ∧ Grow H1 H') ⟨upd_same, Grow.new nD⟩ (fun j H' hj p => ?_) (fun H' p => done D H' nD (by rw [← hl, List.take_length] at p; exact p.1) p.2)
  refine ⟨hw _, ?_⟩
  unfold tYes
  refine w_yes ?_
  have hj' : j < ys.length := by rw [hl]; exact hj
  refine turn j ys[j] H' _ hj (by simp [hj']) p.2 fun H2 g => ⟨ys.take j, g _ _ p.1, by rw [List.length_take]; omega, ?_, fun b o e => ?_⟩
  · rw [upd_same, List.take_succ_eq_append_getElem hj']
  · rw [upd_ne (ne_of_none e nD)]; exact g _ _ (p.2 _ _ e)
end
/-! ### draws, the place of the cells being told -/
def spDropL (K : PySem.W.Frag) : Sp := fun vs H Q _ => ∃ (c l : Addr) (n : Nat) (cells : List Int) (rest many : Int), vs = [.ref c, .int many] ∧ H c = some (.lst [.ref l, .int n, .int rest]) ∧ SqL K H l (cells.map V.int) ∧ l ≠ c ∧ n < 1000000 ∧ 0 < many ∧ many < 1073741824 ∧
  ∀ (r rest' : Int) (n' : Nat) (H' : Hp), 0 ≤ r → r < many → n' ≤ n + 1 → H' c = some (.lst [.ref l, .int n', .int rest']) → Ext c H H' → Q (.int r) H'
theorem dropL {K : PySem.W.Frag} (vs : List V) (H : Hp) (Q : VK) (E : XK) (h : spDrop K vs H Q E) : spDropL K vs H Q E := by
  obtain ⟨c, n, many, rfl, ⟨l, cells, rest, h1, h2, h3⟩, hn, m0, m1, k⟩ := h
  exact ⟨c, l, n, cells, rest, many, rfl, h1, h2, h3, hn, m0, m1, fun r rest' n' H' r0 r1 hn' hc he => k r n' H' r0 r1 hn' ⟨l, cells, rest', hc, he.sqL h3 h2, h3⟩ he⟩
/-- [draw(many) for _ in range(n)] -/
theorem lcDraw {K : PySem.W.Frag} {te : TE} {i : Nat} {σ : L2.St} {H1 : Hp} {Qd : Addr → Hp → Prop} {n n0 : Nat} {c : Addr} {many : Int} {E : XK} (hw : ∀ x, wipe ((wipe σ [i]).set i (some x)) [i] = wipe σ [i]) (hs : n < 100000) (hn0 : n0 < 850000) (m0 : 0 < many) (m1 : many < 1073741824)
    (hte : ∀ (x : V) (H : Hp) (R : VK), spDropL K [.ref c, .int many] H R E → te ((wipe σ [i]).set i (some x)) H R) (hc : Cloud K H1 c n0)
    (done : ∀ D H' (ns : List Int) (m : Nat), H1 D = none → H' D = some (.lst (ns.map V.int)) → ns.length = n → (∀ z ∈ ns, 0 ≤ z ∧ z < many) → Cloud K H' c m → m ≤ n0 + n → Ext c H1 H' → Qd D H') (D : Addr) (nD : H1 D = none) :
    ∃ W : Nat → Nat → Hp → Prop, (∃ m, W 0 m (upd H1 D (.lst []))) ∧ ∀ j m H, W j m H →
      ((Itr 0 n).stop j H ∧ Qd D H) ∨ ((Itr 0 n).go j H ∧ ∃ Nx : Hp → Prop, (∀ H', Nx H' → ∃ m', m' < m ∧ W (j + 1) m' H') ∧ ∀ x H', (Itr 0 n).yld j H x H' → gName i x (wipe σ [i]) H' fun σ2 H2 => wipe σ2 [i] = wipe σ [i] ∧ tYes σ2 H2 fun b H3 =>
        if b = true then te σ2 H3 fun y H4 => ∃ acc, H4 D = some (.lst acc) ∧ acc.length < sizeLine ∧ Nx (upd H4 D (.lst (acc ++ [y]))) else Nx H3) := by
  obtain ⟨l, cells, rest, h1, h2, h3⟩ := hc
  have cD : D ≠ c := Ne.symm (ne_of_none h1 nD)
  refine lc_range (lo := 0) (n := n) (fun j H' => ∃ (ns : List Int) (m : Nat) (r : Int), H' D = some (.lst (ns.map V.int)) ∧ ns.length = j ∧ (∀ z ∈ ns, 0 ≤ z ∧ z < many) ∧ H' c = some (.lst [.ref l, .int m, .int r]) ∧ m ≤ n0 + j ∧ Ext c H1 H')
    ⟨[], n0, rest, upd_same, rfl, (fun z hz => nomatch hz), (by rw [upd_ne (Ne.symm cD)]; exact h1), by omega, Ext.new nD⟩ (fun j H' hj p => ?_) (fun H' p => ?_)
  · obtain ⟨ns, m, r, p1, p2, p3, p4, p5, p6⟩ := p
    refine ⟨hw _, ?_⟩
    unfold tYes
    refine w_yes (hte _ H' _ ⟨c, l, m, cells, r, many, rfl, p4, p6.sqL h3 h2, h3, by omega, m0, m1, fun z r' m' H4 z0 z1 hm' hc' he' => ?_⟩)
    refine ⟨ns.map V.int, he' _ _ cD p1, by rw [List.length_map, sizeLine_eq]; omega, ns ++ [z], m', r', ?_, ?_, ?_, ?_, by omega, ?_⟩
    · rw [upd_same, List.map_append]; rfl
    · rw [List.length_append]; simp [p2]
    · intro y hy
      rcases List.mem_append.mp hy with hy | hy
      · exact p3 y hy
      · rw [List.mem_singleton.mp hy]; exact ⟨z0, z1⟩
    · rw [upd_ne (Ne.symm cD)]; exact hc'
    · intro b o nb e
      rw [upd_ne (ne_of_none e nD)]
      exact he' _ _ nb (p6 _ _ nb e)
  · obtain ⟨ns, m, r, p1, p2, p3, p4, p5, p6⟩ := p
    exact done D H' ns m nD p1 p2 p3 ⟨l, cells, r, p4, p6.sqL h3 h2, h3⟩ p5 p6
end FW

set_option maxRecDepth 100000
set_option maxHeartbeats 4000000
/-! fair weather: own classes -/
namespace FW
open PySem L2 PyProof.Rows
/-- a method of the text, under its class -/
structure MethOk (K : PySem.W.Frag) (C : Addr) (m qual : Str) (st : Stmt) (ps : List Str) : Prop where
  ex : ∃ (f : Addr) (fd : FuncData), Meth K C m f ∧ Fun K m qual st f fd ∧ Binds K fd ps []
structure CanM (P : Program) (w : World) (K : PySem.W.Frag) (mg : Str → Option Value) (base : Heap) (CX : CXT) (k : Nat) (C : Addr) (m : Str) (ps : List Str) (sp : Sp) : Prop where
  ex : ∃ (f : Addr) (fd : FuncData), Meth K C m f ∧ FnOk P w K mg base CX k f fd ps sp ∧ Binds K fd ps []
structure CanMW (P : Program) (w : World) (K : PySem.W.Frag) (mg : Str → Option Value) (base : Heap) (CX : CXT) (k : Nat) (C : Addr) (m : Str) (ks : List Str) (gV : List V → List V → List V) (sp : Sp) : Prop where
  ex : ∃ (f : Addr) (fd : FuncData) (ps : List Str) (g : List Value → List Value → List Value), Meth K C m f ∧ FnOk P w K mg base CX k f fd ps sp ∧ KBn K fd ps 1 ks g gV
section
variable {P : Program} {w : World} {K : PySem.W.Frag} {mg : Str → Option Value} {base : Heap} {CX : CXT} {k : Nat} {C : Addr} {m qual : Str} {st : Stmt} {ps : List Str} {sp : Sp}
theorem MethOk.can (d : MethOk K C m qual st ps) (h : ∀ f fd, Fun K m qual st f fd → FnOk P w K mg base CX k f fd ps sp) : CanM P w K mg base CX k C m ps sp := by
  obtain ⟨f, fd, M, F, b⟩ := d.ex
  exact ⟨f, fd, M, h f fd F, b⟩
/-- by one keyword -/
theorem MethOk.canW {y : Str} (d : MethOk K C m qual st ["self", y]) (h : ∀ f fd, Fun K m qual st f fd → FnOk P w K mg base CX k f fd ["self", y] sp)
    (bind : ∀ (kV doc pm : Value) (an : Option Addr) (cdv ct a b : Value), bindArgs (PySem.W.fnOf m qual (defArgs st) (defBody st) (defScope st) .none kV doc pm an cdv ct) ⟨[a], [(y, b)]⟩ = pure ([(("self" : Str), a), (y, b)] : List (Str × Value))) :
    CanMW P w K mg base CX k C m [y] (fun vs zs => vs ++ zs) sp := by
  obtain ⟨f, fd, M, F, _⟩ := d.ex
  have G := h f fd F
  obtain ⟨oc, od, kV, doc, pm, an, cdv, ct, osl, rfl, lk, hcd⟩ := F.ex
  refine ⟨f, _, ["self", y], fun us ws => us ++ ws, M, G, ⟨fun s us ws _ l1 l2 => ?_, fun r z => r.append z⟩⟩
  match us, ws, l1, l2 with
  | [a], [b], _, _ => exact .of_eq (bind kV doc pm an cdv ct a b)
end
section
variable {X : Cx} {CX : CXT} {k j : Nat} {C : Addr} {m : Str} {ps ks : List Str} {sp : Sp} {gV : List V → List V → List V} {E : XK} {o e : Expr} {es : List Expr} {kws : List Keyword} {apos pos : Pos} {to : TE} {ta tk : TA}
theorem pe_methC {pl : Sem Bool} (cl : Cls X.K C) (c : CanM X.prog X.w X.K X.mg X.base CX k C m ps sp) (hr : Room j X.A) (hk : k ≤ j) (hx : Passes CX X E) (ho : PE X o to) (ha : PA X (e :: es) ta)
    (hst : starEach (e :: es) X.env = (false, eval e X.env) :: starEach es X.env := by rfl) (hpl : (backTo pos (starEach es X.env)).any (·.1) = false := by rfl)
    (ht : eval (.Call (.Attribute o m apos) (e :: es) [] pos) X.env = (do let ov ← eval o X.env; standAt apos.atName; let (f, first) ← holding [ov] (getMethod ov m pl); callWith pos f first (backTo pos (starEach (e :: es) X.env)) (backToKw pos (keywordEach [] X.env))) := by rfl) :
    PE X (.Call (.Attribute o m apos) (e :: es) [] pos) (tMeth C m sp [] E to ta) := by
  obtain ⟨f, fd, M, F, b⟩ := c.ex
  exact pe_meth (pl := pl) ho cl M F (hr.mono hk) b .nil hx ha hst hpl ht
def tMethW (C : Addr) (m : Str) (n : Nat) (sp : Sp) (gV : List V → List V → List V) (E : XK) (to : TE) (tk : TA) : TE := fun σ H Q => to σ H fun x H1 => ∃ a dx fs, x = .ref a ∧ H1 a = some (.ins C dx fs) ∧ fs.lookup m = none ∧ tk σ H1 fun zs H2 => zs.length = n ∧ sp (gV [.ref a] zs) H2 Q E
/-- o.m(k=e) -/
theorem pe_methW {pl : Sem Bool} (cl : Cls X.K C) (c : CanMW X.prog X.w X.K X.mg X.base CX k C m ks gV sp) (hr : Room j X.A) (hk : k ≤ j) (hx : Passes CX X E) (ho : PE X o to) (ha : PK X kws tk)
    (hall : (backToKw pos (keywordEach kws X.env)).all (·.1.isSome) = true := by rfl) (hks : (backToKw pos (keywordEach kws X.env)).filterMap (·.1) = ks := by rfl)
    (hpl : ((backTo pos (starEach [] X.env)).any (·.1) || (backToKw pos (keywordEach kws X.env)).any (·.1.isNone)) = false := by rfl)
    (ht : eval (.Call (.Attribute o m apos) [] kws pos) X.env = (do let ov ← eval o X.env; standAt apos.atName; let (f, first) ← holding [ov] (getMethod ov m pl); callWith pos f first (backTo pos (starEach [] X.env)) (backToKw pos (keywordEach kws X.env))) := by rfl) :
    PE X (.Call (.Attribute o m apos) [] kws pos) (tMethW C m ks.length sp gV E to tk) := by
  obtain ⟨f, fd, ps, g, M, F, b⟩ := c.ex
  refine ⟨fun pins s σ H Q I h => ?_⟩
  refine PySem.W.methodCall_KW (pl := pl) (thn (ho.run pins s σ H _ I h) fun u s1 ⟨x, H1, I1, rx, a, dx, fs, ex, ea, l, q⟩ => ?_) ht
  subst ex
  obtain rfl : u = Value.ref a := rx
  refine getmeth_ok I1 ea cl M l ?_
  refine PySem.W.callWith_KW0 (first := [.ref a]) (h₀ := X.base) I.ok.mod.kin M.kp hall (thn (ha.run pos pins s1 σ H1 _ I1 q) fun ws s2 y => ?_) hpl
  obtain ⟨zs, H2, J, rz, l2, q2⟩ := y
  refine ⟨J.kIn, ?_⟩
  rw [hks]
  exact run_fnN (us := [.ref a]) (vs := [.ref a]) F (hr.mono hk) b hx J (.cons rfl .nil) rz rfl l2 q2
end
section
variable {K : PySem.W.Frag} {σ : L2.St} {H : Hp} {Q : VK} {D : Ends} {a C dx : Addr} {fs : List (Str × V)} {f m : Str} {v : V} {to tv : TE} {ta tk : TA} {sp : Sp} {E : XK} {i : Nat}
/-! ### readings -/
theorem w_fld (e : H a = some (.ins C dx fs)) (c : Cls K C) (n : NoAttr K C f) (l : fs.lookup f = some v) (hv : σ[i]? = some (some (.ref a))) (q : Q v H) : tFld K (tVar i) f σ H Q := ⟨.ref a, hv, a, C, dx, fs, v, rfl, e, c, n, l, q⟩
theorem w_setF (c : Cls K C) (n : NoAttr K C f) (hv : σ[i]? = some (some (.ref a))) (h : tv σ H fun y H1 => ∃ dx fs, H1 a = some (.ins C dx fs) ∧ fs.length < 1000 ∧ D.nx σ (upd H1 a (.ins C dx (putF f y fs)))) (mono : ∀ {R R' : VK}, (∀ x H', R x H' → R' x H') → tv σ H R → tv σ H R') : sFld K (tVar i) tv f D σ H :=
  mono (fun y H1 ⟨dx, fs, e, l, q⟩ => ⟨.ref a, hv, a, C, dx, fs, rfl, e, c, n, l, q⟩) h
end
end FW

set_option maxRecDepth 100000
set_option maxHeartbeats 4000000
/-! fair weather: «except c as n: y = e» ahead of other handlers -/
namespace FW
open PySem L2 PyProof.Rows
/-- what is wished of an exception by «except c as n: y = e», e told by te: it is kept; slot i is n's, slot j is y's -/
def wKeepE (K : PySem.W.Frag) (c : Value) (n i j : Nat) (te : TE) (D : Ends) : WX := fun cls d σ H => PySem.W.exmOne K cls c = some true ∧ ∀ a, H a = none → σ.length = n → te (σ.set i (some (.ref a))) (upd H a (ExT a cls d)) fun v H' => D.nx (((σ.set i (some (.ref a))).set j (some v)).set i none) H'
section
variable {X : Cx} {x n y : Str} {c : Value} {i j : Nat} {body : List Stmt} {np py pn' pa pos pos' : Pos} {tb : WX → TS}
theorem ps_try_keepE {ev : Expr} {te : TE} {hds : List ExceptHandler} (hs : X.stack = X.env :: X.outer) (hf : X.env.frame = some X.env.locals) (hN : X.N.Nodup) (hi : X.N[i]? = some n) (hln : X.env.kindOf n = some .local) (hj : X.N[j]? = some y) (hly : X.env.kindOf y = some .local) (hij : i ≠ j) (hc : Names X x c)
    (hb : ∀ (W : WX) (pn : List (Addr × Obj)) (xe : Value → Shared → Prop), Takes (X.tr pn xe) W → PassesOwn (model X.prog X.w) X.A X.env xe → PSs (X.tr pn xe) body (tb W))
    (hev : ∀ (a : Addr) (pn : List (Addr × Obj)), PE (X.suite a pn) ev te) (hsw : swapsWith ev (some (.Name y py)) pa.line X.env = pure false := by rfl) :
    PS X (.Try body (.ExceptHandler (some (.Name x np)) (some n) [.Assign [.Name y py] ev pa] pos' :: hds) [] [] pos) (fun D σ H => i < σ.length ∧ tb (wKeepE X.K c X.N.length i j te D) D σ H) := by
  refine ⟨fun pins s σ H D I h => ?_⟩
  obtain ⟨hlen, h⟩ := h
  have ok := I.ok
  have hfr : X.A.frames = some (X.env :: X.outer) := by rw [ok.frames, hs]
  refine wpAny_Try_except ?_
  refine wpAny_mono ((hb (wKeepE X.K c X.N.length i j te D) (X.pn ++ pins) _ (fun u s1 xx => ?c1) PassesOwn.looking).run [] s σ H D (I.toTry _) h) (fun f s1 hsp => ?flow) (fun e s1 he => he)
  case flow =>
    cases f with
    | next => obtain ⟨σ1, H1, J, q⟩ := hsp; exact wpAny_execs_nil ⟨σ1, H1, J.ofTry ok, q⟩
    | brk => obtain ⟨σ1, H1, J, q⟩ := hsp; exact ⟨σ1, H1, J.ofTry ok, q⟩
    | cont => obtain ⟨σ1, H1, J, q⟩ := hsp; exact ⟨σ1, H1, J.ofTry ok, q⟩
    | ret u => obtain ⟨v, σ1, H1, J, r, q⟩ := hsp; exact ⟨v, σ1, H1, J.ofTry ok, r, q⟩
  case c1 =>
    obtain ⟨a, B, sI, pins1, σ1, H1, cls, d, rfl, J1, nb, up, sky, na, os, ag, hm, hyes⟩ := xx
    have J : Inv X pins σ1 H1 sI := J1.ofTry ok
    have sky1 : Sky B (X.env :: X.outer) a (Zc cls d) X.env.locals s1.heap := by rw [← hs]; exact sky
    show wpAny (model X.prog X.w) X.A (noteFrame (.ref a) X.env) _ _ _
    refine Sky.land Zc.steady hfr hf sky1 fun h3 fl3 up3 => ?_
    obtain ⟨oe3, vs3, he3, hz3, hd3⟩ := fl3.there
    have notFr : a ∉ frs X.stack := fun hmem => by
      rw [hs] at hmem
      obtain ⟨_, o', e', hnf⟩ := fl3.2.2.1.mem hmem
      rw [he3] at e'; cases e'
      exact hnf _ hd3
    have J3 : Inv X pins σ1 (upd H1 a (ExT a cls d)) { s1 with heap := h3 } := landT J nb fl3.2.1 na notFr fl3.1 (up.trans up3) os ag he3 hz3 hd3
    have S3 : Inv (X.suite a (X.pn ++ pins)) [] σ1 (upd H1 a (ExT a cls d)) { s1 with heap := h3 } := toSuite J3
    refine wpAny_handleBy_cons (codeAny_handlers_test ?_) (by intro q; cases q)
    have lt : PySem.W.Looks (model X.prog X.w) h3 (typeOf (.ref a)) cls := fun A Q E s k q => wpAny_typeOf_ref (k _ _ he3) (by rw [hz3.1]; exact q)
    have lm := PySem.W.exm_one (M := model X.prog X.w) J3.kIn lt hm
    have test : ∀ {Q : Value → Shared → Prop} {E : Value → Shared → Prop}, Q c { s1 with heap := h3 } → wpAny (model X.prog X.w) (X.A.mark (some (.ref a))) (eval (.Name x np) X.env) Q E { s1 with heap := h3 } := fun {Q E} q => by
      obtain ⟨g1, g2, g3 | ⟨g3, g4, g5⟩⟩ := hc
      · exact ld_glob (X := X.suite a (X.pn ++ pins)) S3 g1 g3 q g2
      · exact ld_blt (X := X.suite a (X.pn ++ pins)) S3 g1 g3 g4 q g5 g2
    refine test (lm.here ?_)
    refine codeAny_handlers_suite_as (HandSPX.lands_againZ fl3 fun h4 fl4 up4 => ?_)
    obtain ⟨oe4, vs4, he4, hz4, hd4⟩ := fl4.there
    have J4 : Inv X pins σ1 (upd H1 a (ExT a cls d)) { s1 with heap := h4 } := landT J nb fl4.2.1 na notFr fl4.1 ((up.trans up3).trans up4) os ag he4 hz4 hd4
    refine store_ok (X := X.suite a (X.pn ++ pins)) (v := .ref a) (toSuite J4) hN hi (.inl hln) rfl (fun s5 S5 => ?_) (.inr hln)
    have suite : PSs (X.suite a (X.pn ++ pins)) [.Assign [.Name y py] ev pa] (tAsg te (gName j)) :=
      pss_one (ps_set hN hj (.inl hly) (hev a _) hsw (.inr hly))
    refine wpAny_mono (suite.run [] s5 _ _ { nx := fun σ6 H6 => D.nx (σ6.set i none) H6, rt := fun _ _ => False } S5 ?_) (fun f s6 hsp => ?_) (fun _ _ z => z.elim)
    · exact hyes a na J.len
    · cases f with
      | next =>
        obtain ⟨σ6, H6, S6, q6⟩ := hsp
        exact gone_ok (ofSuite S6 ok) hN hi hln fun s7 J7 => ⟨_, _, J7, q6⟩
      | brk => obtain ⟨σ6, H6, S6, q6⟩ := hsp; exact q6.elim
      | cont => obtain ⟨σ6, H6, S6, q6⟩ := hsp; exact q6.elim
      | ret u => obtain ⟨v6, σ6, H6, S6, r6, q6⟩ := hsp; exact q6.elim
end

end FW

set_option maxRecDepth 100000
set_option maxHeartbeats 4000000
/-! fair weather: how long what repr shows of tuples is; what stays but for one object -/
namespace FW
open PySem L2 PyProof.Rows
theorem piled_le (b : Nat) : ∀ ts : List Str, (∀ t ∈ ts, t.length ≤ b) → piled ts ≤ (b + 2) * ts.length
  | [], _ => by simp [piled]
  | t :: r, h => by
    have ih := piled_le b r fun x hx => h x (List.mem_cons_of_mem _ hx)
    have ht := h t (List.mem_cons_self ..)
    have hp : piled (t :: r) = t.length + 2 + piled r := by unfold piled; rw [List.map_cons, List.sum_cons]
    rw [hp, List.length_cons, Nat.mul_add]
    omega
theorem tuple_le {b : Nat} {ts : List Str} (h : ∀ t ∈ ts, t.length ≤ b) : (tupleText ts).length ≤ (b + 2) * ts.length + 4 := by
  have p := piled_le b ts h
  have z : (Str.join ", " ts).length ≤ piled ts := by
    cases ts with
    | nil => simp [Str.join, piled]; decide
    | cons t r => have := join_length_add (t :: r) (by simp); omega
  unfold tupleText
  rw [Str.length_append, Str.length_append]
  have a1 : (("(" : Str)).length = 1 := by decide
  have a2 : ((if ts.length == 1 then ",)" else ")" : String) : Str).length ≤ 2 := by split <;> decide
  rw [a1]
  omega
/-- tables of code objects stay where another object is changed -/
theorem tabs_extAt {T : List (Addr × Str)} {H H' : Hp} {x : Addr} {o : HO} (t : LamX.Tabs T H) (hx : H x = some o) (n1 : ∀ ps, o ≠ .tbl ps) (n2 : ∀ φ, o ≠ .ext φ) (e : Ext x H H') : LamX.Tabs T H' := by
  intro p hp
  obtain ⟨ps, t1, t2, t3⟩ := t p hp
  refine ⟨ps, e _ _ (fun z => n1 ps (by rw [z, hx] at t1; exact Option.some.inj t1)) t1, t2, fun pos cv hcv => ?_⟩
  obtain ⟨d, e1, e2⟩ := t3 pos cv hcv
  refine ⟨d, e1, e _ _ (fun z => ?_) e2⟩
  rw [z, hx] at e2
  exact n2 _ (Option.some.inj e2)
/-! ### what a law draws from, seen from a heap at its beginning -/
structure Pen (H0 : Hp) (c l : Addr) (n : Nat) (H : Hp) : Prop where
  cl : ∃ rest : Int, H c = some (.lst [.ref l, .int n, .int rest])
  ex : Ext c H0 H
structure Ink (K : PySem.W.Frag) (H0 : Hp) (c l : Addr) (cells : List Int) : Prop where
  sq : SqL K H0 l (cells.map V.int)
  ne : l ≠ c
  at_ : ∃ o, H0 c = some o
  nt : ∀ b ps, H0 b ≠ some (.tbl ps)
theorem Pen.grow {H0 H H' : Hp} {c l : Addr} {n : Nat} (p : Pen H0 c l n H) (g : Grow H H') : Pen H0 c l n H' := by
  obtain ⟨⟨r, h⟩, e⟩ := p
  exact ⟨⟨r, g _ _ h⟩, fun b o nb q => g _ _ (e b o nb q)⟩
theorem Pen.extN {H0 H H' : Hp} {c l : Addr} {n : Nat} (p : Pen H0 c l n H) (g : LamX.ExtN H H') (t : ∀ b ps, H0 b ≠ some (.tbl ps)) : Pen H0 c l n H' := by
  obtain ⟨⟨r, h⟩, e⟩ := p
  exact ⟨⟨r, g _ _ h nofun⟩, fun b o nb q => g _ _ (e b o nb q) (fun ps z => t b ps (by rw [q, z]))⟩
theorem Pen.at_new {H0 H H' : Hp} {c l x : Addr} {n : Nat} (p : Pen H0 c l n H) (hx : H0 x = none) (xc : c ≠ x) (g : Ext x H H') : Pen H0 c l n H' := by
  obtain ⟨⟨r, h⟩, e⟩ := p
  exact ⟨⟨r, g _ _ xc h⟩, fun b o nb q => g _ _ (ne_of_none q hx) (e b o nb q)⟩
theorem Pen.draw {H0 H H' : Hp} {c l : Addr} {n n' : Nat} {rest : Int} (p : Pen H0 c l n H) (h : H' c = some (.lst [.ref l, .int n', .int rest])) (g : Ext c H H') : Pen H0 c l n' H' := ⟨⟨rest, h⟩, p.ex.trans g⟩
theorem Pen.sq {K : PySem.W.Frag} {H0 H : Hp} {c l : Addr} {n : Nat} {cells : List Int} (p : Pen H0 c l n H) (i : Ink K H0 c l cells) : SqL K H l (cells.map V.int) := p.ex.sqL i.ne i.sq
theorem Pen.cloud {K : PySem.W.Frag} {H0 H : Hp} {c l : Addr} {n : Nat} {cells : List Int} (p : Pen H0 c l n H) (i : Ink K H0 c l cells) : Cloud K H c n := by
  obtain ⟨r, h⟩ := p.cl
  exact ⟨l, cells, r, h, p.sq i, i.ne⟩
theorem Pen.ne {H0 H : Hp} {c l x : Addr} {n : Nat} (p : Pen H0 c l n H) (hx : H x = none) : x ≠ c := by
  obtain ⟨r, h⟩ := p.cl
  exact Ne.symm (ne_of_none h hx)
theorem Ink.ne' {K : PySem.W.Frag} {H0 : Hp} {c l x : Addr} {cells : List Int} (i : Ink K H0 c l cells) (hx : H0 x = none) : c ≠ x := by
  obtain ⟨o, h⟩ := i.at_
  exact ne_of_none h hx
/-- a place that is free later was free at first -/
theorem Pen.free {K : PySem.W.Frag} {H0 H : Hp} {c l x : Addr} {n : Nat} {cells : List Int} (p : Pen H0 c l n H) (i : Ink K H0 c l cells) (hx : H x = none) : H0 x = none := by
  match z : H0 x with
  | none => rfl
  | some o => rw [p.ex x o (p.ne hx) z] at hx; cases hx
theorem pen_of {K : PySem.W.Frag} {H : Hp} {c : Addr} {n : Nat} (h : Cloud K H c n) : ∃ H0 l cells, Ink K H0 c l cells ∧ Pen H0 c l n H := by
  obtain ⟨l, cells, rest, h1, h2, h3⟩ := h
  have self : ∀ H0 : Hp, H0 c = H c → (∀ b, b ≠ c → H0 b = none ∨ H0 b = H b) → Pen H0 c l n H := fun H0 e1 e2 => ⟨⟨rest, h1⟩, fun b o nb q => by
    rcases e2 b nb with z | z
    · rw [z] at q; cases q
    · rw [← z]; exact q⟩
  rcases h2 with h2 | h2
  · refine ⟨fun b => if b = c then H c else if b = l then H l else none, l, cells, ⟨.inl ?_, h3, ⟨_, by rw [if_pos rfl]; exact h1⟩, fun b ps e => ?_⟩, self _ (if_pos rfl) fun b nb => ?_⟩
    · have e : (if l = c then H c else if l = l then H l else none) = H l := by rw [if_neg h3, if_pos rfl]
      rcases h2 with z | ⟨o, z⟩
      · exact .inl (e.trans z)
      · exact .inr ⟨o, e.trans z⟩
    · by_cases hb : b = c
      · simp only [hb, if_true, h1] at e; cases e
      · by_cases hl : b = l
        · simp only [if_neg hb, hl, if_neg h3, if_true] at e
          rcases h2 with z | ⟨o, z⟩ <;> (rw [z] at e; cases e)
        · simp only [if_neg hb, if_neg hl] at e; cases e
    · simp only [if_neg nb]
      by_cases hl : b = l
      · rw [if_pos hl, hl]; exact .inr rfl
      · rw [if_neg hl]; exact .inl rfl
  · refine ⟨fun b => if b = c then H c else none, l, cells, ⟨.inr h2, h3, ⟨_, by rw [if_pos rfl]; exact h1⟩, fun b ps e => ?_⟩, self _ (if_pos rfl) fun b nb => ?_⟩
    · by_cases hb : b = c
      · simp only [hb, if_true, h1] at e; cases e
      · simp only [if_neg hb] at e; cases e
    · simp only [if_neg nb]; exact .inl trivial
/-- a draw, so seen -/
def spDraw (K : PySem.W.Frag) (H0 : Hp) (c l : Addr) (cells : List Int) : Sp := fun vs H Q _ => ∃ (n : Nat) (many : Int), vs = [.ref c, .int many] ∧ Ink K H0 c l cells ∧ Pen H0 c l n H ∧ n < 1000000 ∧ 0 < many ∧ many < 1073741824 ∧
  ∀ (r : Int) (n' : Nat) (H' : Hp), 0 ≤ r → r < many → n' ≤ n + 1 → Pen H0 c l n' H' → Ext c H H' → Q (.int r) H'
theorem drawL {K : PySem.W.Frag} {H0 : Hp} {c l : Addr} {cells : List Int} (vs : List V) (H : Hp) (Q : VK) (E : XK) (h : spDraw K H0 c l cells vs H Q E) : spDropL K vs H Q E := by
  obtain ⟨n, many, rfl, i, p, hn, m0, m1, k⟩ := h
  obtain ⟨rest, hc⟩ := p.cl
  exact ⟨c, l, n, cells, rest, many, rfl, hc, p.sq i, i.ne, hn, m0, m1, fun r rest' n' H' r0 r1 hn' hc' he => k r n' H' r0 r1 hn' (p.draw hc' he) he⟩
/-- one of some, so seen -/
def spOneL (K : PySem.W.Frag) (H0 : Hp) (c l : Addr) (cells : List Int) : Sp := fun vs H Q _ => ∃ (n : Nat) (p : Addr) (xs : List V), vs = [.ref c, .ref p] ∧ Ink K H0 c l cells ∧ Pen H0 c l n H ∧ n < 999990 ∧ SqL K H p xs ∧ p ≠ c ∧ 0 < xs.length ∧ xs.length < 1000000 ∧
  ∀ (x : V) (n' : Nat) (H' : Hp), x ∈ xs → n' ≤ n + 1 → Pen H0 c l n' H' → Ext c H H' → Q x H'
end FW

set_option maxRecDepth 100000
set_option maxHeartbeats 4000000
/-! fair weather: what stands behind the top, by names -/
namespace FW
open PySem L2 PyProof.Rows
/-- a def of the top, no defaults -/
def dTop (x : Str) (st : Stmt) : He.DefD := ⟨(x, none), x, x, defArgs st, defBody st, defScope st, [], []⟩
/-- a method of a class of the top -/
def dIn (c m : Str) (st : Stmt) : He.DefD := ⟨(c, some m), m, c ++ "." ++ m, defArgs st, defBody st, defScope st, [], []⟩
theorem fun_of {K : PySem.W.Frag} {x qual : Str} {st : Stmt} {f : Addr} {fd : FuncData} (F : FunD K x qual (defArgs st) (defBody st) (defScope st) [] [] f fd) : Fun K x qual st f fd := by
  obtain ⟨oc, od, dV, kV, doc, pm, an, cdv, ct, osl, rfl, lk, hcd, hD, hK⟩ := F.ex
  have e : dV = .none := by
    rcases hD with ⟨_, e⟩ | ⟨e, _⟩
    · exact e
    · exact absurd rfl e
  subst e
  exact ⟨⟨oc, od, kV, doc, pm, an, cdv, ct, osl, rfl, lk, hcd⟩, F.kp⟩
/-! ### an own exception of one field -/
def oexB (K : PySem.W.Frag) (C : Addr) : Bool := match K.lookup C with
  | some ⟨.type t, _, .cls cd, sl⟩ => t == "type" && (cd.hasDict && (!cd.hasDel && (match cd.mro, sl.toList with
    | .ref c :: bm, [_, _, _, _, some (.builtin n), _] => c == C && (n == "ValueError.__new__" && PySem.HandSPX.refsVE bm)
    | _, _ => false)))
  | _ => false
theorem oexB_ok {K : PySem.W.Frag} {C : Addr} (h : oexB K C = true) : ∃ nm q N bs bm sn sub ab col dd k0 k1 k2 k3 k5, K.lookup C = some (excClassObj nm q C N bs bm true sn sub ab col dd k0 k1 k2 k3 k5 "ValueError.__new__") ∧ PySem.HandSPX.refsVE bm = true := by
  unfold oexB at h
  split at h
  · rename_i t dd cd sl ho
    simp only [Bool.and_eq_true, beq_iff_eq, Bool.not_eq_true'] at h
    obtain ⟨rfl, h1, h2, h3⟩ := h
    split at h3
    · rename_i c bm k0 k1 k2 k3 n k5 hm hs
      simp only [Bool.and_eq_true, beq_iff_eq] at h3
      obtain ⟨rfl, rfl, h4⟩ := h3
      obtain ⟨nm, bs, mro, ns, qn, hd, sn, sub, ab, col, del⟩ := cd
      dsimp only at hm h1 h2
      subst hm h1 h2
      have hsl : sl = #[k0, k1, k2, k3, some (.builtin "ValueError.__new__"), k5] := by
        obtain ⟨l⟩ := sl
        simp only at hs
        rw [hs]
      subst hsl
      exact ⟨nm, qn, ns, bs, bm, sn, sub, ab, col, dd, k0, k1, k2, k3, k5, ho, h4⟩
    · cases h3
  · cases h
def exnB (K : PySem.W.Frag) (x f : Str) : Bool :=
  oexB K (He.ga K x) && (decide (PySem.W.findIn K (.ref (He.ga K x)) "__setattr__" = some (some (.builtin "object.__setattr__"))) && (decide (PySem.W.typeIn K (.ref (He.ga K x)) = some (.type "type")) && (PySem.W.keepIn K (.ref (He.ga K x)) &&
  (decide (PySem.W.findIn K (.ref (He.ga K x)) f = some none) && (xfB K (He.ga K x) && (decide (PySem.W.findIn K (.ref (He.ga K x)) "__class__" = some (some (.builtin "object.__class__"))) &&
  (decide (PySem.W.specialIn K (.builtin "object.__class__") "__get__" = some (some (.builtin "getset_descriptor.__get__"))) && (decide (PySem.W.takesIn K (.builtin "object.__class__") = some true) && (decide (PySem.W.mroIn K (He.ga K x) (.type "object") = some true) &&
  (decide (PySem.W.findIn K (.ref (He.ga K x)) "__init__" = some (some (.ref (He.ma K (He.ga K x) "__init__")))) && decide (PySem.W.typeIn K (.ref (He.ma K (He.ga K x) "__init__")) = some (.type "function"))))))))))))
theorem exnB_ok {P : Program} {w : World} {K : PySem.W.Frag} {mg : Str → Option Value} {base : Heap} {x f : Str} (h : exnB K x f = true) (g : mg x = some (.ref (He.ga K x)))
    (init : ∃ (fd : FuncData) (ps : List Str), FnOk P w K mg base CX0 1 (He.ma K (He.ga K x) "__init__") fd ps (spInit1 K (He.ga K x) f) ∧ Binds K fd ps []) : Exn P w K mg base x f (He.ga K x) := by
  unfold exnB at h
  simp only [Bool.and_eq_true, decide_eq_true_eq] at h
  obtain ⟨h1, h2, h3, h4, h5, h6, h7, h8, h9, h10, h11, h12⟩ := h
  have xf := xfB_ok h6
  obtain ⟨fd, ps, F, b⟩ := init
  exact ⟨⟨oexB_ok h1, h2, xf.exC, h3, h4⟩, g, h5, xf, ⟨xf.ga, xf.gg, xf.exC, xf.hdC, h7, h8, h9, h10⟩, ⟨_, fd, ps, h11, h12, F, b⟩⟩
/-! ### the facts, one by one -/
section
variable {K : PySem.W.Frag} {h : Heap} {mg : Str → Option Value} {fa : List He.Fa} {fn : List He.DefD}
theorem glo_at (X : K.In h) (G : h.Ns mainGlobals mg) (c : He.SaysD fa fn K) (i : Nat) {x : Str} (e : fa[i]? = some (.glo x)) : mg x = some (.ref (He.ga K x)) := He.glo_ok X G (c.fact i e)
theorem free_at (X : K.In h) (G : h.Ns mainGlobals mg) (c : He.SaysD fa fn K) (i : Nat) {x : Str} (e : fa[i]? = some (.free x)) : mg x = none := He.free_ok X G (c.fact i e)
theorem int_at (X : K.In h) (G : h.Ns mainGlobals mg) (c : He.SaysD fa fn K) (i : Nat) {x : Str} {n : Int} (e : fa[i]? = some (.int x n)) : ∃ u, mg x = some u ∧ RelV (.int n) u := by
  obtain ⟨t, q⟩ := He.int_ok X G (c.fact i e)
  exact ⟨_, q, t, rfl⟩
theorem fun_at (c : He.SaysD fa fn K) (i : Nat) {x : Str} {st : Stmt} (e : fn[i]? = some (dTop x st)) : ∃ fd, Fun K x x st (He.ga K x) fd := by
  obtain ⟨fd, F⟩ := c.def_ i e
  exact ⟨fd, fun_of F⟩
theorem defOk_of (c : He.SaysD fa fn K) (i : Nat) {x : Str} {st : Stmt} {ps : List Str} (e : fn[i]? = some (dTop x st)) (g : mg x = some (.ref (He.ga K x)))
    (b : ∀ (kV doc pm : Value) (an : Option Addr) (cdv ct : Value) (us : List Value), us.length = ps.length → bindArgs (PySem.W.fnOf x x (defArgs st) (defBody st) (defScope st) .none kV doc pm an cdv ct) ⟨us, []⟩ = pure (ps.zip us)) : DefOk K mg x st ps := by
  obtain ⟨fd, F⟩ := fun_at c i e
  exact ⟨_, fd, F, g, F.binds b⟩
theorem defOkC_of (c : He.SaysD fa fn K) (i : Nat) {x : Str} {st : Stmt} {ps : List Str} (e : fn[i]? = some (dTop x st)) (g : mg x = some (.ref (He.ga K x)))
    (b : ∀ (kV doc pm : Value) (an : Option Addr) (cdv ct : Value) (us : List Value), us.length = ps.length → bindArgs (PySem.W.fnOf x x (defArgs st) (defBody st) (defScope st) .none kV doc pm an cdv ct) ⟨us, []⟩ = pure (ps.zip us)) : DefOkC K mg x st ps (He.codeOf K (x, none)) := by
  obtain ⟨fd, F⟩ := fun_at c i e
  have F2 := F
  obtain ⟨oc, od, kV, doc, pm, an, cdv, ct, osl, rfl, lk, hcd⟩ := F2.ex
  obtain ⟨cc, rfl⟩ := He.codeIn_ref hcd
  exact ⟨_, _, F, g, F.binds b, by rw [He.codeOf_eq (p := (x, none)) lk rfl]⟩
theorem kdct_of {w : World} {a : Addr} {es : Array DictEntry} {n : Nat} {kvs : List (Str × He.Dv)} (d : KDict K w a es n) (v : He.valsB K a kvs = true) {q : Str × He.Dv} (hq : q ∈ kvs) : KDct K w a q.1 (q.2.v K) := by
  obtain ⟨u, e1, e2⟩ := He.valsB_ok v hq
  exact ⟨es, n, u, d.at_, d.lit, e1, e2⟩
theorem init1_ok {P : Program} {w : World} {base : Heap} {qual f : Str} {st : Stmt} {a C : Addr} {fd : FuncData} {p : Str} (F : Fun K "__init__" qual st a fd) (S : FnScope [("self" : Str), p] [("self" : Str), p] (defScope st))
    (body : ∀ X : Cx, X.N = [("self" : Str), p] → X.env.scope = defScope st → PSs X (defBody st) (tOst X.K f (tVar 0) (tVar 1))) : FnOk P w K mg base CX0 1 a fd [("self" : Str), p] (spInit1 K C f) := by
  refine F.ok S (fun vs H Q E h => ?_) (fun cdv A outer s H vs Q E hr h => ⟨_, body _ rfl rfl, ?_⟩)
  · obtain ⟨a, v, rfl, _⟩ := h; rfl
  · obtain ⟨a, v, rfl, T, no, ha, k⟩ := h
    exact ⟨v, rfl, .ref a, rfl, a, C, rfl, T, no, .inl ⟨ha, fun dx n1 n2 => k dx n1 n2⟩⟩
end
end FW

set_option maxRecDepth 100000
set_option maxHeartbeats 4000000
/-! fair weather: what stands behind the top, with a property of an own class -/
namespace FW
open PySem L2 PyProof.Rows
/-- the function at a place, as written -/
def wrote (K : PySem.W.Frag) (a : Addr) : He.FnW := match (K.lookup a).map Obj.data with
  | some (.func z) => some (z.name, z.qualname, z.params, z.body, z.scope, z.globals, z.closure, z.builtins)
  | _ => none
def propP (K : PySem.W.Frag) (C : Addr) (f : Str) : Addr := match PySem.W.findIn K (.ref C) f with
  | some (some (.ref p)) => p
  | _ => 0
def propG (K : PySem.W.Frag) (C : Addr) (f : Str) : Addr := match PySem.W.recIn K (propP K C f) "property" with
  | some (.ref g :: _) => g
  | _ => 0
def gotB (K : PySem.W.Frag) (g : Addr) (q : Str) : Bool := match K.lookup g with
  | some o => (match o.data with
    | .func z => PySem.W.codeIn K z.code q && (decide (z.defaults = .none) && PySem.W.keepIn K (.ref g))
    | _ => false)
  | none => false
def propB (K : PySem.W.Frag) (C : Addr) (f q : Str) : Bool :=
  decide (PySem.W.findIn K (.ref C) f = some (some (.ref (propP K C f)))) && (decide (PySem.W.specialIn K (.ref (propP K C f)) "__get__" = some (some (.builtin "property.__get__"))) && (decide (PySem.W.takesIn K (.ref (propP K C f)) = some true) &&
  ((match PySem.W.recIn K (propP K C f) "property" with | some (x :: _) => decide (x = .ref (propG K C f)) | _ => false) && gotB K (propG K C f) q)))
theorem propB_ok {K : PySem.W.Frag} {C : Addr} {f q : Str} (h : propB K C f q = true) : PropOf K C f (propP K C f) (propG K C f) ∧ gotB K (propG K C f) q = true := by
  unfold propB at h
  simp only [Bool.and_eq_true, decide_eq_true_eq] at h
  obtain ⟨h1, h2, h3, h4, h5⟩ := h
  refine ⟨⟨h1, h2, h3, ?_⟩, h5⟩
  split at h4
  · rename_i x xs e
    rw [of_decide_eq_true h4] at e
    exact ⟨xs, e⟩
  · cases h4
theorem got_fun {K : PySem.W.Frag} {g : Addr} {x q : Str} {st : Stmt} (h : gotB K g q = true) (e : wrote K g = some (x, q, defArgs st, .stmts (defBody st), defScope st, mainGlobals, [], builtinsNs)) : ∃ fd, Fun K x q st g fd := by
  unfold gotB at h
  unfold wrote at e
  split at h
  · rename_i o lk
    obtain ⟨oc, od, dt, sl⟩ := o
    rw [lk] at e
    dsimp only [Option.map] at h e
    split at h
    · rename_i z
      obtain ⟨z1, z2, z3, z4, z5, z6, z7, z8, z9, z10, z11, z12, z13, z14, z15⟩ := z
      simp only [Option.some.injEq, Prod.mk.injEq, Bool.and_eq_true, decide_eq_true_eq] at h e
      obtain ⟨y1, y2, y3, y4, y5, y6, y7, y8⟩ := e
      obtain ⟨w1, w2, w3⟩ := h
      subst y1 y2 y3 y4 y5 y6 y7 y8 w2
      exact ⟨_, ⟨⟨oc, od, z9, z10, z11, z12, z13, z14, sl, rfl, lk, w1⟩, w3⟩⟩
    · cases h
  · cases h
/-- the hook of a text with one property of an own class -/
def hookP (n : Nat) (fa : List He.Fa) (fn : List He.DefD) (ts : List He.Tab) (tf : List He.Defn) (ex : PySem.W.Frag → Bool) (C f x q : Str) (st : Stmt) : PySem.W.Hook where
  α := He.AlX × He.FnW
  obs := fun s => (He.obsX n fa fn ts tf ex s.heap.get?, wrote (He.frT s.heap.get? (He.asD s.heap.get? n)) (propG (He.frT s.heap.get? (He.asD s.heap.get? n)) (He.ga (He.frT s.heap.get? (He.asD s.heap.get? n)) C) f))
  val := fun w => (He.valX fn ts w, some (x, q, defArgs st, .stmts (defBody st), defScope st, mainGlobals, [], builtinsNs))
  says := fun w h => ∃ K : PySem.W.Frag, K.In h ∧ He.SaysX fa fn ts tf ex w h K ∧ wrote K (propG K (He.ga K C) f) = some (x, q, defArgs st, .stmts (defBody st), defScope st, mainGlobals, [], builtinsNs)
  of := fun _ _ e => ⟨_, He.frT_in, He.saysX_of (congrArg (fun z => z.1) e), congrArg (fun z => z.2) e⟩
  keeps := fun _ _ _ ⟨K, i, c, d⟩ k => ⟨K, PySem.W.Frag.In.keeps i k, ⟨c.t, c.more, c.hd, c.out, fun p m => k _ _ (c.empty p m)⟩, d⟩
end FW

set_option maxRecDepth 100000
set_option maxHeartbeats 4000000
namespace K42
open PySem L2 FW
def top (i : Nat) : Stmt := PySem.Challenge.pw_fairweather_k42_lines_of_letters.main.body.getD i (.Pass ⟨0, 0, 0, 0⟩)
local macro_rules | `(tactic| walk_at "side") => `(tactic| first
  | omega
  | exact ⟨by omega, by omega⟩
  | exact Or.inl ⟨by omega, by omega⟩
  | exact Or.inr ⟨by omega, by omega⟩
  | exact ⟨by omega, by omega, by omega⟩
  | exact ⟨by decide, by decide, by decide⟩
  | (refine mix2 ?_ ?_ ?_ ?_ ?_ ?_ ?_ ?_ ?_ ?_ <;> omega))
local macro_rules | `(tactic| walk_at "hp") => `(tactic| first
  | assumption | exact upd_same
  | (refine' rd_new ?n ?q; (case n => assumption); (case q => walk_at "hp"))
  | (refine' rd_ne ?n ?q; (case n => first | assumption | (apply Ne.symm; assumption)); (case q => walk_at "hp")))
local macro_rules | `(tactic| walk_at "sq") => `(tactic| first
  | assumption
  | (with_reducible apply SqL.of; walk_at "hp") | (with_reducible apply SqT.of; walk_at "hp")
  | ((with_reducible refine' sqL_new ?n ?q); (case n => assumption); (case q => walk_at "sq"))
  | ((with_reducible refine' sqT_new ?n ?q); (case n => assumption); (case q => walk_at "sq"))
  | ((with_reducible refine' sqL_ne ?n ?q); (case n => first | assumption | (apply Ne.symm; assumption)); (case q => walk_at "sq"))
  | ((with_reducible refine' sqT_ne ?n ?q); (case n => first | assumption | (apply Ne.symm; assumption)); (case q => walk_at "sq"))
  | ((with_reducible refine' Ext.sqL ?e ?n ?q); (case e => assumption); (case n => first | assumption | (apply Ne.symm; assumption)); (case q => walk_at "sq"))
  | ((with_reducible refine' Ext.sqT ?e ?n ?q); (case e => assumption); (case n => first | assumption | (apply Ne.symm; assumption)); (case q => walk_at "sq"))
  | ((with_reducible refine' Grow.sqL ?e ?q); (case e => assumption); (case q => walk_at "sq"))
  | ((with_reducible refine' Grow.sqT ?e ?q); (case e => assumption); (case q => walk_at "sq")))
local macro_rules | `(tactic| walk_at "sqs") => `(tactic| first | assumption | (exact ‹∀ H, SqT _ H _ _› _) | (apply SqT.of; walk_at "hp"))
local macro_rules | `(tactic| walk_at "kn") => `(tactic| first | assumption | exact True.intro)
local macro_rules | `(tactic| walk_at "fw") => `(tactic| with_reducible first
  | refine w_seq ?_ | refine w_asg ?_ | refine w_ret ?_ | refine w_drop ?_ | refine w_next ?_ | refine w_c ?_ | refine w_op ?_ | refine w_un ?_
  | refine w_test ?_ | refine w_B ?_ | refine w_bl ?_ | refine w_not ?_ | refine w_and ?_ | refine w_or ?_ | refine w_andV ?_ | refine w_orV ?_ | refine w_notV ?_
  | refine w_if ?_ | refine w_ifE ?_ | refine w_yes ?_ | refine w_no ?_ | refine w_rfl ?_ | refine w_tr ?_ | refine w_nyes ?_ | refine w_nno ?_ | refine w_T ?_ | refine w_F ?_ | refine w_nil ?_ | refine w_cons ?_ | refine w_cb ?_ | refine w_call ?_ | refine w_lst ?_ | refine w_tup ?_
  | refine w_I0 ?_ | refine w_U ?_ | refine w_int ?_ | refine w_intB ?_ | refine w_abs ?_ | refine w_raise1 ?_ | refine w_sub ?_ | refine w_gcons ?_ | refine w_gnil ?_ | refine w_par ?_ | refine w_chain ?_ | refine w_callNB ?_)
local macro_rules | `(tactic| walk_at "fwv") => `(tactic| first
  | ((with_reducible refine' w_var ?e ?_); (case e => rfl))
  | ((with_reducible refine' w_I ?e ?_); (case e => walk_at "side"))
  | ((with_reducible refine' w_ixL ?s ?e ?_); (case s => walk_at "sq"); (case e => rfl))
  | ((with_reducible refine' w_lenL ?s ?_); (case s => walk_at "sq"); try simp only [List.length_map, List.length_cons, List.length_nil])
  | ((with_reducible refine' w_setL ?e ?f ?_); (case e => walk_at "hp"); (case f => rfl); try simp only [Int.reduceToNat, List.set_cons_zero, List.set_cons_succ, upd_upd])
  | ((with_reducible refine' w_gtup ?s ?l ?_); (case s => walk_at "sq"); (case l => rfl))
  | ((with_reducible refine' w_eq ?e ?_); (case e => rfl))
  | ((with_reducible refine' w_ne ?e ?_); (case e => rfl))
  | ((with_reducible refine' w_mk1 ?o ?n ?_); (case o => apply Exn.oex; assumption); (case n => apply Exn.no; assumption); intro _ _)
  | ((with_reducible refine w_dnew ?_); intro _ _)
  | ((with_reducible refine' w_inT (ss := ?ss) ?s ?_); (case s => walk_at "sqs"))
  | ((with_reducible refine' w_notInT (ss := ?ss) ?s ?_); (case s => walk_at "sqs"))
  | ((with_reducible refine' w_inX ?s ?f ?g ?_); (case s => walk_at "sqs"); (case f => rfl); (case g => rfl))
  | ((with_reducible refine' w_isIntA ?k ?_); (case k => walk_at "kn"))
  | ((with_reducible refine' w_isBlA ?k ?_); (case k => walk_at "kn"))
  | ((with_reducible refine' w_isStrA ?k ?_); (case k => walk_at "kn"))
  | ((with_reducible refine w_par2 ?_); simp only [List.set_cons_zero, List.set_cons_succ])
  | ((with_reducible refine w_name ?_); simp only [List.set_cons_zero, List.set_cons_succ]))
local macro_rules | `(tactic| walk_at "size") => `(tactic| first | (show _ ≤ sizeLine; decide) | (simp only [List.length_cons, List.length_nil]; decide))
local macro_rules | `(tactic| walk_at "mk") => `(tactic| ((with_reducible refine' w_made ?n ?_); (case n => walk_at "size"); intro _ _))
local macro_rules | `(tactic| walk_at "ev") => `(tactic| simp only [reduceCtorEq, V.int.injEq, V.bl.injEq, V.str.injEq, V.ref.injEq, List.append_nil, List.cons_append, List.nil_append, decide_true, decide_false, Bool.not_true, Bool.not_false])
local macro_rules | `(tactic| walk_at "go") => `(tactic| repeat (first | walk_at "fw" | walk_at "fwv" | walk_at "mk" | (dsimp only) | walk_at "ev"))
local macro_rules | `(tactic| walk_at "br") => `(tactic| first | refine w_iteN (fun _ => ?_) (fun _ => ?_) | refine w_iteD (fun _ => ?_) (fun _ => ?_) | refine w_ite (fun _ => ?_) (fun _ => ?_))
local macro_rules | `(tactic| walk_at "fork") => `(tactic| (first | refine w_iteN (fun hx => ?_) (fun hx => ?_) | refine w_iteD (fun hx => ?_) (fun hx => ?_) | refine w_ite (fun hx => ?_) (fun hx => ?_)) <;> first | (exact absurd hx (by decide +kernel)) | skip)
local macro_rules | `(tactic| walk_at "gr") => `(tactic| repeat' (first | exact Grow.refl _ | assumption | refine Grow.trans ?_ (Grow.new (by assumption))))

/-! ### the mathematics -/
def within (v lo hi : V) : Bool := match v with
  | .int i => (match lo with | .int l => decide (l ≤ i) | _ => true) && (match hi with | .int h => decide (i ≤ h) | _ => true)
  | _ => false
def isSh (v : V) : Bool := match v with
  | .int i => decide (-2147483648 ≤ i) && decide (i ≤ 2147483647)
  | _ => false
theorem isSh_within (v : V) : within v (.int (-2147483648)) (.int 2147483647) = isSh v := by cases v <;> rfl
def Sh (n : Int) : Prop := -2147483648 ≤ n ∧ n ≤ 2147483647
theorem isSh_iff {i : Int} : isSh (.int i) = true ↔ Sh i := by unfold isSh Sh; simp
theorem in_int {v lo hi : V} (h : within v lo hi = true) : ∃ i, v = .int i := by cases v <;> first | exact ⟨_, rfl⟩ | cases h
/-- a value that holds no other one -/
def flatK : V → Bool
  | .non => true
  | .bl _ => true
  | .int _ => true
  | .str _ => true
  | _ => false
theorem flatK_kn {K : PySem.W.Frag} {H : Hp} {v : V} (h : flatK v = true) : Kn K H v := by cases v <;> first | trivial | cases h
/-! ### what the text says -/
abbrev s_is_list : Stmt := top 4
def N_is_list : List Str := ["value"]
theorem sc_is_list : FnScope N_is_list ["value"] (defScope s_is_list) := ⟨rfl, rfl, rfl, by decide +kernel, rfl, by decide +kernel, by decide +kernel⟩
abbrev s_is_integer : Stmt := top 5
def N_is_integer : List Str := ["value"]
theorem sc_is_integer : FnScope N_is_integer ["value"] (defScope s_is_integer) := ⟨rfl, rfl, rfl, by decide +kernel, rfl, by decide +kernel, by decide +kernel⟩
abbrev s_is_within : Stmt := top 6
def N_is_within : List Str := ["value", "least", "most"]
theorem sc_is_within : FnScope N_is_within ["value", "least", "most"] (defScope s_is_within) := ⟨rfl, rfl, rfl, by decide +kernel, rfl, by decide +kernel, by decide +kernel⟩
abbrev s_is_short : Stmt := top 7
def N_is_short : List Str := ["value"]
theorem sc_is_short : FnScope N_is_short ["value"] (defScope s_is_short) := ⟨rfl, rfl, rfl, by decide +kernel, rfl, by decide +kernel, by decide +kernel⟩
abbrev s_are_shorts : Stmt := top 8
def N_are_shorts : List Str := ["value", "many", "item"]
theorem sc_are_shorts : FnScope N_are_shorts ["value", "many"] (defScope s_are_shorts) := ⟨rfl, rfl, rfl, by decide +kernel, rfl, by decide +kernel, by decide +kernel⟩
abbrev s_Line___init__ : Stmt := inClass (top 15) 0
def N_Line___init__ : List Str := ["self", "late"]
theorem sc_Line___init__ : FnScope N_Line___init__ ["self", "late"] (defScope s_Line___init__) := ⟨rfl, rfl, rfl, by decide +kernel, rfl, by decide +kernel, by decide +kernel⟩
abbrev s_Line_letters : Stmt := inClass (top 15) 1
def N_Line_letters : List Str := ["self"]
theorem sc_Line_letters : FnScope N_Line_letters ["self"] (defScope s_Line_letters) := ⟨rfl, rfl, rfl, by decide +kernel, rfl, by decide +kernel, by decide +kernel⟩
abbrev s_Line_send : Stmt := inClass (top 15) 2
def N_Line_send : List Str := ["self", "letter"]
theorem sc_Line_send : FnScope N_Line_send ["self", "letter"] (defScope s_Line_send) := ⟨rfl, rfl, rfl, by decide +kernel, rfl, by decide +kernel, by decide +kernel⟩
abbrev s_Line_place_back : Stmt := inClass (top 15) 3
def N_Line_place_back : List Str := ["self", "back"]
theorem sc_Line_place_back : FnScope N_Line_place_back ["self", "back"] (defScope s_Line_place_back) := ⟨rfl, rfl, rfl, by decide +kernel, rfl, by decide +kernel, by decide +kernel⟩
abbrev s_Line_hand : Stmt := inClass (top 15) 4
def N_Line_hand : List Str := ["self", "back", "place", "letter", "ahead", "times"]
theorem sc_Line_hand : FnScope N_Line_hand ["self", "back"] (defScope s_Line_hand) := ⟨rfl, rfl, rfl, by decide +kernel, rfl, by decide +kernel, by decide +kernel⟩
abbrev s_Line_drop : Stmt := inClass (top 15) 5
def N_Line_drop : List Str := ["self", "back", "place"]
theorem sc_Line_drop : FnScope N_Line_drop ["self", "back"] (defScope s_Line_drop) := ⟨rfl, rfl, rfl, by decide +kernel, rfl, by decide +kernel, by decide +kernel⟩
/-! ### promises -/
def spIsInteger (K : PySem.W.Frag) : Sp := fun vs H Q _ => ∃ v, vs = [v] ∧ Kn K H v ∧ Q (.bl (isInt v)) H
def OrN (v : V) : Prop := v = .non ∨ ∃ i, v = .int i
def spWithin (K : PySem.W.Frag) : Sp := fun vs H Q _ => ∃ v lo hi, vs = [v, lo, hi] ∧ Kn K H v ∧ OrN lo ∧ OrN hi ∧ Q (.bl (within v lo hi)) H
def spIsShort (K : PySem.W.Frag) : Sp := fun vs H Q _ => ∃ v, vs = [v] ∧ Kn K H v ∧ Q (.bl (isSh v)) H
def kinds : List String := ["list", "tuple", "dict", "NoneType", "bool", "int", "str"]
def isSeqT (T : String) : Bool := T == "list" || T == "tuple"
def spIsList (K : PySem.W.Frag) : Sp := fun vs H Q _ => ∃ v T, vs = [v] ∧ TyX K H v (.type T) ∧ T ∈ kinds ∧ ∀ H', Grow H H' → Q (.bl (isSeqT T)) H'
/-- a list or a tuple of values that hold no other ones, or no list at all -/
def spShorts (K : PySem.W.Frag) : Sp := fun vs H Q _ => ∃ v n, vs = [v, .int n] ∧
  ((∃ a xs, v = .ref a ∧ (H a = some (.lst xs) ∨ H a = some (.tup xs)) ∧ xs.all flatK = true ∧ xs.length ≤ 1000 ∧ ∀ H', Grow H H' → Q (.bl (decide ((xs.length : Int) = n) && xs.all isSh)) H') ∨
  (∃ T, TyX K H v (.type T) ∧ T ∈ kinds ∧ isSeqT T = false ∧ ∀ H', Grow H H' → Q (.bl false) H'))
structure Txt (P : Program) (w : World) (K : PySem.W.Frag) (mg : Str → Option Value) (base : Heap) where
  cBadNumber : Addr
  cLine : Addr
  aLetters : Addr
  gLetters : Addr
  b_int : mg "int" = none
  b_bool : mg "bool" = none
  b_list : mg "list" = none
  b_tuple : mg "tuple" = none
  b_len : mg "len" = none
  b_abs : mg "abs" = none
  b_all : mg "all" = none
  b_isinstance : mg "isinstance" = none
  g_LEAST_SHORT : ∃ u, mg "LEAST_SHORT" = some u ∧ RelV (.int (-2147483648)) u
  g_MOST_SHORT : ∃ u, mg "MOST_SHORT" = some u ∧ RelV (.int 2147483647) u
  g_MOST_LATE : ∃ u, mg "MOST_LATE" = some u ∧ RelV (.int 8) u
  g_MOST_BACK : ∃ u, mg "MOST_BACK" = some u ∧ RelV (.int 99) u
  x_BadNumber : Exn P w K mg base "BadNumber" "part" cBadNumber
  g_Line : mg "Line" = some (.ref cLine)
  cl_Line : Cls K cLine
  n_late : NoAttr K cLine "late"
  n_lying : NoAttr K cLine "lying"
  d_is_list : DefOk K mg "is_list" s_is_list ["value"]
  d_is_integer : DefOk K mg "is_integer" s_is_integer ["value"]
  d_is_within : DefOk K mg "is_within" s_is_within ["value", "least", "most"]
  d_is_short : DefOk K mg "is_short" s_is_short ["value"]
  d_are_shorts : DefOk K mg "are_shorts" s_are_shorts ["value", "many"]
  m__init__ : MethOk K cLine "__init__" "Line.__init__" s_Line___init__ ["self", "late"]
  mk_Line : ∃ f fd, Mk K cLine f ∧ Fun K "__init__" "Line.__init__" s_Line___init__ f fd ∧ Binds K fd ["self", "late"] []
  p_letters : PropOf K cLine "letters" aLetters gLetters
  f_letters : ∃ fd, Fun K "letters" "Line.letters" s_Line_letters gLetters fd ∧ Binds K fd ["self"] []
  m_send : MethOk K cLine "send" "Line.send" s_Line_send ["self", "letter"]
  m_place_back : MethOk K cLine "place_back" "Line.place_back" s_Line_place_back ["self", "back"]
  m_hand : MethOk K cLine "hand" "Line.hand" s_Line_hand ["self", "back"]
  m_drop : MethOk K cLine "drop" "Line.drop" s_Line_drop ["self", "back"]
section
variable {P : Program} {w : World} {K : PySem.W.Frag} {mg : Str → Option Value} {base : Heap}
theorem ok_is_integer {f : Addr} {fd : FuncData} (T : Txt P w K mg base) (F : Fun K "is_integer" "is_integer" s_is_integer f fd) : FnOk P w K mg base CX0 1 f fd ["value"] (spIsInteger K) := by
  refine F.ok sc_is_integer (fun vs H Q E h => ?_) (fun cdv A outer s H vs Q E hr h => ?_)
  · obtain ⟨v, rfl, _⟩ := h; rfl
  · obtain ⟨v, rfl, kn, k⟩ := h
    refine ⟨_, (pss_one (ps_ret (pe_and (pe_callB call_isA (by rfl) T.b_isinstance (by decide +kernel) (pa_cons (pv 0) (pa_cons (pe_bltn (v := .ty "int") (u := .type "int") rfl T.b_int (by decide +kernel) rfl) pa_nil))) (pe_one (pe_not (pe_callB call_isA (by rfl) T.b_isinstance (by decide +kernel) (pa_cons (pv 0) (pa_cons (pe_bltn (v := .ty "bool") (u := .type "bool") rfl T.b_bool (by decide +kernel) rfl) pa_nil)))))))), ?_⟩
    rw [show L2.start N_is_integer [v] = [some v] from rfl]; try dsimp only [cxOf]
    walk_at "go"
    walk_at "br"
    · walk_at "go"
      cases v <;> simp_all [isIntB, isBl, isInt]
    · cases v <;> simp_all [isIntB, isBl, isInt]
theorem c_is_integer (T : Txt P w K mg base) : Can P w K mg base CX0 1 "is_integer" ["value"] (spIsInteger K) := T.d_is_integer.can fun f fd F => ok_is_integer T F
theorem ok_is_within {f : Addr} {fd : FuncData} (T : Txt P w K mg base) (F : Fun K "is_within" "is_within" s_is_within f fd) : FnOk P w K mg base CX0 2 f fd ["value", "least", "most"] (spWithin K) := by
  refine F.ok sc_is_within (fun vs H Q E h => ?_) (fun cdv A outer s H vs Q E hr h => ?_)
  · obtain ⟨v, lo, hi, rfl, _⟩ := h; rfl
  · obtain ⟨v, lo, hi, rfl, kn, hlo, hhi, k⟩ := h
    refine ⟨_, (pss_cons (ps_if (pt_not (pt_val (pe_can (E := E0) (c_is_integer T) hr (by decide) pass0 rfl (pa_cons (pv 0) pa_nil))))
 (pss_one (ps_ret pe_bl))
 pss_nil)
 (pss_cons (ps_if (PW.pt (pw_and (pt_cmpR op_notN (pv 1) pe_non (nomark _)) (pw_and1 (pt_cmpR op_lt (pv 0) (pv 1) (nomark _)))))
 (pss_one (ps_ret pe_bl))
 pss_nil)
 (pss_one (ps_ret (pe_or (pe_cmpR op_isN (pv 2) pe_non (nomark _)) (pe_one (pe_cmpR op_le (pv 0) (pv 2) (nomark _)))))))), ?_⟩
    rw [show L2.start N_is_within [(v), (lo), (hi)] = [some (v), some (lo), some (hi)] from rfl]; try dsimp only [cxOf]
    walk_at "go"
    refine ⟨v, rfl, kn, ?_⟩
    walk_at "go"
    cases hv : isInt v with
    | false =>
      walk_at "go"
      have e : within v lo hi = false := by cases v <;> first | rfl | cases hv
      rw [← e]; exact k
    | true =>
      obtain ⟨i, rfl⟩ : ∃ i, v = .int i := by cases v <;> first | exact ⟨_, rfl⟩ | cases hv
      rcases hlo with rfl | ⟨l, rfl⟩ <;> rcases hhi with rfl | ⟨u, rfl⟩
      · walk_at "go"; exact k
      · walk_at "go"; simp only [within, Bool.true_and] at k; exact k
      · walk_at "go"; refine w_iteD (fun h => ?_) (fun h => ?_)
        · walk_at "go"; simp only [within, Bool.and_true, decide_eq_false (show ¬ l ≤ i by omega)] at k; exact k
        · walk_at "go"; simp only [within, Bool.and_true, decide_eq_true (show l ≤ i by omega)] at k; exact k
      · walk_at "go"; refine w_iteD (fun h => ?_) (fun h => ?_)
        · walk_at "go"; simp only [within, decide_eq_false (show ¬ l ≤ i by omega), Bool.false_and] at k; exact k
        · walk_at "go"; simp only [within, decide_eq_true (show l ≤ i by omega), Bool.true_and] at k; exact k
theorem c_is_within (T : Txt P w K mg base) : Can P w K mg base CX0 2 "is_within" ["value", "least", "most"] (spWithin K) := T.d_is_within.can fun f fd F => ok_is_within T F
theorem ok_is_short {f : Addr} {fd : FuncData} (T : Txt P w K mg base) (F : Fun K "is_short" "is_short" s_is_short f fd) : FnOk P w K mg base CX0 3 f fd ["value"] (spIsShort K) := by
  refine F.ok sc_is_short (fun vs H Q E h => ?_) (fun cdv A outer s H vs Q E hr h => ?_)
  · obtain ⟨v, rfl, _⟩ := h; rfl
  · obtain ⟨v, rfl, kn, k⟩ := h
    refine ⟨_, (pss_one (ps_ret (pe_can (E := E0) (c_is_within T) hr (by decide) pass0 rfl (pa_cons (pv 0) (pa_cons (pe_gc rfl T.g_LEAST_SHORT) (pa_cons (pe_gc rfl T.g_MOST_SHORT) pa_nil)))))), ?_⟩
    rw [show L2.start N_is_short [(v)] = [some (v)] from rfl]; try dsimp only [cxOf]
    walk_at "go"
    refine ⟨_, _, _, rfl, kn, .inr ⟨_, rfl⟩, .inr ⟨_, rfl⟩, ?_⟩
    rw [isSh_within]
    exact k
theorem c_is_short (T : Txt P w K mg base) : Can P w K mg base CX0 3 "is_short" ["value"] (spIsShort K) := T.d_is_short.can fun f fd F => ok_is_short T F
theorem tyx_grow {K : PySem.W.Frag} {H H' : Hp} {v : V} {t : Value} (g : Grow H H') (h : TyX K H v t) : TyX K H' v t := by
  cases h with
  | base b =>
    refine .base ?_
    cases b with
    | non => exact .non
    | bl y => exact .bl y
    | int i => exact .int i
    | str y => exact .str y
    | flt y => exact .flt y
    | lst h => exact .lst (g _ _ h)
    | frz h => exact .frz (g _ _ h)
    | tup h => exact .tup (g _ _ h)
    | dK h => exact .dK (g _ _ h)
    | dT h => exact .dT (g _ _ h)
    | ins h a1 a2 a3 a4 a5 => exact .ins (g _ _ h) a1 a2 a3 a4 a5
  | byt b => exact .byt b
  | set h => exact .set (g _ _ h)
  | kList h k => exact .kList h k
  | kTuple h k => exact .kTuple h k
  | kDict h k => exact .kDict h k
  | fTuple h => exact .fTuple (g _ _ h)
  | fDict h => exact .fDict (g _ _ h)
theorem kit_seq {K : PySem.W.Frag} {T : String} (h : T ∈ kinds) : PySem.W.kitAny K (.type T) [.type "list", .type "tuple"] = some (isSeqT T) := by
  unfold kinds at h
  simp only [List.mem_cons, List.not_mem_nil, or_false] at h
  rcases h with rfl | rfl | rfl | rfl | rfl | rfl | rfl
  · exact kitAny_cons (b := true) (kit_ty (by decide +kernel)) nofun (fun _ => by decide)
  · exact kitAny_cons (b := false) (kit_ty (by decide +kernel)) (fun _ => kitAny_cons (b := true) (kit_ty (by decide +kernel)) nofun (fun _ => by decide)) nofun
  all_goals exact kitAny_cons (b := false) (kit_ty (by decide +kernel)) (fun _ => kitAny_cons (b := false) (kit_ty (by decide +kernel)) (fun _ => by unfold PySem.W.kitAny; decide) nofun) nofun
theorem ok_is_list {f : Addr} {fd : FuncData} (T : Txt P w K mg base) (F : Fun K "is_list" "is_list" s_is_list f fd) : FnOk P w K mg base CX0 1 f fd ["value"] (spIsList K) := by
  refine F.ok sc_is_list (fun vs H Q E h => ?_) (fun cdv A outer s H vs Q E hr h => ?_)
  · obtain ⟨v, _, rfl, _⟩ := h; rfl
  · obtain ⟨v, t, rfl, ty, ht, k⟩ := h
    refine ⟨_, (pss_one (ps_ret (pe_callB call_isiT (by rfl) T.b_isinstance (by decide +kernel) (pa_cons (pv 0) (pa_cons (pe_tup (pa_cons (pe_bltn (v := .ty "list") (u := .type "list") rfl T.b_list (by decide +kernel) rfl) (pa_cons (pe_bltn (v := .ty "tuple") (u := .type "tuple") rfl T.b_tuple (by decide +kernel) rfl) pa_nil))) pa_nil))))), ?_⟩
    rw [show L2.start N_is_list [(v)] = [some (v)] from rfl]; try dsimp only [cxOf]
    walk_at "go"
    rename_i p e
    refine ⟨v, p, _, .type t, _, isSeqT t, rfl, upd_same, .cons (.ty _) (.cons (.ty _) .nil), tyx_grow (Grow.new e) ty, kit_seq ht, ?_⟩
    walk_at "go"
    exact k _ (Grow.new e)
theorem c_is_list (T : Txt P w K mg base) : Can P w K mg base CX0 1 "is_list" ["value"] (spIsList K) := T.d_is_list.can fun f fd F => ok_is_list T F
end
end K42

set_option maxRecDepth 100000
set_option maxHeartbeats 4000000
namespace K42
open PySem L2 FW PyProof.Rows
local macro_rules | `(tactic| walk_at "side") => `(tactic| first
  | omega
  | exact ⟨by omega, by omega⟩
  | exact Or.inl ⟨by omega, by omega⟩
  | exact Or.inr ⟨by omega, by omega⟩
  | exact ⟨by omega, by omega, by omega⟩
  | exact ⟨by decide, by decide, by decide⟩
  | (refine mix2 ?_ ?_ ?_ ?_ ?_ ?_ ?_ ?_ ?_ ?_ <;> omega))
local macro_rules | `(tactic| walk_at "hp") => `(tactic| first
  | assumption | exact upd_same
  | (refine' rd_new ?n ?q; (case n => assumption); (case q => walk_at "hp"))
  | (refine' rd_ne ?n ?q; (case n => first | assumption | (apply Ne.symm; assumption)); (case q => walk_at "hp")))
local macro_rules | `(tactic| walk_at "sq") => `(tactic| first
  | assumption
  | (with_reducible apply SqL.of; walk_at "hp") | (with_reducible apply SqT.of; walk_at "hp")
  | ((with_reducible refine' sqL_new ?n ?q); (case n => assumption); (case q => walk_at "sq"))
  | ((with_reducible refine' sqT_new ?n ?q); (case n => assumption); (case q => walk_at "sq"))
  | ((with_reducible refine' sqL_ne ?n ?q); (case n => first | assumption | (apply Ne.symm; assumption)); (case q => walk_at "sq"))
  | ((with_reducible refine' sqT_ne ?n ?q); (case n => first | assumption | (apply Ne.symm; assumption)); (case q => walk_at "sq"))
  | ((with_reducible refine' Ext.sqL ?e ?n ?q); (case e => assumption); (case n => first | assumption | (apply Ne.symm; assumption)); (case q => walk_at "sq"))
  | ((with_reducible refine' Ext.sqT ?e ?n ?q); (case e => assumption); (case n => first | assumption | (apply Ne.symm; assumption)); (case q => walk_at "sq"))
  | ((with_reducible refine' Grow.sqL ?e ?q); (case e => assumption); (case q => walk_at "sq"))
  | ((with_reducible refine' Grow.sqT ?e ?q); (case e => assumption); (case q => walk_at "sq")))
local macro_rules | `(tactic| walk_at "sqs") => `(tactic| first | assumption | (exact ‹∀ H, SqT _ H _ _› _) | (apply SqT.of; walk_at "hp"))
local macro_rules | `(tactic| walk_at "kn") => `(tactic| first | assumption | exact True.intro)
local macro_rules | `(tactic| walk_at "fw") => `(tactic| with_reducible first
  | refine w_seq ?_ | refine w_asg ?_ | refine w_ret ?_ | refine w_drop ?_ | refine w_next ?_ | refine w_c ?_ | refine w_op ?_ | refine w_un ?_
  | refine w_test ?_ | refine w_B ?_ | refine w_bl ?_ | refine w_not ?_ | refine w_and ?_ | refine w_or ?_ | refine w_andV ?_ | refine w_orV ?_ | refine w_notV ?_
  | refine w_if ?_ | refine w_ifE ?_ | refine w_yes ?_ | refine w_no ?_ | refine w_rfl ?_ | refine w_tr ?_ | refine w_nyes ?_ | refine w_nno ?_ | refine w_T ?_ | refine w_F ?_ | refine w_nil ?_ | refine w_cons ?_ | refine w_cb ?_ | refine w_call ?_ | refine w_lst ?_ | refine w_tup ?_
  | refine w_I0 ?_ | refine w_U ?_ | refine w_int ?_ | refine w_intB ?_ | refine w_abs ?_ | refine w_raise1 ?_ | refine w_sub ?_ | refine w_gcons ?_ | refine w_gnil ?_ | refine w_par ?_ | refine w_chain ?_ | refine w_callNB ?_)
local macro_rules | `(tactic| walk_at "fwv") => `(tactic| first
  | ((with_reducible refine' w_var ?e ?_); (case e => rfl))
  | ((with_reducible refine' w_I ?e ?_); (case e => walk_at "side"))
  | ((with_reducible refine' w_ixL ?s ?e ?_); (case s => walk_at "sq"); (case e => rfl))
  | ((with_reducible refine' w_lenL ?s ?_); (case s => walk_at "sq"); try simp only [List.length_map, List.length_cons, List.length_nil])
  | ((with_reducible refine' w_setL ?e ?f ?_); (case e => walk_at "hp"); (case f => rfl); try simp only [Int.reduceToNat, List.set_cons_zero, List.set_cons_succ, upd_upd])
  | ((with_reducible refine' w_gtup ?s ?l ?_); (case s => walk_at "sq"); (case l => rfl))
  | ((with_reducible refine' w_eq ?e ?_); (case e => rfl))
  | ((with_reducible refine' w_ne ?e ?_); (case e => rfl))
  | ((with_reducible refine' w_mk1 ?o ?n ?_); (case o => apply Exn.oex; assumption); (case n => apply Exn.no; assumption); intro _ _)
  | ((with_reducible refine w_dnew ?_); intro _ _)
  | ((with_reducible refine' w_inT (ss := ?ss) ?s ?_); (case s => walk_at "sqs"))
  | ((with_reducible refine' w_notInT (ss := ?ss) ?s ?_); (case s => walk_at "sqs"))
  | ((with_reducible refine' w_inX ?s ?f ?g ?_); (case s => walk_at "sqs"); (case f => rfl); (case g => rfl))
  | ((with_reducible refine' w_isIntA ?k ?_); (case k => walk_at "kn"))
  | ((with_reducible refine' w_isBlA ?k ?_); (case k => walk_at "kn"))
  | ((with_reducible refine' w_isStrA ?k ?_); (case k => walk_at "kn"))
  | ((with_reducible refine w_par2 ?_); simp only [List.set_cons_zero, List.set_cons_succ])
  | ((with_reducible refine w_name ?_); simp only [List.set_cons_zero, List.set_cons_succ]))
local macro_rules | `(tactic| walk_at "size") => `(tactic| first | (show _ ≤ sizeLine; decide) | (simp only [List.length_cons, List.length_nil]; decide))
local macro_rules | `(tactic| walk_at "mk") => `(tactic| ((with_reducible refine' w_made ?n ?_); (case n => walk_at "size"); intro _ _))
local macro_rules | `(tactic| walk_at "ev") => `(tactic| simp only [reduceCtorEq, V.int.injEq, V.bl.injEq, V.str.injEq, V.ref.injEq, List.append_nil, List.cons_append, List.nil_append, decide_true, decide_false, Bool.not_true, Bool.not_false])
local macro_rules | `(tactic| walk_at "go") => `(tactic| repeat (first | walk_at "fw" | walk_at "fwv" | walk_at "mk" | (dsimp only) | walk_at "ev"))
local macro_rules | `(tactic| walk_at "br") => `(tactic| first | refine w_iteN (fun _ => ?_) (fun _ => ?_) | refine w_iteD (fun _ => ?_) (fun _ => ?_) | refine w_ite (fun _ => ?_) (fun _ => ?_))
local macro_rules | `(tactic| walk_at "fork") => `(tactic| (first | refine w_iteN (fun hx => ?_) (fun hx => ?_) | refine w_iteD (fun hx => ?_) (fun hx => ?_) | refine w_ite (fun hx => ?_) (fun hx => ?_)) <;> first | (exact absurd hx (by decide +kernel)) | skip)
local macro_rules | `(tactic| walk_at "gr") => `(tactic| repeat' (first | exact Grow.refl _ | assumption | refine Grow.trans ?_ (Grow.new (by assumption))))

section
variable {P : Program} {w : World} {K : PySem.W.Frag} {mg : Str → Option Value} {base : Heap}
theorem w_lenT {K : PySem.W.Frag} {H : Hp} {Q : VK} {p : Addr} {xs : List V} (s : SqT K H p xs) (h : Q (.int xs.length) H) : FW.rLen K [.ref p] H Q := ⟨.ref p, xs.length, rfl, Or.inr ⟨xs, s, rfl⟩, h⟩
theorem sh_turns {te : TE} {i : Nat} {σ : L2.St} {H1 : Hp} {xs : List V} (hf : xs.all flatK = true) (hte : ∀ (y : V) (H : Hp) (R : VK), spIsShort K [y] H R E0 → te ((wipe σ [i]).set i (some y)) H R) :
    Turns te i σ H1 xs (xs.map fun y => V.bl (isSh y)) := by
  intro j x y H' R ex ey g r
  rw [List.getElem?_map, ex] at ey
  cases ey
  exact hte x H' R ⟨x, rfl, flatK_kn (List.all_eq_true.mp hf x (List.mem_of_getElem? ex)), r _ (Grow.refl _)⟩
theorem all_sh (xs : List V) : (xs.map fun y => V.bl (isSh y)) = (xs.map isSh).map V.bl := by rw [List.map_map]; rfl
theorem all_id (xs : List V) : (xs.map isSh).all id = xs.all isSh := by rw [List.all_map]; rfl
theorem ok_are_shorts {f : Addr} {fd : FuncData} (T : Txt P w K mg base) (F : Fun K "are_shorts" "are_shorts" s_are_shorts f fd) : FnOk P w K mg base CX0 4 f fd ["value", "many"] (spShorts K) := by
  refine F.ok sc_are_shorts (fun vs H Q E h => ?_) (fun cdv A outer s H vs Q E hr h => ?_)
  · obtain ⟨v, n, rfl, _⟩ := h; rfl
  · obtain ⟨v, n, rfl, h⟩ := h
    rcases h with ⟨a, xs, rfl, hl | ht, hf, hn, k⟩ | ⟨t, ty, hk, hs, k⟩
    · refine ⟨_, (pss_cons (ps_if (PW.pt (pw_or (pt_not (pt_val (pe_can (E := E0) (c_is_list T) hr (by decide) pass0 rfl (pa_cons (pv 0) pa_nil)))) (pw_or1 (PW.pt (pw_and (pt_cmpR op_notN (pv 1) pe_non (nomark _)) (pw_and1 (pt_cmpR op_ne (pe_callB call_lenA (by rfl) T.b_len (by decide +kernel) (pa_cons (pv 0) pa_nil)) (pv 1) (nomark _))))))))
 (pss_one (ps_ret pe_bl))
 pss_nil)
 (pss_one (ps_ret (pe_callB (cr_all rfl) (by rfl) T.b_all (by decide +kernel) (pa_cons (pe_lc1 (x := "item") (i := 2) (g := gName 2) (tt := tYes) rfl sc_are_shorts.nd (pi_list (pv 0)) (blkOk_by (N := N_are_shorts) (sc := defScope s_are_shorts) (by decide +kernel)) (fun _ _ _ _ _ => pg_name (i := 2) sc_are_shorts.nd rfl (Or.inl rfl)) (fun _ _ _ _ _ => pts_nil) (fun _ _ _ _ _ => (pe_can (E := E0) (c_is_short T) hr (by decide) pass0 rfl (pa_cons (pv 2) pa_nil)))) pa_nil))))), ?_⟩
      rw [show L2.start N_are_shorts [(V.ref a), (V.int n)] = [some (V.ref a), some (V.int n), none] from rfl]; try dsimp only [cxOf]
      walk_at "go"
      refine ⟨.ref a, "list", rfl, .base (.lst hl), by unfold kinds; simp, fun H1 g1 => ?_⟩
      rw [show isSeqT "list" = true from rfl]
      walk_at "go"
      have hl1 := g1 _ _ hl
      refine w_iteN (fun h1 => ?_) (fun h1 => ?_)
      · walk_at "go"
        rw [decide_eq_false h1, Bool.false_and] at k
        exact k _ g1
      · walk_at "go"
        rw [decide_eq_true h1, Bool.true_and] at k
        refine ⟨.ref a, rfl, a, rfl, ⟨_, SqL.of hl1⟩, ?_⟩
        dsimp only
        refine lcL (σ := [some (V.ref a), some (V.int n), none]) (i := 2) (xs := xs) (ys := xs.map fun y => V.bl (isSh y)) (by intro _; rfl) (by rw [List.length_map]) (by rw [sizeLine_eq]; omega) (SqL.of hl1) (sh_turns (K := K) hf (fun y H R hy => by walk_at "go"; exact hy)) (fun D H2 nD eD g2 => ?_)
        walk_at "go"
        refine ⟨D, xs.map isSh, rfl, SqL.of (by rw [eD, all_sh]), ?_⟩
        rw [all_id]
        exact k _ (g1.trans g2)
    · refine ⟨_, (pss_cons (ps_if (PW.pt (pw_or (pt_not (pt_val (pe_can (E := E0) (c_is_list T) hr (by decide) pass0 rfl (pa_cons (pv 0) pa_nil)))) (pw_or1 (PW.pt (pw_and (pt_cmpR op_notN (pv 1) pe_non (nomark _)) (pw_and1 (pt_cmpR op_ne (pe_callB call_lenA (by rfl) T.b_len (by decide +kernel) (pa_cons (pv 0) pa_nil)) (pv 1) (nomark _))))))))
 (pss_one (ps_ret pe_bl))
 pss_nil)
 (pss_one (ps_ret (pe_callB (cr_all rfl) (by rfl) T.b_all (by decide +kernel) (pa_cons (pe_lc1 (x := "item") (i := 2) (g := gName 2) (tt := tYes) rfl sc_are_shorts.nd (pi_tup (pv 0)) (blkOk_by (N := N_are_shorts) (sc := defScope s_are_shorts) (by decide +kernel)) (fun _ _ _ _ _ => pg_name (i := 2) sc_are_shorts.nd rfl (Or.inl rfl)) (fun _ _ _ _ _ => pts_nil) (fun _ _ _ _ _ => (pe_can (E := E0) (c_is_short T) hr (by decide) pass0 rfl (pa_cons (pv 2) pa_nil)))) pa_nil))))), ?_⟩
      rw [show L2.start N_are_shorts [(V.ref a), (V.int n)] = [some (V.ref a), some (V.int n), none] from rfl]; try dsimp only [cxOf]
      walk_at "go"
      refine ⟨.ref a, "tuple", rfl, .base (.tup ht), by unfold kinds; simp, fun H1 g1 => ?_⟩
      rw [show isSeqT "tuple" = true from rfl]
      walk_at "go"
      have ht1 := g1 _ _ ht
      refine w_lenT (SqT.of ht1) ?_
      walk_at "go"
      refine w_iteN (fun h1 => ?_) (fun h1 => ?_)
      · walk_at "go"
        rw [decide_eq_false h1, Bool.false_and] at k
        exact k _ g1
      · walk_at "go"
        rw [decide_eq_true h1, Bool.true_and] at k
        refine ⟨.ref a, rfl, a, rfl, ⟨_, SqT.of ht1⟩, ?_⟩
        dsimp only
        refine lcT (σ := [some (V.ref a), some (V.int n), none]) (i := 2) (xs := xs) (ys := xs.map fun y => V.bl (isSh y)) (by intro _; rfl) (by rw [List.length_map]) (by rw [sizeLine_eq]; omega) (SqT.of ht1) (sh_turns (K := K) hf (fun y H R hy => by walk_at "go"; exact hy)) (fun D H2 nD eD g2 => ?_)
        walk_at "go"
        refine ⟨D, xs.map isSh, rfl, SqL.of (by rw [eD, all_sh]), ?_⟩
        rw [all_id]
        exact k _ (g1.trans g2)
    · refine ⟨_, (pss_cons (ps_if (PW.pt (pw_or (pt_not (pt_val (pe_can (E := E0) (c_is_list T) hr (by decide) pass0 rfl (pa_cons (pv 0) pa_nil)))) (pw_or1 (PW.pt (pw_and (pt_cmpR op_notN (pv 1) pe_non (nomark _)) (pw_and1 (pt_cmpR op_ne (pe_callB call_lenA (by rfl) T.b_len (by decide +kernel) (pa_cons (pv 0) pa_nil)) (pv 1) (nomark _))))))))
 (pss_one (ps_ret pe_bl))
 pss_nil)
 (pss_one (ps_ret (pe_callB (cr_all rfl) (by rfl) T.b_all (by decide +kernel) (pa_cons (pe_lc1 (x := "item") (i := 2) (g := gName 2) (tt := tYes) rfl sc_are_shorts.nd (pi_list (pv 0)) (blkOk_by (N := N_are_shorts) (sc := defScope s_are_shorts) (by decide +kernel)) (fun _ _ _ _ _ => pg_name (i := 2) sc_are_shorts.nd rfl (Or.inl rfl)) (fun _ _ _ _ _ => pts_nil) (fun _ _ _ _ _ => (pe_can (E := E0) (c_is_short T) hr (by decide) pass0 rfl (pa_cons (pv 2) pa_nil)))) pa_nil))))), ?_⟩
      rw [show L2.start N_are_shorts [(v), (V.int n)] = [some (v), some (V.int n), none] from rfl]; try dsimp only [cxOf]
      walk_at "go"
      refine ⟨v, t, rfl, ty, hk, fun H1 g1 => ?_⟩
      rw [hs]
      walk_at "go"
      exact k _ g1
theorem c_are_shorts (T : Txt P w K mg base) : Can P w K mg base CX0 4 "are_shorts" ["value", "many"] (spShorts K) := T.d_are_shorts.can fun f fd F => ok_are_shorts T F
end
end K42

set_option maxRecDepth 100000
set_option maxHeartbeats 4000000
namespace K42
open PySem L2 FW PyProof.Rows
local macro_rules | `(tactic| walk_at "side") => `(tactic| first
  | omega
  | exact ⟨by omega, by omega⟩
  | exact Or.inl ⟨by omega, by omega⟩
  | exact Or.inr ⟨by omega, by omega⟩
  | exact ⟨by omega, by omega, by omega⟩
  | exact ⟨by decide, by decide, by decide⟩
  | (refine mix2 ?_ ?_ ?_ ?_ ?_ ?_ ?_ ?_ ?_ ?_ <;> omega))
local macro_rules | `(tactic| walk_at "hp") => `(tactic| first
  | assumption | exact upd_same
  | (refine' rd_new ?n ?q; (case n => assumption); (case q => walk_at "hp"))
  | (refine' rd_ne ?n ?q; (case n => first | assumption | (apply Ne.symm; assumption)); (case q => walk_at "hp")))
local macro_rules | `(tactic| walk_at "sq") => `(tactic| first
  | assumption
  | (with_reducible apply SqL.of; walk_at "hp") | (with_reducible apply SqT.of; walk_at "hp")
  | ((with_reducible refine' sqL_new ?n ?q); (case n => assumption); (case q => walk_at "sq"))
  | ((with_reducible refine' sqT_new ?n ?q); (case n => assumption); (case q => walk_at "sq"))
  | ((with_reducible refine' sqL_ne ?n ?q); (case n => first | assumption | (apply Ne.symm; assumption)); (case q => walk_at "sq"))
  | ((with_reducible refine' sqT_ne ?n ?q); (case n => first | assumption | (apply Ne.symm; assumption)); (case q => walk_at "sq"))
  | ((with_reducible refine' Ext.sqL ?e ?n ?q); (case e => assumption); (case n => first | assumption | (apply Ne.symm; assumption)); (case q => walk_at "sq"))
  | ((with_reducible refine' Ext.sqT ?e ?n ?q); (case e => assumption); (case n => first | assumption | (apply Ne.symm; assumption)); (case q => walk_at "sq"))
  | ((with_reducible refine' Grow.sqL ?e ?q); (case e => assumption); (case q => walk_at "sq"))
  | ((with_reducible refine' Grow.sqT ?e ?q); (case e => assumption); (case q => walk_at "sq")))
local macro_rules | `(tactic| walk_at "sqs") => `(tactic| first | assumption | (exact ‹∀ H, SqT _ H _ _› _) | (apply SqT.of; walk_at "hp"))
local macro_rules | `(tactic| walk_at "kn") => `(tactic| first | assumption | exact True.intro)
local macro_rules | `(tactic| walk_at "fw") => `(tactic| with_reducible first
  | refine w_seq ?_ | refine w_asg ?_ | refine w_ret ?_ | refine w_drop ?_ | refine w_next ?_ | refine w_c ?_ | refine w_op ?_ | refine w_un ?_
  | refine w_test ?_ | refine w_B ?_ | refine w_bl ?_ | refine w_not ?_ | refine w_and ?_ | refine w_or ?_ | refine w_andV ?_ | refine w_orV ?_ | refine w_notV ?_
  | refine w_if ?_ | refine w_ifE ?_ | refine w_yes ?_ | refine w_no ?_ | refine w_rfl ?_ | refine w_tr ?_ | refine w_nyes ?_ | refine w_nno ?_ | refine w_T ?_ | refine w_F ?_ | refine w_nil ?_ | refine w_cons ?_ | refine w_cb ?_ | refine w_call ?_ | refine w_lst ?_ | refine w_tup ?_
  | refine w_I0 ?_ | refine w_U ?_ | refine w_int ?_ | refine w_intB ?_ | refine w_abs ?_ | refine w_raise1 ?_ | refine w_sub ?_ | refine w_gcons ?_ | refine w_gnil ?_ | refine w_par ?_ | refine w_chain ?_ | refine w_callNB ?_)
local macro_rules | `(tactic| walk_at "fwv") => `(tactic| first
  | ((with_reducible refine' w_var ?e ?_); (case e => rfl))
  | ((with_reducible refine' w_I ?e ?_); (case e => walk_at "side"))
  | ((with_reducible refine' w_ixL ?s ?e ?_); (case s => walk_at "sq"); (case e => rfl))
  | ((with_reducible refine' w_lenL ?s ?_); (case s => walk_at "sq"); try simp only [List.length_map, List.length_cons, List.length_nil])
  | ((with_reducible refine' w_setL ?e ?f ?_); (case e => walk_at "hp"); (case f => rfl); try simp only [Int.reduceToNat, List.set_cons_zero, List.set_cons_succ, upd_upd])
  | ((with_reducible refine' w_gtup ?s ?l ?_); (case s => walk_at "sq"); (case l => rfl))
  | ((with_reducible refine' w_eq ?e ?_); (case e => rfl))
  | ((with_reducible refine' w_ne ?e ?_); (case e => rfl))
  | ((with_reducible refine' w_mk1 ?o ?n ?_); (case o => apply Exn.oex; assumption); (case n => apply Exn.no; assumption); intro _ _)
  | ((with_reducible refine w_dnew ?_); intro _ _)
  | ((with_reducible refine' w_inT (ss := ?ss) ?s ?_); (case s => walk_at "sqs"))
  | ((with_reducible refine' w_notInT (ss := ?ss) ?s ?_); (case s => walk_at "sqs"))
  | ((with_reducible refine' w_inX ?s ?f ?g ?_); (case s => walk_at "sqs"); (case f => rfl); (case g => rfl))
  | ((with_reducible refine' w_isIntA ?k ?_); (case k => walk_at "kn"))
  | ((with_reducible refine' w_isBlA ?k ?_); (case k => walk_at "kn"))
  | ((with_reducible refine' w_isStrA ?k ?_); (case k => walk_at "kn"))
  | ((with_reducible refine w_par2 ?_); simp only [List.set_cons_zero, List.set_cons_succ])
  | ((with_reducible refine w_name ?_); simp only [List.set_cons_zero, List.set_cons_succ]))
local macro_rules | `(tactic| walk_at "size") => `(tactic| first | (show _ ≤ sizeLine; decide) | (simp only [List.length_cons, List.length_nil]; decide))
local macro_rules | `(tactic| walk_at "mk") => `(tactic| ((with_reducible refine' w_made ?n ?_); (case n => walk_at "size"); intro _ _))
local macro_rules | `(tactic| walk_at "ev") => `(tactic| simp only [reduceCtorEq, V.int.injEq, V.bl.injEq, V.str.injEq, V.ref.injEq, List.append_nil, List.cons_append, List.nil_append, decide_true, decide_false, Bool.not_true, Bool.not_false])
local macro_rules | `(tactic| walk_at "go") => `(tactic| repeat (first | walk_at "fw" | walk_at "fwv" | walk_at "mk" | (dsimp only) | walk_at "ev"))
local macro_rules | `(tactic| walk_at "br") => `(tactic| first | refine w_iteN (fun _ => ?_) (fun _ => ?_) | refine w_iteD (fun _ => ?_) (fun _ => ?_) | refine w_ite (fun _ => ?_) (fun _ => ?_))
local macro_rules | `(tactic| walk_at "fork") => `(tactic| (first | refine w_iteN (fun hx => ?_) (fun hx => ?_) | refine w_iteD (fun hx => ?_) (fun hx => ?_) | refine w_ite (fun hx => ?_) (fun hx => ?_)) <;> first | (exact absurd hx (by decide +kernel)) | skip)
local macro_rules | `(tactic| walk_at "gr") => `(tactic| repeat' (first | exact Grow.refl _ | assumption | refine Grow.trans ?_ (Grow.new (by assumption))))

/-! ### letters, rows, lines -/
abbrev Ltr := Int × Int × Int
abbrev Row := Ltr × Int
def LtrAt (H : Hp) (v : V) (t : Ltr) : Prop := ∃ l, v = .ref l ∧ H l = some (.tup [.int t.1, .int t.2.1, .int t.2.2])
def RowAt (H : Hp) (v : V) (r : Row) : Prop := ∃ p u, v = .ref p ∧ H p = some (.tup [u, .int r.2]) ∧ LtrAt H u r.1
inductive RowsAt (H : Hp) : List V → List Row → Prop where
  | nil : RowsAt H [] []
  | cons {v : V} {vs : List V} {r : Row} {rs : List Row} : RowAt H v r → RowsAt H vs rs → RowsAt H (v :: vs) (r :: rs)
/-- tuples stay -/
def KT (H H' : Hp) : Prop := ∀ b xs, H b = some (.tup xs) → H' b = some (.tup xs)
theorem KT.refl (H : Hp) : KT H H := fun _ _ e => e
theorem KT.trans {H H1 H2 : Hp} (a : KT H H1) (b : KT H1 H2) : KT H H2 := fun x xs e => b x xs (a x xs e)
theorem KT.grow {H H' : Hp} (g : Grow H H') : KT H H' := fun b xs e => g _ _ e
theorem KT.extN {H H' : Hp} (g : LamX.ExtN H H') : KT H H' := fun b xs e => g _ _ e nofun
theorem KT.ext {c : Addr} {H H' : Hp} (g : Ext c H H') (h : ∀ xs, H c ≠ some (.tup xs)) : KT H H' := fun b xs e => g _ _ (fun z => h xs (by rw [← z]; exact e)) e
theorem KT.ltr {H H' : Hp} {v : V} {t : Ltr} (k : KT H H') (h : LtrAt H v t) : LtrAt H' v t := by
  obtain ⟨l, e, h⟩ := h
  exact ⟨l, e, k _ _ h⟩
theorem KT.row {H H' : Hp} {v : V} {r : Row} (k : KT H H') (h : RowAt H v r) : RowAt H' v r := by
  obtain ⟨p, u, e, h, l⟩ := h
  exact ⟨p, u, e, k _ _ h, k.ltr l⟩
theorem KT.rows {H H' : Hp} {vs : List V} {rs : List Row} (k : KT H H') (h : RowsAt H vs rs) : RowsAt H' vs rs := by
  induction h with
  | nil => exact .nil
  | cons a _ ih => exact .cons (k.row a) ih
theorem RowsAt.len {H : Hp} {vs : List V} {rs : List Row} (h : RowsAt H vs rs) : vs.length = rs.length := by
  induction h with
  | nil => rfl
  | cons _ _ ih => rw [List.length_cons, List.length_cons, ih]
theorem RowsAt.app {H : Hp} {vs us : List V} {rs ts : List Row} (h : RowsAt H vs rs) (g : RowsAt H us ts) : RowsAt H (vs ++ us) (rs ++ ts) := by
  induction h with
  | nil => exact g
  | cons a _ ih => exact .cons a ih
theorem RowsAt.take {H : Hp} {vs : List V} {rs : List Row} (h : RowsAt H vs rs) : ∀ n, RowsAt H (vs.take n) (rs.take n) := by
  induction h with
  | nil => intro n; simp; exact .nil
  | cons a _ ih => intro n; cases n with
    | zero => exact .nil
    | succ n => exact .cons a (ih n)
theorem RowsAt.drop {H : Hp} {vs : List V} {rs : List Row} (h : RowsAt H vs rs) : ∀ n, RowsAt H (vs.drop n) (rs.drop n) := by
  induction h with
  | nil => intro n; simp; exact .nil
  | cons a b ih => intro n; cases n with
    | zero => exact .cons a b
    | succ n => exact ih n
theorem RowsAt.erase {H : Hp} {vs : List V} {rs : List Row} (h : RowsAt H vs rs) : ∀ n, RowsAt H (vs.eraseIdx n) (rs.eraseIdx n) := by
  induction h with
  | nil => intro n; simp; exact .nil
  | cons a b ih => intro n; cases n with
    | zero => exact b
    | succ n => exact .cons a (ih n)
theorem RowsAt.get {H : Hp} {vs : List V} {rs : List Row} (h : RowsAt H vs rs) : ∀ (n : Nat) (v : V), vs[n]? = some v → ∃ r, rs[n]? = some r ∧ RowAt H v r := by
  induction h with
  | nil => intro n v e; simp at e
  | cons a b ih => intro n v e; cases n with
    | zero => simp at e; subst e; exact ⟨_, rfl, a⟩
    | succ n => exact ih n v (by simpa using e)
/-- what lies behind a letter's handing out -/
def handed (rs : List Row) (at_ : Nat) (s : Int) : List Row := ((rs.take at_).filter fun r => decide (r.2 < s)).map (fun r => (r.1, r.2 + 1)) ++ rs.drop at_
def LineAt (C : Addr) (H : Hp) (x : Addr) (s : Int) (q : Addr) : Prop := ∃ dx, H x = some (.ins C dx [("late", .int s), ("lying", .ref q)])
/-! ### promises -/
def spInit (K : PySem.W.Frag) (C CN : Addr) : Sp := fun vs H Q E => ∃ x dx v, vs = [.ref x, v] ∧ H x = some (.ins C dx []) ∧ Kn K H v ∧
  (∀ s, v = .int s → 0 ≤ s → s ≤ 8 → ∀ q H', H q = none → LineAt C H' x s q → H' q = some (.lst []) → Ext x H H' → Q .non H') ∧
  (within v (.int 0) (.int 8) = false → ∀ d, H d = none → E (.ref CN) (some d) (upd H d (.xd [("part", .str "late")])))
def spLetters (C : Addr) : Sp := fun vs H Q _ => ∃ x s q xs, vs = [.ref x] ∧ LineAt C H x s q ∧ H q = some (.lst xs) ∧ ∀ p, H p = none → Q (.ref p) (upd H p (.tup xs))
def GoodL (H : Hp) (v : V) (t : Ltr) : Prop := ∃ a, v = .ref a ∧ (H a = some (.lst [.int t.1, .int t.2.1, .int t.2.2]) ∨ H a = some (.tup [.int t.1, .int t.2.1, .int t.2.2])) ∧ Sh t.1 ∧ Sh t.2.1 ∧ Sh t.2.2
def BadL (K : PySem.W.Frag) (H : Hp) (v : V) : Prop := (∃ a ys, v = .ref a ∧ (H a = some (.lst ys) ∨ H a = some (.tup ys)) ∧ ys.all flatK = true ∧ ys.length ≤ 1000 ∧ (decide ((ys.length : Int) = 3) && ys.all isSh) = false) ∨
  ∃ T, TyX K H v (.type T) ∧ T ∈ kinds ∧ isSeqT T = false
def spSend (K : PySem.W.Frag) (C CN : Addr) : Sp := fun vs H Q E => ∃ x s q xs v, vs = [.ref x, v] ∧ LineAt C H x s q ∧ H q = some (.lst xs) ∧ xs.length ≤ 1000 ∧
  ((∃ t, GoodL H v t ∧ v ≠ .ref q ∧ ∀ y H', RowAt H' y (t, 0) → H' q = some (.lst (xs ++ [y])) → Ext q H H' → Q .non H') ∨
  (BadL K H v ∧ ∀ H' d, Grow H H' → H' d = none → E (.ref CN) (some d) (upd H' d (.xd [("part", .str "letter")]))))
def spPlace (K : PySem.W.Frag) (C CN : Addr) : Sp := fun vs H Q E => ∃ x s q xs v, vs = [.ref x, v] ∧ LineAt C H x s q ∧ H q = some (.lst xs) ∧ Kn K H v ∧
  (∀ b, v = .int b → 0 ≤ b → b ≤ 99 → Q (if b < (xs.length : Int) then .int ((xs.length : Int) - 1 - b) else .non) H) ∧
  (within v (.int 0) (.int 99) = false → ∀ d, H d = none → E (.ref CN) (some d) (upd H d (.xd [("part", .str "back")])))
section
variable {P : Program} {w : World} {K : PySem.W.Frag} {mg : Str → Option Value} {base : Heap}
theorem ok_init {f : Addr} {fd : FuncData} (T : Txt P w K mg base) (F : Fun K "__init__" "Line.__init__" s_Line___init__ f fd) : FnOk P w K mg base (L2.CX P w) 3 f fd ["self", "late"] (spInit K T.cLine T.cBadNumber) := by
  refine F.okX sc_Line___init__ (fun vs H Q E h => ?_) (fun cdv A outer s H vs Q E hr h => ?_)
  · obtain ⟨x, dx, v, rfl, _⟩ := h; rfl
  · obtain ⟨x, dx, v, rfl, hx, kn, k1, k2⟩ := h
    have xN := T.x_BadNumber
    refine ⟨_, (pss_cons (ps_if (pt_not (pt_val (pe_can (E := E0) (c_is_within T) hr (by decide) pass0 rfl (pa_cons (pv 1) (pa_cons pe_int (pa_cons (pe_gc rfl T.g_MOST_LATE) pa_nil))))))
 (pss_one (ps_raise1 T.x_BadNumber rfl (hr.mono (by decide)) (takes_of rfl rfl rfl rfl) (pa_cons pe_str pa_nil) rfl))
 pss_nil)
 (pss_cons (ps_fld (pv 0) (pv 1) rfl)
 (pss_one (ps_fld (pv 0) (pe_lst pa_nil) rfl)))), ?_⟩
    rw [show L2.start N_Line___init__ [(V.ref x), (v)] = [some (V.ref x), some (v)] from rfl]; try dsimp only [cxOf]
    walk_at "go"
    refine ⟨v, _, _, rfl, kn, .inr ⟨_, rfl⟩, .inr ⟨_, rfl⟩, ?_⟩
    walk_at "go"
    cases hv : within v (.int 0) (.int 8) with
    | false =>
      walk_at "go"
      exact k2 hv _ ‹_›
    | true =>
      obtain ⟨i, rfl⟩ := in_int hv
      unfold within at hv
      simp at hv
      walk_at "go"
      refine ⟨_, rfl, _, rfl, x, _, dx, _, rfl, hx, T.cl_Line, T.n_late, by simp, ?_⟩
      unfold sFld
      walk_at "go"
      rename_i q eq
      refine ⟨x, _, dx, _, rfl, rd_new eq upd_same, T.cl_Line, T.n_lying, by simp [putF], ?_⟩
      have nq : H q = none := by
        match z : H q with
        | none => rfl
        | some o =>
          by_cases hq : q = x
          · subst hq; rw [upd_same] at eq; cases eq
          · rw [upd_ne hq, z] at eq; cases eq
      have qx : q ≠ x := fun z => by rw [z, hx] at nq; cases nq
      refine k1 i rfl hv.1 hv.2 q _ nq ⟨dx, upd_same⟩ ?_ (fun b o nb e => ?_)
      · rw [upd_ne qx]; exact upd_same
      · rw [upd_ne nb, upd_ne (ne_of_none e nq), upd_ne nb]; exact e
theorem ok_letters {f : Addr} {fd : FuncData} (T : Txt P w K mg base) (F : Fun K "letters" "Line.letters" s_Line_letters f fd) : FnOk P w K mg base CX0 1 f fd ["self"] (spLetters T.cLine) := by
  refine F.ok sc_Line_letters (fun vs H Q E h => ?_) (fun cdv A outer s H vs Q E hr h => ?_)
  · obtain ⟨x, s, q, xs, rfl, _⟩ := h; rfl
  · obtain ⟨x, s, q, xs, rfl, ⟨dx, hx⟩, hq, k⟩ := h
    refine ⟨_, (pss_one (ps_ret (pe_callTy call_tuple_of (by rfl) T.b_tuple (by decide +kernel) (pa_cons (pe_fld (pv 0) rfl) pa_nil)))), ?_⟩
    rw [show L2.start N_Line_letters [(V.ref x)] = [some (V.ref x)] from rfl]; try dsimp only [cxOf]
    walk_at "go"
    refine ⟨_, rfl, x, _, dx, _, _, rfl, hx, T.cl_Line, T.n_lying, rfl, ?_⟩
    walk_at "go"
    refine ⟨q, xs, rfl, .inl ⟨SqL.of hq, fun p np => ?_⟩⟩
    walk_at "go"
    exact k p np
theorem ok_place {f : Addr} {fd : FuncData} (T : Txt P w K mg base) (F : Fun K "place_back" "Line.place_back" s_Line_place_back f fd) : FnOk P w K mg base (L2.CX P w) 3 f fd ["self", "back"] (spPlace K T.cLine T.cBadNumber) := by
  refine F.okX sc_Line_place_back (fun vs H Q E h => ?_) (fun cdv A outer s H vs Q E hr h => ?_)
  · obtain ⟨x, s, q, xs, v, rfl, _⟩ := h; rfl
  · obtain ⟨x, s0, q, xs, v, rfl, ⟨dx, hx⟩, hq, kn, k1, k2⟩ := h
    have xN := T.x_BadNumber
    refine ⟨_, (pss_cons (ps_if (pt_not (pt_val (pe_can (E := E0) (c_is_within T) hr (by decide) pass0 rfl (pa_cons (pv 1) (pa_cons pe_int (pa_cons (pe_gc rfl T.g_MOST_BACK) pa_nil))))))
 (pss_one (ps_raise1 T.x_BadNumber rfl (hr.mono (by decide)) (takes_of rfl rfl rfl rfl) (pa_cons pe_str pa_nil) rfl))
 pss_nil)
 (pss_one (ps_ret (pe_ifExp (pt_cmpR op_lt (pv 1) (pe_callB call_lenA (by rfl) T.b_len (by decide +kernel) (pa_cons (pe_fld (pv 0) rfl) pa_nil)) (nomark _)) (pe_op op_sub (pe_op op_sub (pe_callB call_lenA (by rfl) T.b_len (by decide +kernel) (pa_cons (pe_fld (pv 0) rfl) pa_nil)) pe_int) (pv 1)) pe_non)))), ?_⟩
    rw [show L2.start N_Line_place_back [(V.ref x), (v)] = [some (V.ref x), some (v)] from rfl]; try dsimp only [cxOf]
    walk_at "go"
    refine ⟨v, _, _, rfl, kn, .inr ⟨_, rfl⟩, .inr ⟨_, rfl⟩, ?_⟩
    walk_at "go"
    cases hv : within v (.int 0) (.int 99) with
    | false =>
      walk_at "go"
      exact k2 hv _ ‹_›
    | true =>
      obtain ⟨b, rfl⟩ := in_int hv
      unfold within at hv
      simp at hv
      walk_at "go"
      refine ⟨_, rfl, x, _, dx, _, _, rfl, hx, T.cl_Line, T.n_lying, rfl, ?_⟩
      walk_at "go"
      have k3 := k1 b rfl hv.1 hv.2
      refine w_iteD (fun h1 => ?_) (fun h1 => ?_)
      · rw [if_pos h1] at k3
        walk_at "go"
        refine ⟨_, rfl, x, _, dx, _, _, rfl, hx, T.cl_Line, T.n_lying, rfl, ?_⟩
        walk_at "go"
        exact k3
      · rw [if_neg h1] at k3
        walk_at "go"
        exact k3
theorem m_place_back (T : Txt P w K mg base) : CanM P w K mg base (L2.CX P w) 3 T.cLine "place_back" ["self", "back"] (spPlace K T.cLine T.cBadNumber) := T.m_place_back.can fun f fd F => ok_place T F
end
end K42

set_option maxRecDepth 100000
set_option maxHeartbeats 4000000
namespace K42
open PySem L2 FW PyProof.Rows
local macro_rules | `(tactic| walk_at "side") => `(tactic| first
  | omega
  | exact ⟨by omega, by omega⟩
  | exact Or.inl ⟨by omega, by omega⟩
  | exact Or.inr ⟨by omega, by omega⟩
  | exact ⟨by omega, by omega, by omega⟩
  | exact ⟨by decide, by decide, by decide⟩
  | (refine mix2 ?_ ?_ ?_ ?_ ?_ ?_ ?_ ?_ ?_ ?_ <;> omega))
local macro_rules | `(tactic| walk_at "hp") => `(tactic| first
  | assumption | exact upd_same
  | (refine' rd_new ?n ?q; (case n => assumption); (case q => walk_at "hp"))
  | (refine' rd_ne ?n ?q; (case n => first | assumption | (apply Ne.symm; assumption)); (case q => walk_at "hp")))
local macro_rules | `(tactic| walk_at "sq") => `(tactic| first
  | assumption
  | (with_reducible apply SqL.of; walk_at "hp") | (with_reducible apply SqT.of; walk_at "hp")
  | ((with_reducible refine' sqL_new ?n ?q); (case n => assumption); (case q => walk_at "sq"))
  | ((with_reducible refine' sqT_new ?n ?q); (case n => assumption); (case q => walk_at "sq"))
  | ((with_reducible refine' sqL_ne ?n ?q); (case n => first | assumption | (apply Ne.symm; assumption)); (case q => walk_at "sq"))
  | ((with_reducible refine' sqT_ne ?n ?q); (case n => first | assumption | (apply Ne.symm; assumption)); (case q => walk_at "sq"))
  | ((with_reducible refine' Ext.sqL ?e ?n ?q); (case e => assumption); (case n => first | assumption | (apply Ne.symm; assumption)); (case q => walk_at "sq"))
  | ((with_reducible refine' Ext.sqT ?e ?n ?q); (case e => assumption); (case n => first | assumption | (apply Ne.symm; assumption)); (case q => walk_at "sq"))
  | ((with_reducible refine' Grow.sqL ?e ?q); (case e => assumption); (case q => walk_at "sq"))
  | ((with_reducible refine' Grow.sqT ?e ?q); (case e => assumption); (case q => walk_at "sq")))
local macro_rules | `(tactic| walk_at "sqs") => `(tactic| first | assumption | (exact ‹∀ H, SqT _ H _ _› _) | (apply SqT.of; walk_at "hp"))
local macro_rules | `(tactic| walk_at "kn") => `(tactic| first | assumption | exact True.intro)
local macro_rules | `(tactic| walk_at "fw") => `(tactic| with_reducible first
  | refine w_seq ?_ | refine w_asg ?_ | refine w_ret ?_ | refine w_drop ?_ | refine w_next ?_ | refine w_c ?_ | refine w_op ?_ | refine w_un ?_
  | refine w_test ?_ | refine w_B ?_ | refine w_bl ?_ | refine w_not ?_ | refine w_and ?_ | refine w_or ?_ | refine w_andV ?_ | refine w_orV ?_ | refine w_notV ?_
  | refine w_if ?_ | refine w_ifE ?_ | refine w_yes ?_ | refine w_no ?_ | refine w_rfl ?_ | refine w_tr ?_ | refine w_nyes ?_ | refine w_nno ?_ | refine w_T ?_ | refine w_F ?_ | refine w_nil ?_ | refine w_cons ?_ | refine w_cb ?_ | refine w_call ?_ | refine w_lst ?_ | refine w_tup ?_
  | refine w_I0 ?_ | refine w_U ?_ | refine w_int ?_ | refine w_intB ?_ | refine w_abs ?_ | refine w_raise1 ?_ | refine w_sub ?_ | refine w_gcons ?_ | refine w_gnil ?_ | refine w_par ?_ | refine w_chain ?_ | refine w_callNB ?_)
local macro_rules | `(tactic| walk_at "fwv") => `(tactic| first
  | ((with_reducible refine' w_var ?e ?_); (case e => rfl))
  | ((with_reducible refine' w_I ?e ?_); (case e => walk_at "side"))
  | ((with_reducible refine' w_ixL ?s ?e ?_); (case s => walk_at "sq"); (case e => rfl))
  | ((with_reducible refine' w_lenL ?s ?_); (case s => walk_at "sq"); try simp only [List.length_map, List.length_cons, List.length_nil])
  | ((with_reducible refine' w_setL ?e ?f ?_); (case e => walk_at "hp"); (case f => rfl); try simp only [Int.reduceToNat, List.set_cons_zero, List.set_cons_succ, upd_upd])
  | ((with_reducible refine' w_gtup ?s ?l ?_); (case s => walk_at "sq"); (case l => rfl))
  | ((with_reducible refine' w_eq ?e ?_); (case e => rfl))
  | ((with_reducible refine' w_ne ?e ?_); (case e => rfl))
  | ((with_reducible refine' w_mk1 ?o ?n ?_); (case o => apply Exn.oex; assumption); (case n => apply Exn.no; assumption); intro _ _)
  | ((with_reducible refine w_dnew ?_); intro _ _)
  | ((with_reducible refine' w_inT (ss := ?ss) ?s ?_); (case s => walk_at "sqs"))
  | ((with_reducible refine' w_notInT (ss := ?ss) ?s ?_); (case s => walk_at "sqs"))
  | ((with_reducible refine' w_inX ?s ?f ?g ?_); (case s => walk_at "sqs"); (case f => rfl); (case g => rfl))
  | ((with_reducible refine' w_isIntA ?k ?_); (case k => walk_at "kn"))
  | ((with_reducible refine' w_isBlA ?k ?_); (case k => walk_at "kn"))
  | ((with_reducible refine' w_isStrA ?k ?_); (case k => walk_at "kn"))
  | ((with_reducible refine w_par2 ?_); simp only [List.set_cons_zero, List.set_cons_succ])
  | ((with_reducible refine w_name ?_); simp only [List.set_cons_zero, List.set_cons_succ]))
local macro_rules | `(tactic| walk_at "size") => `(tactic| first | (show _ ≤ sizeLine; decide) | (simp only [List.length_cons, List.length_nil]; decide))
local macro_rules | `(tactic| walk_at "mk") => `(tactic| ((with_reducible refine' w_made ?n ?_); (case n => walk_at "size"); intro _ _))
local macro_rules | `(tactic| walk_at "ev") => `(tactic| simp only [reduceCtorEq, V.int.injEq, V.bl.injEq, V.str.injEq, V.ref.injEq, List.append_nil, List.cons_append, List.nil_append, decide_true, decide_false, Bool.not_true, Bool.not_false])
local macro_rules | `(tactic| walk_at "go") => `(tactic| repeat (first | walk_at "fw" | walk_at "fwv" | walk_at "mk" | (dsimp only) | walk_at "ev"))
local macro_rules | `(tactic| walk_at "br") => `(tactic| first | refine w_iteN (fun _ => ?_) (fun _ => ?_) | refine w_iteD (fun _ => ?_) (fun _ => ?_) | refine w_ite (fun _ => ?_) (fun _ => ?_))
local macro_rules | `(tactic| walk_at "fork") => `(tactic| (first | refine w_iteN (fun hx => ?_) (fun hx => ?_) | refine w_iteD (fun hx => ?_) (fun hx => ?_) | refine w_ite (fun hx => ?_) (fun hx => ?_)) <;> first | (exact absurd hx (by decide +kernel)) | skip)
local macro_rules | `(tactic| walk_at "gr") => `(tactic| repeat' (first | exact Grow.refl _ | assumption | refine Grow.trans ?_ (Grow.new (by assumption))))

def spDel (K : PySem.W.Frag) (C CN : Addr) : Sp := fun vs H Q E => ∃ x s q xs v, vs = [.ref x, v] ∧ LineAt C H x s q ∧ H q = some (.lst xs) ∧ xs.length ≤ 1000 ∧ Kn K H v ∧
  (∀ b, v = .int b → 0 ≤ b → b ≤ 99 → ((xs.length : Int) ≤ b → Q (.bl false) H) ∧ (b < (xs.length : Int) → ∀ H', H' q = some (.lst (xs.eraseIdx ((xs.length : Int) - 1 - b).toNat)) → Ext q H H' → Q (.bl true) H')) ∧
  (within v (.int 0) (.int 99) = false → ∀ d, H d = none → E (.ref CN) (some d) (upd H d (.xd [("part", .str "back")])))
section
variable {P : Program} {w : World} {K : PySem.W.Frag} {mg : Str → Option Value} {base : Heap}
theorem sh3 {t : Ltr} (h : Sh t.1 ∧ Sh t.2.1 ∧ Sh t.2.2) : (decide ((([V.int t.1, V.int t.2.1, V.int t.2.2].length : Nat) : Int) = 3) && [V.int t.1, V.int t.2.1, V.int t.2.2].all isSh) = true := by
  simp only [List.all_cons, List.all_nil, isSh_iff.mpr h.1, isSh_iff.mpr h.2.1, isSh_iff.mpr h.2.2]; rfl
theorem ok_send {f : Addr} {fd : FuncData} (T : Txt P w K mg base) (F : Fun K "send" "Line.send" s_Line_send f fd) : FnOk P w K mg base (L2.CX P w) 5 f fd ["self", "letter"] (spSend K T.cLine T.cBadNumber) := by
  refine F.okX sc_Line_send (fun vs H Q E h => ?_) (fun cdv A outer s H vs Q E hr h => ?_)
  · obtain ⟨x, s, q, xs, v, rfl, _⟩ := h; rfl
  · obtain ⟨x, s0, q, xs, v, rfl, ⟨dx, hx⟩, hq, hl, h⟩ := h
    have xN := T.x_BadNumber
    refine ⟨_, (pss_cons (ps_if (pt_not (pt_val (pe_can (E := E0) (c_are_shorts T) hr (by decide) pass0 rfl (pa_cons (pv 1) (pa_cons pe_int pa_nil)))))
 (pss_one (ps_raise1 T.x_BadNumber rfl (hr.mono (by decide)) (takes_of rfl rfl rfl rfl) (pa_cons pe_str pa_nil) rfl))
 pss_nil)
 (pss_one (ps_expr (pe_bm PySem.F.plainAttrs_list PySem.F.slot_list_append PySem.F.type_list_append mt_append (pe_fld (pv 0) rfl) (pa_cons (pe_tup (pa_cons (pe_callTy call_tuple_of (by rfl) T.b_tuple (by decide +kernel) (pa_cons (pv 1) pa_nil)) (pa_cons pe_int pa_nil))) pa_nil))))), ?_⟩
    rw [show L2.start N_Line_send [(V.ref x), (v)] = [some (V.ref x), some (v)] from rfl]; try dsimp only [cxOf]
    walk_at "go"
    rcases h with ⟨t, ⟨a, rfl, ha, hs⟩, nq, k⟩ | ⟨bad, k⟩
    · have aq : a ≠ q := fun z => nq (by rw [z])
      refine ⟨.ref a, 3, rfl, .inl ⟨a, _, rfl, ha, rfl, by simp, fun H1 g1 => ?_⟩⟩
      rw [sh3 hs]
      walk_at "go"
      have hx1 := g1 _ _ hx
      have hq1 := g1 _ _ hq
      refine ⟨.ref x, rfl, x, _, dx, _, _, rfl, hx1, T.cl_Line, T.n_lying, rfl, .inl ⟨rfl, _, SqL.of hq1⟩, ?_⟩
      walk_at "go"
      rcases ha with ha | ha
      · refine ⟨a, _, rfl, .inl ⟨SqL.of (g1 _ _ ha), fun p np => ?_⟩⟩
        walk_at "go"
        rename_i r nr
        refine ⟨q, xs, .ref r, rfl, rfl, rd_new nr (rd_new np hq1), by rw [sizeLine_eq]; omega, ?_⟩
        walk_at "go"
        have qr : q ≠ r := ne_of_none (rd_new np hq1) nr
        have qp : q ≠ p := ne_of_none hq1 np
        have pr : p ≠ r := ne_of_none upd_same nr
        refine k (.ref r) _ ⟨r, .ref p, rfl, ?_, p, rfl, ?_⟩ upd_same (fun b o nb e => ?_)
        · rw [upd_ne (Ne.symm qr)]; exact upd_same
        · rw [upd_ne (Ne.symm qp), upd_ne pr]; exact upd_same
        · rw [upd_ne nb]; exact rd_new nr (rd_new np (g1 _ _ e))
      · refine ⟨a, _, rfl, .inr ⟨SqT.of (g1 _ _ ha), ?_⟩⟩
        walk_at "go"
        rename_i r nr
        refine ⟨q, xs, .ref r, rfl, rfl, rd_new nr hq1, by rw [sizeLine_eq]; omega, ?_⟩
        walk_at "go"
        have qr : q ≠ r := ne_of_none hq1 nr
        refine k (.ref r) _ ⟨r, .ref a, rfl, ?_, a, rfl, ?_⟩ upd_same (fun b o nb e => ?_)
        · rw [upd_ne (Ne.symm qr)]; exact upd_same
        · rw [upd_ne aq]; exact rd_new nr (g1 _ _ ha)
        · rw [upd_ne nb]; exact rd_new nr (g1 _ _ e)
    · rcases bad with ⟨a, ys, rfl, ha, hf, hn, hb⟩ | ⟨ty, h1, h2, h3⟩
      · refine ⟨.ref a, 3, rfl, .inl ⟨a, ys, rfl, ha, hf, hn, fun H1 g1 => ?_⟩⟩
        rw [hb]
        walk_at "go"
        exact k _ _ g1 ‹_›
      · refine ⟨v, 3, rfl, .inr ⟨ty, h1, h2, h3, fun H1 g1 => ?_⟩⟩
        walk_at "go"
        exact k _ _ g1 ‹_›
theorem ok_drop {f : Addr} {fd : FuncData} (T : Txt P w K mg base) (F : Fun K "drop" "Line.drop" s_Line_drop f fd) : FnOk P w K mg base (L2.CX P w) 4 f fd ["self", "back"] (spDel K T.cLine T.cBadNumber) := by
  refine F.okX sc_Line_drop (fun vs H Q E h => ?_) (fun cdv A outer s H vs Q E hr h => ?_)
  · obtain ⟨x, s, q, xs, v, rfl, _⟩ := h; rfl
  · obtain ⟨x, s0, q, xs, v, rfl, ⟨dx, hx⟩, hq, hl, kn, k1, k2⟩ := h
    refine ⟨_, (pss_cons (ps_set (i := 2) sc_Line_drop.nd rfl (Or.inl rfl) (pe_methC (E := E) T.cl_Line (m_place_back T) hr (by decide) (passes_call (takes_of rfl rfl rfl rfl) (fun _ _ _ _ h => h)) (pv 0) (pa_cons (pv 1) pa_nil)))
 (pss_cons (ps_if (pt_cmpR op_isN (pv 2) pe_non (nomark _))
 (pss_one (ps_ret pe_bl))
 pss_nil)
 (pss_cons (ps_delL (pe_fld (pv 0) rfl) (pv 2))
 (pss_one (ps_ret pe_bl))))), ?_⟩
    rw [show L2.start N_Line_drop [(V.ref x), (v)] = [some (V.ref x), some (v), none] from rfl]; try dsimp only [cxOf]
    walk_at "go"
    refine ⟨.ref x, rfl, x, dx, _, rfl, hx, rfl, ?_⟩
    walk_at "go"
    refine ⟨x, s0, q, xs, v, rfl, ⟨dx, hx⟩, hq, kn, fun b eb b0 b1 => ?_, k2⟩
    obtain ⟨k3, k4⟩ := k1 b eb b0 b1
    by_cases h1 : b < (xs.length : Int)
    · rw [if_pos h1]
      walk_at "go"
      refine ⟨.ref x, rfl, x, _, dx, _, _, rfl, hx, T.cl_Line, T.n_lying, rfl, _, rfl, q, xs, (xs.length : Int) - 1 - b, ((xs.length : Int) - 1 - b).toNat, rfl, rfl, hq, by omega, by omega, ?_, ?_⟩
      · unfold seqIndex?
        dsimp only
        rw [if_neg (show ¬ ((xs.length : Int) - 1 - b < 0) by omega), if_pos (by simp only [Bool.and_eq_true, decide_eq_true_eq]; omega)]
      · walk_at "go"
        exact k4 h1 _ upd_same Ext.upd
    · rw [if_neg h1]
      walk_at "go"
      exact k3 (by omega)
theorem m_send (T : Txt P w K mg base) : CanM P w K mg base (L2.CX P w) 5 T.cLine "send" ["self", "letter"] (spSend K T.cLine T.cBadNumber) := T.m_send.can fun f fd F => ok_send T F
theorem m_drop (T : Txt P w K mg base) : CanM P w K mg base (L2.CX P w) 4 T.cLine "drop" ["self", "back"] (spDel K T.cLine T.cBadNumber) := T.m_drop.can fun f fd F => ok_drop T F
end
end K42

set_option maxRecDepth 100000
set_option maxHeartbeats 4000000
namespace K42
open PySem L2 FW PyProof.Rows
local macro_rules | `(tactic| walk_at "side") => `(tactic| first
  | omega
  | exact ⟨by omega, by omega⟩
  | exact Or.inl ⟨by omega, by omega⟩
  | exact Or.inr ⟨by omega, by omega⟩
  | exact ⟨by omega, by omega, by omega⟩
  | exact ⟨by decide, by decide, by decide⟩
  | (refine mix2 ?_ ?_ ?_ ?_ ?_ ?_ ?_ ?_ ?_ ?_ <;> omega))
local macro_rules | `(tactic| walk_at "hp") => `(tactic| first
  | assumption | exact upd_same
  | (refine' rd_new ?n ?q; (case n => assumption); (case q => walk_at "hp"))
  | (refine' rd_ne ?n ?q; (case n => first | assumption | (apply Ne.symm; assumption)); (case q => walk_at "hp")))
local macro_rules | `(tactic| walk_at "sq") => `(tactic| first
  | assumption
  | (with_reducible apply SqL.of; walk_at "hp") | (with_reducible apply SqT.of; walk_at "hp")
  | ((with_reducible refine' sqL_new ?n ?q); (case n => assumption); (case q => walk_at "sq"))
  | ((with_reducible refine' sqT_new ?n ?q); (case n => assumption); (case q => walk_at "sq"))
  | ((with_reducible refine' sqL_ne ?n ?q); (case n => first | assumption | (apply Ne.symm; assumption)); (case q => walk_at "sq"))
  | ((with_reducible refine' sqT_ne ?n ?q); (case n => first | assumption | (apply Ne.symm; assumption)); (case q => walk_at "sq"))
  | ((with_reducible refine' Ext.sqL ?e ?n ?q); (case e => assumption); (case n => first | assumption | (apply Ne.symm; assumption)); (case q => walk_at "sq"))
  | ((with_reducible refine' Ext.sqT ?e ?n ?q); (case e => assumption); (case n => first | assumption | (apply Ne.symm; assumption)); (case q => walk_at "sq"))
  | ((with_reducible refine' Grow.sqL ?e ?q); (case e => assumption); (case q => walk_at "sq"))
  | ((with_reducible refine' Grow.sqT ?e ?q); (case e => assumption); (case q => walk_at "sq")))
local macro_rules | `(tactic| walk_at "sqs") => `(tactic| first | assumption | (exact ‹∀ H, SqT _ H _ _› _) | (apply SqT.of; walk_at "hp"))
local macro_rules | `(tactic| walk_at "kn") => `(tactic| first | assumption | exact True.intro)
local macro_rules | `(tactic| walk_at "fw") => `(tactic| with_reducible first
  | refine w_seq ?_ | refine w_asg ?_ | refine w_ret ?_ | refine w_drop ?_ | refine w_next ?_ | refine w_c ?_ | refine w_op ?_ | refine w_un ?_
  | refine w_test ?_ | refine w_B ?_ | refine w_bl ?_ | refine w_not ?_ | refine w_and ?_ | refine w_or ?_ | refine w_andV ?_ | refine w_orV ?_ | refine w_notV ?_
  | refine w_if ?_ | refine w_ifE ?_ | refine w_yes ?_ | refine w_no ?_ | refine w_rfl ?_ | refine w_tr ?_ | refine w_nyes ?_ | refine w_nno ?_ | refine w_T ?_ | refine w_F ?_ | refine w_nil ?_ | refine w_cons ?_ | refine w_cb ?_ | refine w_call ?_ | refine w_lst ?_ | refine w_tup ?_
  | refine w_I0 ?_ | refine w_U ?_ | refine w_int ?_ | refine w_intB ?_ | refine w_abs ?_ | refine w_raise1 ?_ | refine w_sub ?_ | refine w_gcons ?_ | refine w_gnil ?_ | refine w_par ?_ | refine w_chain ?_ | refine w_callNB ?_)
local macro_rules | `(tactic| walk_at "fwv") => `(tactic| first
  | ((with_reducible refine' w_var ?e ?_); (case e => rfl))
  | ((with_reducible refine' w_I ?e ?_); (case e => walk_at "side"))
  | ((with_reducible refine' w_ixL ?s ?e ?_); (case s => walk_at "sq"); (case e => rfl))
  | ((with_reducible refine' w_lenL ?s ?_); (case s => walk_at "sq"); try simp only [List.length_map, List.length_cons, List.length_nil])
  | ((with_reducible refine' w_setL ?e ?f ?_); (case e => walk_at "hp"); (case f => rfl); try simp only [Int.reduceToNat, List.set_cons_zero, List.set_cons_succ, upd_upd])
  | ((with_reducible refine' w_gtup ?s ?l ?_); (case s => walk_at "sq"); (case l => rfl))
  | ((with_reducible refine' w_eq ?e ?_); (case e => rfl))
  | ((with_reducible refine' w_ne ?e ?_); (case e => rfl))
  | ((with_reducible refine' w_mk1 ?o ?n ?_); (case o => apply Exn.oex; assumption); (case n => apply Exn.no; assumption); intro _ _)
  | ((with_reducible refine w_dnew ?_); intro _ _)
  | ((with_reducible refine' w_inT (ss := ?ss) ?s ?_); (case s => walk_at "sqs"))
  | ((with_reducible refine' w_notInT (ss := ?ss) ?s ?_); (case s => walk_at "sqs"))
  | ((with_reducible refine' w_inX ?s ?f ?g ?_); (case s => walk_at "sqs"); (case f => rfl); (case g => rfl))
  | ((with_reducible refine' w_isIntA ?k ?_); (case k => walk_at "kn"))
  | ((with_reducible refine' w_isBlA ?k ?_); (case k => walk_at "kn"))
  | ((with_reducible refine' w_isStrA ?k ?_); (case k => walk_at "kn"))
  | ((with_reducible refine w_par2 ?_); simp only [List.set_cons_zero, List.set_cons_succ])
  | ((with_reducible refine w_name ?_); simp only [List.set_cons_zero, List.set_cons_succ]))
local macro_rules | `(tactic| walk_at "size") => `(tactic| first | (show _ ≤ sizeLine; decide) | (simp only [List.length_cons, List.length_nil]; decide))
local macro_rules | `(tactic| walk_at "mk") => `(tactic| ((with_reducible refine' w_made ?n ?_); (case n => walk_at "size"); intro _ _))
local macro_rules | `(tactic| walk_at "ev") => `(tactic| simp only [reduceCtorEq, V.int.injEq, V.bl.injEq, V.str.injEq, V.ref.injEq, List.append_nil, List.cons_append, List.nil_append, decide_true, decide_false, Bool.not_true, Bool.not_false])
local macro_rules | `(tactic| walk_at "go") => `(tactic| repeat (first | walk_at "fw" | walk_at "fwv" | walk_at "mk" | (dsimp only) | walk_at "ev"))
local macro_rules | `(tactic| walk_at "br") => `(tactic| first | refine w_iteN (fun _ => ?_) (fun _ => ?_) | refine w_iteD (fun _ => ?_) (fun _ => ?_) | refine w_ite (fun _ => ?_) (fun _ => ?_))
local macro_rules | `(tactic| walk_at "fork") => `(tactic| (first | refine w_iteN (fun hx => ?_) (fun hx => ?_) | refine w_iteD (fun hx => ?_) (fun hx => ?_) | refine w_ite (fun hx => ?_) (fun hx => ?_)) <;> first | (exact absurd hx (by decide +kernel)) | skip)
local macro_rules | `(tactic| walk_at "gr") => `(tactic| repeat' (first | exact Grow.refl _ | assumption | refine Grow.trans ?_ (Grow.new (by assumption))))

def spHand (K : PySem.W.Frag) (C CN : Addr) : Sp := fun vs H Q E => ∃ x s q xs rs v, vs = [.ref x, v] ∧ LineAt C H x s q ∧ H q = some (.lst xs) ∧ RowsAt H xs rs ∧ xs.length ≤ 1000 ∧ Kn K H v ∧
  (∀ b, v = .int b → 0 ≤ b → b ≤ 99 → ((xs.length : Int) ≤ b → Q .non H) ∧ (b < (xs.length : Int) → ∀ y q' xs' H' t n, rs[((xs.length : Int) - 1 - b).toNat]? = some (t, n) → LtrAt H' y t → LineAt C H' x s q' → H' q' = some (.lst xs') → RowsAt H' xs' (handed rs ((xs.length : Int) - 1 - b).toNat s) → H q' = none → Ext x H H' → Q y H')) ∧
  (within v (.int 0) (.int 99) = false → ∀ d, H d = none → E (.ref CN) (some d) (upd H d (.xd [("part", .str "back")])))
section
variable {P : Program} {w : World} {K : PySem.W.Frag} {mg : Str → Option Value} {base : Heap}
def ahead (rs : List Row) (s : Int) : List Row := (rs.filter fun r => decide (r.2 < s)).map fun r => (r.1, r.2 + 1)
theorem ahead_snoc (rs : List Row) (r : Row) (s : Int) : ahead (rs ++ [r]) s = ahead rs s ++ ahead [r] s := by unfold ahead; rw [List.filter_append, List.map_append]
theorem ahead_yes {rs : List Row} {j : Nat} {t : Ltr} {n s : Int} (e : rs[j]? = some (t, n)) (h : n < s) : ahead (rs.take (j + 1)) s = ahead (rs.take j) s ++ [(t, n + 1)] := by
  rw [List.take_succ, e]
  show ahead (rs.take j ++ [(t, n)]) s = _
  rw [ahead_snoc]
  congr 1
  unfold ahead
  simp [h]
theorem ahead_no {rs : List Row} {j : Nat} {t : Ltr} {n s : Int} (e : rs[j]? = some (t, n)) (h : ¬ n < s) : ahead (rs.take (j + 1)) s = ahead (rs.take j) s := by
  rw [List.take_succ, e]
  show ahead (rs.take j ++ [(t, n)]) s = _
  rw [ahead_snoc]
  unfold ahead
  simp [h]
theorem cut_take {xs : List V} {pl : Int} (h0 : 0 ≤ pl) (h1 : pl ≤ xs.length) : cutV xs none (some pl) = xs.take pl.toNat := by
  obtain ⟨k, rfl⟩ : ∃ k : Nat, pl = (k : Int) := ⟨pl.toNat, by omega⟩
  unfold cutV
  rw [HT.sIx_none, HT.sIx_nat, Int.toNat_natCast, List.drop_zero, Nat.sub_zero, Nat.min_eq_left (by omega)]
theorem cut_drop {xs : List V} {pl : Int} (h0 : 0 ≤ pl) (h1 : pl ≤ xs.length) : cutV xs (some pl) none = xs.drop pl.toNat := by
  obtain ⟨k, rfl⟩ : ∃ k : Nat, pl = (k : Int) := ⟨pl.toNat, by omega⟩
  unfold cutV
  rw [HT.sIx_none, HT.sIx_nat, Int.toNat_natCast, Nat.min_eq_left (by omega), ← List.length_drop, List.take_length]
theorem ok_hand {f : Addr} {fd : FuncData} (T : Txt P w K mg base) (F : Fun K "hand" "Line.hand" s_Line_hand f fd) : FnOk P w K mg base (L2.CX P w) 4 f fd ["self", "back"] (spHand K T.cLine T.cBadNumber) := by
  refine F.okX sc_Line_hand (fun vs H Q E h => ?_) (fun cdv A outer s H vs Q E hr h => ?_)
  · obtain ⟨x, s, q, xs, rs, v, rfl, _⟩ := h; rfl
  · obtain ⟨x, s0, q, xs, rs, v, rfl, ⟨dx, hx⟩, hq, hrs, hl, kn, k1, k2⟩ := h
    refine ⟨_, (pss_cons (ps_set (i := 2) sc_Line_hand.nd rfl (Or.inl rfl) (pe_methC (E := E) T.cl_Line (m_place_back T) hr (by decide) (passes_call (takes_of rfl rfl rfl rfl) (fun _ _ _ _ h => h)) (pv 0) (pa_cons (pv 1) pa_nil)))
 (pss_cons (ps_if (pt_cmpR op_isN (pv 2) pe_non (nomark _))
 (pss_one (ps_ret pe_non))
 pss_nil)
 (pss_cons (ps_setLc (i := 4) (own := [("letter", 3), ("times", 5)]) (g := gTup K 2 (gCons (gName 3) (gCons (gName 5) gNil))) (tt := tTest (tOp (rI0 fun i j => V.bl (decide (i < j))) (tVar 5) (tFld K (tVar 0) "late"))) rfl sc_Line_hand.nd rfl rfl (sw_true rfl rfl rfl (by decide +kernel)) (pi_list (pe_slice sl_list (pe_fld (pv 0) rfl) po_none (po_some (pv 2)))) (blkOk_by (own := [("letter", 3), ("times", 5)]) (N := N_Line_hand) (sc := defScope s_Line_hand) (by decide +kernel)) (fun _ _ _ _ _ => pg_tup (n := 2) rfl (pgs_cons (pg_name (i := 3) sc_Line_hand.nd rfl (Or.inl rfl)) (pgs_cons (pg_name (i := 5) sc_Line_hand.nd rfl (Or.inl rfl)) pgs_nil))) (fun _ _ _ _ _ => pts_one (pt_cmpR op_lt (pv 5) (pe_fld (pv 0) rfl) (nomark _))) (fun _ _ _ _ _ => pe_tup (pa_cons (pv 3) (pa_cons (pe_op op_add (pv 5) pe_int) pa_nil))))
 (pss_cons (ps_set (i := 3) sc_Line_hand.nd rfl (Or.inl rfl) (pe_ix ix_tup (pe_ix ix_list (pe_fld (pv 0) rfl) (pv 2) (fun _ _ => rfl)) pe_int (fun _ _ => rfl)))
 (pss_cons (ps_fld (pv 0) (pe_lst (StX.pa_star (pv 4) (StX.pa_star (pe_slice sl_list (pe_fld (pv 0) rfl) (po_some (pv 2)) po_none) pa_nil))) rfl)
 (pss_one (ps_ret (pv 3)))))))), ?_⟩
    rw [show L2.start N_Line_hand [(V.ref x), (v)] = [some (V.ref x), some (v), none, none, none, none] from rfl]; try dsimp only [cxOf]
    walk_at "go"
    refine ⟨.ref x, rfl, x, dx, _, rfl, hx, rfl, ?_⟩
    walk_at "go"
    refine ⟨x, s0, q, xs, v, rfl, ⟨dx, hx⟩, hq, kn, fun b eb b0 b1 => ?_, k2⟩
    obtain ⟨k3, k4⟩ := k1 b eb b0 b1
    subst eb
    by_cases h1 : b < (xs.length : Int)
    · rw [if_pos h1]
      have k5 := k4 h1
      generalize hpl : (xs.length : Int) - 1 - b = pl at k5 ⊢
      have p0 : 0 ≤ pl := by omega
      have p1 : pl < xs.length := by omega
      clear k4 k3 hpl
      walk_at "go"
      have xl := hrs.len
      refine ⟨.ref x, rfl, x, _, dx, _, _, rfl, hx, T.cl_Line, T.n_lying, rfl, .int pl, rfl, pl, rfl, q, xs, rfl, SqL.of hq, fun p np => ⟨p, rfl, ⟨_, SqL.of upd_same⟩, ?_⟩⟩
      rw [cut_take p0 (by omega)]
      have hz := (hrs.take pl.toNat)
      have g1 : Grow H (upd H p (.lst (xs.take pl.toNat))) := Grow.new np
      have f1 : upd H p (.lst (xs.take pl.toNat)) p = some (.lst (xs.take pl.toNat)) := upd_same
      generalize upd H p (.lst (xs.take pl.toNat)) = H1 at g1 f1 ⊢
      refine fun D nD => lc_list (xs := xs.take pl.toNat) (σ := [some (V.ref x), some (V.int b), some (V.int pl), none, none, none]) (fun j H' => ∃ acc, H' D = some (.lst acc) ∧ acc.length ≤ j ∧ RowsAt H' acc (ahead ((rs.take pl.toNat).take j) s0) ∧ Grow H1 H') ?a1 ?a2 ?a3 ?a4
      case a1 => exact ⟨[], upd_same, by simp, by simp [ahead]; exact .nil, Grow.new nD⟩
      case a2 => intro j H' _ ⟨_, _, _, _, g⟩; exact SqL.of (g _ _ f1)
      case a3 =>
        intro j y H2 ey ⟨acc, d1, d2, d3, g2⟩
        obtain ⟨⟨t, n⟩, er, ⟨pt, u, rfl, hpt, hu⟩⟩ := hz.get j y ey
        have g12 := g1.trans g2
        have hx2 := g12 _ _ hx
        have nDp : ∀ ys, H2 D ≠ some (.tup ys) := fun ys z => by rw [d1] at z; cases z
        refine w_gtup (n := 2) (SqT.of (g12 _ _ hpt)) rfl ?_
        walk_at "go"
        refine ⟨rfl, ?_⟩
        refine ⟨rfl, ?_⟩
        walk_at "go"
        refine ⟨.ref x, rfl, x, _, dx, _, _, rfl, hx2, T.cl_Line, T.n_late, rfl, ?_⟩
        walk_at "go"
        refine w_iteD (fun hlt => ?_) (fun hlt => ?_)
        · walk_at "go"
          rename_i p2 np2
          have Dp2 : D ≠ p2 := ne_of_none d1 np2
          have kt : KT H2 (upd (upd H2 p2 (.tup [u, .int (n + 1)])) D (.lst (acc ++ [.ref p2]))) := fun b ys e => by
            rw [upd_ne (fun z => nDp ys (by rw [← z]; exact e))]
            exact rd_new np2 e
          refine ⟨acc, rd_new np2 d1, by rw [sizeLine_eq]; have := List.length_take_le pl.toNat xs; have := (List.getElem?_eq_some_iff.mp ey).1; omega, acc ++ [.ref p2], upd_same, by rw [List.length_append]; simp; omega, ?_, fun b o e => ?_⟩
          · rw [ahead_yes er hlt]
            refine (kt.rows d3).app (.cons ⟨p2, u, rfl, ?_, (KT.trans (KT.grow g12) kt).ltr hu⟩ .nil)
            rw [upd_ne (Ne.symm Dp2)]; exact upd_same
          · rw [upd_ne (ne_of_none e nD)]; exact rd_new np2 (g2 _ _ e)
        · refine ⟨acc, d1, by omega, ?_, g2⟩
          rw [ahead_no er hlt]
          exact d3
      case a4 =>
        intro H2 ⟨acc, d1, d2, d3, g2⟩
        rw [List.take_of_length_le (by rw [List.length_take, List.length_take, hrs.len]; exact Nat.le_refl _)] at d3
        have g12 := g1.trans g2
        have hx2 := g12 _ _ hx
        have hq2 := g12 _ _ hq
        obtain ⟨yv, hyv⟩ : ∃ yv, xs[pl.toNat]? = some yv := ⟨xs[pl.toNat]'(by omega), by simp⟩
        obtain ⟨⟨t, n⟩, er, ⟨pt, u, rfl, hpt, hu⟩⟩ := hrs.get pl.toNat yv hyv
        dsimp only
        walk_at "go"
        refine ⟨.ref x, rfl, x, _, dx, _, _, rfl, hx2, T.cl_Line, T.n_lying, rfl, ?_⟩
        walk_at "go"
        refine w_ixL (SqL.of hq2) (at_of (by omega) hyv) ?_
        walk_at "go"
        refine ⟨pt, _, 0, u, rfl, rfl, SqT.of (g12 _ _ hpt), rfl, ?_⟩
        walk_at "go"
        unfold sFld
        refine w_lst ?_
        refine ⟨.ref D, rfl, D, acc, rfl, .inr (SqL.of d1), ?_⟩
        refine ⟨.ref x, rfl, x, _, dx, _, _, rfl, hx2, T.cl_Line, T.n_lying, rfl, .int pl, rfl, pl, rfl, q, xs, rfl, SqL.of hq2, fun p2 np2 => ⟨p2, _, rfl, .inr (SqL.of upd_same), ?_⟩⟩
        rw [cut_drop p0 (by omega)]
        refine w_nil ?_
        dsimp only
        rw [List.append_nil]
        have al : acc.length ≤ 1000 := by rw [List.length_take] at d2; omega
        refine ⟨by rw [sizeLine_eq, List.length_append, List.length_drop]; omega, fun p3 np3 => ?_⟩
        have x2 : x ≠ p2 := ne_of_none hx2 np2
        have hx3 := rd_new np2 hx2 (o := .lst (xs.drop pl.toNat))
        have x3 : x ≠ p3 := ne_of_none hx3 np3
        refine ⟨.ref x, rfl, x, _, dx, _, rfl, rd_new np3 hx3, T.cl_Line, T.n_lying, by simp, ?_⟩
        walk_at "go"
        have n3 : H p3 = none := by
          match z : H p3 with
          | none => rfl
          | some o => rw [rd_new np2 (g12 _ _ z)] at np3; cases np3
        have kt : KT H2 (upd (upd (upd H2 p2 (.lst (xs.drop pl.toNat))) p3 (.lst (acc ++ xs.drop pl.toNat))) x (.ins T.cLine dx (putF "lying" (.ref p3) [("late", .int s0), ("lying", .ref q)]))) := fun b ys e => by
          rw [upd_ne (fun z => by rw [z, hx2] at e; cases e)]
          exact rd_new np3 (rd_new np2 e)
        refine k5 u p3 (acc ++ xs.drop pl.toNat) _ t n er ((KT.trans (KT.grow g12) kt).ltr hu) ⟨dx, upd_same⟩ (by rw [upd_ne (Ne.symm x3)]; exact upd_same) ?_ n3 (fun b o nb e => ?_)
        · exact (kt.rows d3).app ((KT.trans (KT.grow g12) kt).rows (hrs.drop pl.toNat))
        · rw [upd_ne nb]; exact rd_new np3 (rd_new np2 (g12 _ _ e))
    · rw [if_neg h1]
      walk_at "go"
      exact k3 (by omega)
theorem m_hand (T : Txt P w K mg base) : CanM P w K mg base (L2.CX P w) 4 T.cLine "hand" ["self", "back"] (spHand K T.cLine T.cBadNumber) := T.m_hand.can fun f fd F => ok_hand T F
end
end K42

set_option maxRecDepth 100000
set_option maxHeartbeats 4000000
namespace K42
open PySem L2 FW PyProof.Rows
local macro_rules | `(tactic| walk_at "side") => `(tactic| first
  | omega
  | exact ⟨by omega, by omega⟩
  | exact Or.inl ⟨by omega, by omega⟩
  | exact Or.inr ⟨by omega, by omega⟩
  | exact ⟨by omega, by omega, by omega⟩
  | exact ⟨by decide, by decide, by decide⟩
  | (refine mix2 ?_ ?_ ?_ ?_ ?_ ?_ ?_ ?_ ?_ ?_ <;> omega))
local macro_rules | `(tactic| walk_at "hp") => `(tactic| first
  | assumption | exact upd_same
  | (refine' rd_new ?n ?q; (case n => assumption); (case q => walk_at "hp"))
  | (refine' rd_ne ?n ?q; (case n => first | assumption | (apply Ne.symm; assumption)); (case q => walk_at "hp")))
local macro_rules | `(tactic| walk_at "sq") => `(tactic| first
  | assumption
  | (with_reducible apply SqL.of; walk_at "hp") | (with_reducible apply SqT.of; walk_at "hp")
  | ((with_reducible refine' sqL_new ?n ?q); (case n => assumption); (case q => walk_at "sq"))
  | ((with_reducible refine' sqT_new ?n ?q); (case n => assumption); (case q => walk_at "sq"))
  | ((with_reducible refine' sqL_ne ?n ?q); (case n => first | assumption | (apply Ne.symm; assumption)); (case q => walk_at "sq"))
  | ((with_reducible refine' sqT_ne ?n ?q); (case n => first | assumption | (apply Ne.symm; assumption)); (case q => walk_at "sq"))
  | ((with_reducible refine' Ext.sqL ?e ?n ?q); (case e => assumption); (case n => first | assumption | (apply Ne.symm; assumption)); (case q => walk_at "sq"))
  | ((with_reducible refine' Ext.sqT ?e ?n ?q); (case e => assumption); (case n => first | assumption | (apply Ne.symm; assumption)); (case q => walk_at "sq"))
  | ((with_reducible refine' Grow.sqL ?e ?q); (case e => assumption); (case q => walk_at "sq"))
  | ((with_reducible refine' Grow.sqT ?e ?q); (case e => assumption); (case q => walk_at "sq")))
local macro_rules | `(tactic| walk_at "sqs") => `(tactic| first | assumption | (exact ‹∀ H, SqT _ H _ _› _) | (apply SqT.of; walk_at "hp"))
local macro_rules | `(tactic| walk_at "kn") => `(tactic| first | assumption | exact True.intro)
local macro_rules | `(tactic| walk_at "fw") => `(tactic| with_reducible first
  | refine w_seq ?_ | refine w_asg ?_ | refine w_ret ?_ | refine w_drop ?_ | refine w_next ?_ | refine w_c ?_ | refine w_op ?_ | refine w_un ?_
  | refine w_test ?_ | refine w_B ?_ | refine w_bl ?_ | refine w_not ?_ | refine w_and ?_ | refine w_or ?_ | refine w_andV ?_ | refine w_orV ?_ | refine w_notV ?_
  | refine w_if ?_ | refine w_ifE ?_ | refine w_yes ?_ | refine w_no ?_ | refine w_rfl ?_ | refine w_tr ?_ | refine w_nyes ?_ | refine w_nno ?_ | refine w_T ?_ | refine w_F ?_ | refine w_nil ?_ | refine w_cons ?_ | refine w_cb ?_ | refine w_call ?_ | refine w_lst ?_ | refine w_tup ?_
  | refine w_I0 ?_ | refine w_U ?_ | refine w_int ?_ | refine w_intB ?_ | refine w_abs ?_ | refine w_raise1 ?_ | refine w_sub ?_ | refine w_gcons ?_ | refine w_gnil ?_ | refine w_par ?_ | refine w_chain ?_ | refine w_callNB ?_)
local macro_rules | `(tactic| walk_at "fwv") => `(tactic| first
  | ((with_reducible refine' w_var ?e ?_); (case e => rfl))
  | ((with_reducible refine' w_I ?e ?_); (case e => walk_at "side"))
  | ((with_reducible refine' w_ixL ?s ?e ?_); (case s => walk_at "sq"); (case e => rfl))
  | ((with_reducible refine' w_lenL ?s ?_); (case s => walk_at "sq"); try simp only [List.length_map, List.length_cons, List.length_nil])
  | ((with_reducible refine' w_setL ?e ?f ?_); (case e => walk_at "hp"); (case f => rfl); try simp only [Int.reduceToNat, List.set_cons_zero, List.set_cons_succ, upd_upd])
  | ((with_reducible refine' w_gtup ?s ?l ?_); (case s => walk_at "sq"); (case l => rfl))
  | ((with_reducible refine' w_eq ?e ?_); (case e => rfl))
  | ((with_reducible refine' w_ne ?e ?_); (case e => rfl))
  | ((with_reducible refine' w_mk1 ?o ?n ?_); (case o => apply Exn.oex; assumption); (case n => apply Exn.no; assumption); intro _ _)
  | ((with_reducible refine w_dnew ?_); intro _ _)
  | ((with_reducible refine' w_inT (ss := ?ss) ?s ?_); (case s => walk_at "sqs"))
  | ((with_reducible refine' w_notInT (ss := ?ss) ?s ?_); (case s => walk_at "sqs"))
  | ((with_reducible refine' w_inX ?s ?f ?g ?_); (case s => walk_at "sqs"); (case f => rfl); (case g => rfl))
  | ((with_reducible refine' w_isIntA ?k ?_); (case k => walk_at "kn"))
  | ((with_reducible refine' w_isBlA ?k ?_); (case k => walk_at "kn"))
  | ((with_reducible refine' w_isStrA ?k ?_); (case k => walk_at "kn"))
  | ((with_reducible refine w_par2 ?_); simp only [List.set_cons_zero, List.set_cons_succ])
  | ((with_reducible refine w_name ?_); simp only [List.set_cons_zero, List.set_cons_succ]))
local macro_rules | `(tactic| walk_at "size") => `(tactic| first | (show _ ≤ sizeLine; decide) | (simp only [List.length_cons, List.length_nil]; decide))
local macro_rules | `(tactic| walk_at "mk") => `(tactic| ((with_reducible refine' w_made ?n ?_); (case n => walk_at "size"); intro _ _))
local macro_rules | `(tactic| walk_at "ev") => `(tactic| simp only [reduceCtorEq, V.int.injEq, V.bl.injEq, V.str.injEq, V.ref.injEq, List.append_nil, List.cons_append, List.nil_append, decide_true, decide_false, Bool.not_true, Bool.not_false])
local macro_rules | `(tactic| walk_at "go") => `(tactic| repeat (first | walk_at "fw" | walk_at "fwv" | walk_at "mk" | (dsimp only) | walk_at "ev"))
local macro_rules | `(tactic| walk_at "br") => `(tactic| first | refine w_iteN (fun _ => ?_) (fun _ => ?_) | refine w_iteD (fun _ => ?_) (fun _ => ?_) | refine w_ite (fun _ => ?_) (fun _ => ?_))
local macro_rules | `(tactic| walk_at "fork") => `(tactic| (first | refine w_iteN (fun hx => ?_) (fun hx => ?_) | refine w_iteD (fun hx => ?_) (fun hx => ?_) | refine w_ite (fun hx => ?_) (fun hx => ?_)) <;> first | (exact absurd hx (by decide +kernel)) | skip)
local macro_rules | `(tactic| walk_at "gr") => `(tactic| repeat' (first | exact Grow.refl _ | assumption | refine Grow.trans ?_ (Grow.new (by assumption))))

abbrev s__law_urn : Stmt := top 17
def N__law_urn : List Str := ["_law_script", "_law_cell"]
theorem sc__law_urn : FnScope N__law_urn ["_law_script"] (defScope s__law_urn) := ⟨rfl, rfl, rfl, by decide +kernel, rfl, by decide +kernel, by decide +kernel⟩
abbrev s__law_lift : Stmt := top 18
def N__law_lift : List Str := ["_law_urn_here", "_law_many", "_law_rest", "_law_turn", "_law_cell", "_law_stirred"]
theorem sc__law_lift : FnScope N__law_lift ["_law_urn_here", "_law_many"] (defScope s__law_lift) := ⟨rfl, rfl, rfl, by decide +kernel, rfl, by decide +kernel, by decide +kernel⟩
abbrev s__law_one_of : Stmt := top 19
def N__law_one_of : List Str := ["_law_urn_here", "_law_some"]
theorem sc__law_one_of : FnScope N__law_one_of ["_law_urn_here", "_law_some"] (defScope s__law_one_of) := ⟨rfl, rfl, rfl, by decide +kernel, rfl, by decide +kernel, by decide +kernel⟩
abbrev s__law_short : Stmt := top 20
def N__law_short : List Str := ["_law_urn_here"]
theorem sc__law_short : FnScope N__law_short ["_law_urn_here"] (defScope s__law_short) := ⟨rfl, rfl, rfl, by decide +kernel, rfl, by decide +kernel, by decide +kernel⟩
abbrev s__law_heard : Stmt := top 21
def N__law_heard : List Str := ["_law_ask", "_law_heard_here", "error"]
theorem sc__law_heard : FnScope N__law_heard ["_law_ask"] (defScope s__law_heard) := ⟨rfl, rfl, rfl, by decide +kernel, rfl, by decide +kernel, by decide +kernel⟩
abbrev s__law_handed : Stmt := top 22
def N__law_handed : List Str := ["_law_rows", "_law_at", "_law_late", "_law_found", "_law_spot", "_law_letter", "_law_many", "_law_now"]
theorem sc__law_handed : FnScope N__law_handed ["_law_rows", "_law_at", "_law_late"] (defScope s__law_handed) := ⟨rfl, rfl, rfl, by decide +kernel, rfl, by decide +kernel, by decide +kernel⟩
abbrev s__law_deed_right : Stmt := top 23
def N__law_deed_right : List Str := ["_law_urn_here", "_law_line", "_law_rows", "_law_late", "_law_way", "_law_back", "_law_at", "_law_letter", "_law_passed", "_law_told", "_law_number"]
theorem sc__law_deed_right : FnScope N__law_deed_right ["_law_urn_here", "_law_line", "_law_rows", "_law_late"] (defScope s__law_deed_right) := ⟨rfl, rfl, rfl, by decide +kernel, rfl, by decide +kernel, by decide +kernel⟩
abbrev s__law_refused_right : Stmt := top 24
def N__law_refused_right : List Str := ["_law_urn_here", "_law_line", "_law_late", "_law_ahead", "_law_heard_here", "_law_none", "_law_odd"]
theorem sc__law_refused_right : FnScope N__law_refused_right ["_law_urn_here", "_law_line", "_law_late"] (defScope s__law_refused_right) := ⟨rfl, rfl, rfl, by decide +kernel, rfl, by decide +kernel, by decide +kernel⟩
abbrev s_law : Stmt := top 25
def N_law : List Str := ["_law_script", "_law_urn_here", "_law_turn", "_law_late", "_law_line", "_law_rows", "_law_deed", "_law_none"]
theorem sc_law : FnScope N_law ["_law_script"] (defScope s_law) := ⟨rfl, rfl, rfl, by decide +kernel, rfl, by decide +kernel, by decide +kernel⟩
structure TxtL (P : Program) (w : World) (K : PySem.W.Frag) (mg : Str → Option Value) (base : Heap) extends Txt P w K mg base where
  b_range : mg "range" = none
  b_repr : mg "repr" = none
  b_enumerate : mg "enumerate" = none
  cR : Addr
  pR : Addr
  cL : Addr
  pL : Addr
  tR : LamX.TabB base mg cR pR
  tL : LamX.TabB base mg cL pL
  apart : pR ≠ pL
  e_BadNumber : PySem.W.exmOne K (.ref cBadNumber) (.ref cBadNumber) = some true
  d__law_urn : DefOk K mg "_law_urn" s__law_urn ["_law_script"]
  d__law_lift : DefOk K mg "_law_lift" s__law_lift ["_law_urn_here", "_law_many"]
  d__law_one_of : DefOk K mg "_law_one_of" s__law_one_of ["_law_urn_here", "_law_some"]
  d__law_short : DefOk K mg "_law_short" s__law_short ["_law_urn_here"]
  d__law_heard : DefOk K mg "_law_heard" s__law_heard ["_law_ask"]
  d__law_handed : DefOk K mg "_law_handed" s__law_handed ["_law_rows", "_law_at", "_law_late"]
  d__law_deed_right : DefOk K mg "_law_deed_right" s__law_deed_right ["_law_urn_here", "_law_line", "_law_rows", "_law_late"]
  d__law_refused_right : DefOkC K mg "_law_refused_right" s__law_refused_right ["_law_urn_here", "_law_line", "_law_late"] cR
section
variable {P : Program} {w : World} {K : PySem.W.Frag} {mg : Str → Option Value} {base : Heap} {H0 : Hp} {c l : Addr} {cells : List Int}
theorem ok__law_lift {f : Addr} {fd : FuncData} (T : TxtL P w K mg base) (F : Fun K "_law_lift" "_law_lift" s__law_lift f fd) : FnOk P w K mg base CX0 1 f fd ["_law_urn_here", "_law_many"] (spDropL K) := by
  refine F.ok sc__law_lift (fun vs H Q E h => ?_) (fun cdv A outer s H vs Q E hr h => ?_)
  · obtain ⟨c, l, n, cells, rest, many, rfl, _⟩ := h
    rfl
  · obtain ⟨c, l, n, cells, rest, many, rfl, hc, hl, hne, hn, hm0, hm1, k⟩ := h
    refine ⟨_, (pss_cons (ps_if (pt_cmpR op_gt (pe_ix ix_list (pv 0) pe_int (fun _ _ => rfl)) pe_int (nomark _))
 (pss_cons (ps_set (i := 2) sc__law_lift.nd rfl (Or.inl rfl) (pe_callTy call_intA (by rfl) T.b_int (by decide +kernel) (pa_cons (pe_ix ix_list (pv 0) pe_int (fun _ _ => rfl)) pa_nil)))
 (pss_cons (ps_asg (pe_op op_fdiv (pv 2) (pv 1)) (pg_sub (pv 0) pe_int set_list))
 (pss_one (ps_ret (pe_op op_mod (pe_callTy call_intA (by rfl) T.b_int (by decide +kernel) (pa_cons (pv 2) pa_nil)) (pv 1))))))
 pss_nil)
 (pss_cons (ps_set (i := 3) sc__law_lift.nd rfl (Or.inl rfl) (pe_ix ix_list (pv 0) pe_int (fun _ _ => rfl)))
 (pss_cons (ps_asg (pe_op op_add (pv 3) pe_int) (pg_sub (pv 0) pe_int set_list))
 (pss_cons (ps_set (i := 4) sc__law_lift.nd rfl (Or.inl rfl) (pe_op op_add (pe_op op_mul pe_int (pv 3)) pe_int))
 (pss_cons (ps_if (pt_cmpR (op_neD hr.units) (pe_ix ix_list (pv 0) pe_int (fun _ _ => rfl)) (pe_lst pa_nil) (nomark _))
 (pss_one (ps_set (i := 4) sc__law_lift.nd rfl (Or.inl rfl) (pe_ix ix_list (pe_ix ix_list (pv 0) pe_int (fun _ _ => rfl)) (pe_op op_mod (pe_callTy call_intA (by rfl) T.b_int (by decide +kernel) (pa_cons (pv 3) pa_nil)) (pe_callB call_lenA (by rfl) T.b_len (by decide +kernel) (pa_cons (pe_ix ix_list (pv 0) pe_int (fun _ _ => rfl)) pa_nil))) (fun _ _ => rfl))))
 pss_nil)
 (pss_cons (ps_if (PW.pt (pw_and (pt_cmpR op_lt (pv 3) (pe_callB call_lenA (by rfl) T.b_len (by decide +kernel) (pa_cons (pe_ix ix_list (pv 0) pe_int (fun _ _ => rfl)) pa_nil)) (nomark _)) (pw_and1 (pt_cmpR op_ge (pe_callB call_absA (by rfl) T.b_abs (by decide +kernel) (pa_cons (pv 4) pa_nil)) (pe_op op_pow pe_int pe_int) (nomark _)))))
 (pss_cons (ps_set (i := 2) sc__law_lift.nd rfl (Or.inl rfl) (pe_op op_add (pe_op op_mul pe_int (pe_op op_sub (pe_callB call_absA (by rfl) T.b_abs (by decide +kernel) (pa_cons (pv 4) pa_nil)) (pe_op op_pow pe_int pe_int))) (pe_callTy call_intA (by rfl) T.b_int (by decide +kernel) (pa_cons (pe_cmpR op_lt (pv 4) pe_int (nomark _)) pa_nil))))
 (pss_cons (ps_asg (pe_op op_fdiv (pv 2) (pv 1)) (pg_sub (pv 0) pe_int set_list))
 (pss_one (ps_ret (pe_op op_mod (pe_callTy call_intA (by rfl) T.b_int (by decide +kernel) (pa_cons (pv 2) pa_nil)) (pv 1))))))
 pss_nil)
 (pss_cons (ps_set (i := 5) sc__law_lift.nd rfl (Or.inl rfl) (pe_op op_mod (pe_callTy call_intA (by rfl) T.b_int (by decide +kernel) (pa_cons (pe_op op_pow (pe_op op_add (pe_op op_add (pe_op op_mod (pe_callTy call_intA (by rfl) T.b_int (by decide +kernel) (pa_cons (pv 4) pa_nil)) pe_int) (pe_op op_mul pe_int (pv 3))) pe_int) pe_int) pa_nil)) pe_int))
 (pss_cons (ps_set (i := 5) sc__law_lift.nd rfl (Or.inl rfl) (pe_op op_mod (pe_callTy call_intA (by rfl) T.b_int (by decide +kernel) (pa_cons (pe_op op_pow (pe_op op_add (pe_op op_add (pe_op op_mul (pv 5) (pe_op op_add (pe_op op_mul pe_int (pv 3)) pe_int)) (pe_op op_mul (pe_op op_mul pe_int (pv 3)) (pv 3))) pe_int) pe_int) pa_nil)) pe_int))
 (pss_one (ps_ret (pe_op op_mod (pe_callTy call_intA (by rfl) T.b_int (by decide +kernel) (pa_cons (pe_op op_fdiv (pv 5) pe_int) pa_nil)) (pv 1)))))))))))), ?_⟩
    rw [show L2.start N__law_lift [(V.ref c), (V.int many)] = [some (V.ref c), some (V.int many), none, none, none, none] from rfl]; try dsimp only [cxOf]
    walk_at "go"
    refine w_ite (fun h1 => ?_) (fun h1 => ?_)
    · walk_at "go"
      exact k _ _ n _ (Int.emod_nonneg _ (by omega)) (Int.emod_lt_of_pos _ hm0) (by omega) upd_same Ext.upd
    · walk_at "go"
      rename_i p hp
      have hlc : SqL K (upd (upd H c (.lst [.ref l, .int (n + 1), .int rest])) p (.lst [])) l (cells.map V.int) := sqL_new hp (sqL_ne hne hl)
      refine w_neNil hlc (SqL.of upd_same) ?_
      have e1 : ((n : Int) + 1) = ((n + 1 : Nat) : Int) := by omega
      have hnc : c ≠ p := ne_of_none upd_same hp
      have ext1 : Ext c H (upd (upd H c (.lst [.ref l, .int (n + 1), .int rest])) p (.lst [])) := Ext.upd.trans (Ext.new hp)
      walk_at "go"
      refine w_ite (fun h2 => ?a1) (fun h2 => ?a2)
      case' a1 =>
        walk_at "go"
        have hpos : (0 : Int) < (cells.length : Int) := by
          cases cells with
          | nil => simp at h2
          | cons a r => simp only [List.length_cons]; omega
        refine w_I hpos ?_
        obtain ⟨z, _, hz⟩ := atI_map (ns := cells) (i := (n : Int) % (cells.length : Int)) (Int.emod_nonneg _ (by omega)) (Int.emod_lt_of_pos _ hpos)
        refine w_ixL hlc hz ?_
      case' a2 => generalize (70111 * (n : Int) + 4517) = z
      all_goals
        walk_at "go"
        refine w_ite (fun h3 => ?_) (fun h3 => ?_)
        · walk_at "go"
          refine w_ite (fun h4 => ?_) (fun h4 => ?_)
          · walk_at "go"
            exact k _ _ (n + 1) _ (Int.emod_nonneg _ (by omega)) (Int.emod_lt_of_pos _ hm0) (by omega) (by rw [← e1]; exact upd_same) (ext1.trans Ext.upd)
          · walk_at "go"
            exact k _ _ (n + 1) _ (Int.emod_nonneg _ (by omega)) (Int.emod_lt_of_pos _ hm0) (by omega) (by rw [← e1]; exact rd_new hp upd_same) ext1
        · walk_at "go"
          exact k _ _ (n + 1) _ (Int.emod_nonneg _ (by omega)) (Int.emod_lt_of_pos _ hm0) (by omega) (by rw [← e1]; exact rd_new hp upd_same) ext1
theorem c__law_lift (T : TxtL P w K mg base) (H0 : Hp) (c l : Addr) (cells : List Int) : Can P w K mg base CX0 1 "_law_lift" ["_law_urn_here", "_law_many"] (spDraw K H0 c l cells) := T.d__law_lift.can fun f fd F => (ok__law_lift T F).imp drawL
theorem ok__law_urn {f : Addr} {fd : FuncData} (T : TxtL P w K mg base) (F : Fun K "_law_urn" "_law_urn" s__law_urn f fd) : FnOk P w K mg base CX0 1 f fd ["_law_script"] (spBegin K) := by
  refine F.ok sc__law_urn (fun vs H Q E h => ?_) (fun cdv A outer s H vs Q E hr h => ?_)
  · obtain ⟨a, ns, rfl, _⟩ := h; rfl
  · obtain ⟨a, ns, rfl, hs, hn, k⟩ := h
    refine ⟨_, (pss_one (ps_ret (pe_lst (pa_cons (pe_lc1 (x := "_law_cell") (i := 1) (g := gName 1) (tt := tYes) rfl sc__law_urn.nd (pi_list (pe_slice sl_list (pv 0) po_none (po_some pe_int))) (blkOk_by (N := N__law_urn) (sc := defScope s__law_urn) (by decide +kernel)) (fun _ _ _ _ _ => pg_name (i := 1) sc__law_urn.nd rfl (Or.inl rfl)) (fun _ _ _ _ _ => pts_nil) (fun _ _ _ _ _ => (pe_callTy call_intA (by rfl) T.b_int (by decide +kernel) (pa_cons (pv 1) pa_nil)))) (pa_cons pe_int (pa_cons pe_int pa_nil)))))), ?_⟩
    rw [show L2.start N__law_urn [(V.ref a)] = [some (V.ref a), none] from rfl]; try dsimp only [cxOf]
    walk_at "go"
    obtain ⟨ms, ec, hm⟩ := cut_ints ns none (some 60)
    refine ⟨.ref a, rfl, 60, rfl, a, _, rfl, hs, fun p np => ⟨p, rfl, ⟨_, SqL.of upd_same⟩, ?_⟩⟩
    rw [ec]
    dsimp only
    refine lcL (σ := [some (V.ref a), none]) (i := 1) (xs := ms.map V.int) (ys := ms.map V.int) (by intro _; rfl) rfl (by rw [List.length_map]; exact small1000 (by omega)) (SqL.of upd_same) (fun j x y H' R ex ey g r => ?_) (fun D H' nD eD g => ?_)
    · rw [ex] at ey; cases ey
      rw [List.getElem?_map] at ex
      obtain ⟨z, hz⟩ : ∃ z, x = V.int z := by
        cases e : ms[j]? with
        | none => rw [e] at ex; cases ex
        | some z => rw [e] at ex; exact ⟨z, (Option.some.inj ex).symm⟩
      subst hz
      walk_at "go"
      exact r _ (Grow.refl _)
    · walk_at "go"
      rename_i c hc
      have g0 : Grow H H' := (Grow.new np).trans g
      have nc : H c = none := by
        cases e : H c with
        | none => rfl
        | some o => rw [g0 _ _ e] at hc; cases hc
      refine k c _ nc (g0.trans (Grow.new hc)) ⟨D, ms, 0, upd_same, sqL_new hc (SqL.of eD), ne_of_none eD hc⟩
theorem c__law_urn (T : TxtL P w K mg base) : Can P w K mg base CX0 1 "_law_urn" ["_law_script"] (spBegin K) := T.d__law_urn.can fun f fd F => ok__law_urn T F
theorem ok__law_one_of {f : Addr} {fd : FuncData} (T : TxtL P w K mg base) (F : Fun K "_law_one_of" "_law_one_of" s__law_one_of f fd) : FnOk P w K mg base CX0 2 f fd ["_law_urn_here", "_law_some"] (spOneL K H0 c l cells) := by
  refine F.ok sc__law_one_of (fun vs H Q E h => ?_) (fun cdv A outer s H vs Q E hr h => ?_)
  · obtain ⟨n, p, xs, rfl, _⟩ := h; rfl
  · obtain ⟨n, p, xs, rfl, ink, pen, hn, hs, np, h0, h1, k⟩ := h
    refine ⟨_, (pss_one (ps_ret (pe_ix ix_list (pv 1) (pe_can (E := E0) (c__law_lift T H0 c l cells) hr (by decide) pass0 rfl (pa_cons (pv 0) (pa_cons (pe_callB call_lenA (by rfl) T.b_len (by decide +kernel) (pa_cons (pv 1) pa_nil)) pa_nil))) (fun _ _ => rfl)))), ?_⟩
    rw [show L2.start N__law_one_of [(V.ref c), (V.ref p)] = [some (V.ref c), some (V.ref p)] from rfl]; try dsimp only [cxOf]
    walk_at "go"
    refine ⟨n, xs.length, rfl, ink, pen, by omega, by omega, by omega, fun r n' H' r0 r1 hn' pen' he => ?_⟩
    walk_at "go"
    obtain ⟨j, rfl⟩ : ∃ j : Nat, r = (j : Int) := ⟨r.toNat, by omega⟩
    have hj : j < xs.length := by omega
    obtain ⟨x, hx⟩ : ∃ x, xs[j]? = some x := ⟨xs[j], by simp [hj]⟩
    refine w_ixL (he.sqL np hs) (at_of rfl hx) ?_
    exact k x n' H' (List.mem_of_getElem? hx) hn' pen' he
theorem c__law_one_of (T : TxtL P w K mg base) (H0 : Hp) (c l : Addr) (cells : List Int) : Can P w K mg base CX0 2 "_law_one_of" ["_law_urn_here", "_law_some"] (spOneL K H0 c l cells) := T.d__law_one_of.can fun f fd F => ok__law_one_of T F
def spShort (K : PySem.W.Frag) (H0 : Hp) (c l : Addr) (cells : List Int) : Sp := fun vs H Q _ => ∃ (n : Nat), vs = [.ref c] ∧ Ink K H0 c l cells ∧ Pen H0 c l n H ∧ n < 990000 ∧ ∀ (i : Int) (n' : Nat) (H' : Hp), Sh i → n' ≤ n + 3 → Pen H0 c l n' H' → Ext c H H' → Q (.int i) H'
theorem ok__law_short {f : Addr} {fd : FuncData} (T : TxtL P w K mg base) (F : Fun K "_law_short" "_law_short" s__law_short f fd) : FnOk P w K mg base CX0 3 f fd ["_law_urn_here"] (spShort K H0 c l cells) := by
  refine F.ok sc__law_short (fun vs H Q E h => ?_) (fun cdv A outer s H vs Q E hr h => ?_)
  · obtain ⟨n, rfl, _⟩ := h; rfl
  · obtain ⟨n, rfl, ink, pen, hn, k⟩ := h
    refine ⟨_, (pss_one (ps_ret (pe_can (E := E0) (c__law_one_of T H0 c l cells) hr (by decide) pass0 rfl (pa_cons (pv 0) (pa_cons (pe_lst (pa_cons (pe_op op_sub (pe_can (E := E0) (c__law_lift T H0 c l cells) hr (by decide) pass0 rfl (pa_cons (pv 0) (pa_cons pe_int pa_nil))) pe_int) (pa_cons pe_int (pa_cons (pe_can (E := E0) (c__law_lift T H0 c l cells) hr (by decide) pass0 rfl (pa_cons (pv 0) (pa_cons (pe_op op_pow pe_int pe_int) pa_nil))) (pa_cons pe_int (pa_cons (pe_un un_neg pe_int) (pa_cons pe_int pa_nil))))))) pa_nil))))), ?_⟩
    rw [show L2.start N__law_short [(V.ref c)] = [some (V.ref c)] from rfl]; try dsimp only [cxOf]
    walk_at "go"
    refine ⟨n, 9, rfl, ink, pen, by omega, by omega, by omega, fun r n1 H1 r0 r1 hn1 pen1 he1 => ?_⟩
    walk_at "go"
    refine ⟨n1, 10 ^ Int.toNat 6, rfl, ink, pen1, by omega, by decide, by decide, fun r' n2 H2 r0' r1' hn2 pen2 he2 => ?_⟩
    walk_at "go"
    rename_i p e
    refine ⟨n2, p, _, rfl, ink, pen2.grow (Grow.new e), by omega, SqL.of upd_same, pen2.ne e, by simp, by simp, fun x n' H' hx hn' pen' he' => ?_⟩
    have he : Ext c H H' := (he1.trans he2).trans ((Grow.new e).ext.trans he')
    have r1'' : r' < 1000000 := r1'
    simp only [List.mem_cons, List.not_mem_nil, or_false] at hx
    rcases hx with rfl | rfl | rfl | rfl | rfl | rfl <;> exact k _ n' H' ⟨by omega, by omega⟩ (by omega) pen' he
theorem c__law_short (T : TxtL P w K mg base) (H0 : Hp) (c l : Addr) (cells : List Int) : Can P w K mg base CX0 3 "_law_short" ["_law_urn_here"] (spShort K H0 c l cells) := T.d__law_short.can fun f fd F => ok__law_short T F
end
end K42

set_option maxRecDepth 100000
set_option maxHeartbeats 4000000
namespace K42
open PySem L2 FW PyProof.Rows
local macro_rules | `(tactic| walk_at "side") => `(tactic| first
  | omega
  | exact ⟨by omega, by omega⟩
  | exact Or.inl ⟨by omega, by omega⟩
  | exact Or.inr ⟨by omega, by omega⟩
  | exact ⟨by omega, by omega, by omega⟩
  | exact ⟨by decide, by decide, by decide⟩
  | (refine mix2 ?_ ?_ ?_ ?_ ?_ ?_ ?_ ?_ ?_ ?_ <;> omega))
local macro_rules | `(tactic| walk_at "hp") => `(tactic| first
  | assumption | exact upd_same
  | (refine' rd_new ?n ?q; (case n => assumption); (case q => walk_at "hp"))
  | (refine' rd_ne ?n ?q; (case n => first | assumption | (apply Ne.symm; assumption)); (case q => walk_at "hp")))
local macro_rules | `(tactic| walk_at "sq") => `(tactic| first
  | assumption
  | (with_reducible apply SqL.of; walk_at "hp") | (with_reducible apply SqT.of; walk_at "hp")
  | ((with_reducible refine' sqL_new ?n ?q); (case n => assumption); (case q => walk_at "sq"))
  | ((with_reducible refine' sqT_new ?n ?q); (case n => assumption); (case q => walk_at "sq"))
  | ((with_reducible refine' sqL_ne ?n ?q); (case n => first | assumption | (apply Ne.symm; assumption)); (case q => walk_at "sq"))
  | ((with_reducible refine' sqT_ne ?n ?q); (case n => first | assumption | (apply Ne.symm; assumption)); (case q => walk_at "sq"))
  | ((with_reducible refine' Ext.sqL ?e ?n ?q); (case e => assumption); (case n => first | assumption | (apply Ne.symm; assumption)); (case q => walk_at "sq"))
  | ((with_reducible refine' Ext.sqT ?e ?n ?q); (case e => assumption); (case n => first | assumption | (apply Ne.symm; assumption)); (case q => walk_at "sq"))
  | ((with_reducible refine' Grow.sqL ?e ?q); (case e => assumption); (case q => walk_at "sq"))
  | ((with_reducible refine' Grow.sqT ?e ?q); (case e => assumption); (case q => walk_at "sq")))
local macro_rules | `(tactic| walk_at "sqs") => `(tactic| first | assumption | (exact ‹∀ H, SqT _ H _ _› _) | (apply SqT.of; walk_at "hp"))
local macro_rules | `(tactic| walk_at "kn") => `(tactic| first | assumption | exact True.intro)
local macro_rules | `(tactic| walk_at "fw") => `(tactic| with_reducible first
  | refine w_seq ?_ | refine w_asg ?_ | refine w_ret ?_ | refine w_drop ?_ | refine w_next ?_ | refine w_c ?_ | refine w_op ?_ | refine w_un ?_
  | refine w_test ?_ | refine w_B ?_ | refine w_bl ?_ | refine w_not ?_ | refine w_and ?_ | refine w_or ?_ | refine w_andV ?_ | refine w_orV ?_ | refine w_notV ?_
  | refine w_if ?_ | refine w_ifE ?_ | refine w_yes ?_ | refine w_no ?_ | refine w_rfl ?_ | refine w_tr ?_ | refine w_nyes ?_ | refine w_nno ?_ | refine w_T ?_ | refine w_F ?_ | refine w_nil ?_ | refine w_cons ?_ | refine w_cb ?_ | refine w_call ?_ | refine w_lst ?_ | refine w_tup ?_
  | refine w_I0 ?_ | refine w_U ?_ | refine w_int ?_ | refine w_intB ?_ | refine w_abs ?_ | refine w_raise1 ?_ | refine w_sub ?_ | refine w_gcons ?_ | refine w_gnil ?_ | refine w_par ?_ | refine w_chain ?_ | refine w_callNB ?_)
local macro_rules | `(tactic| walk_at "fwv") => `(tactic| first
  | ((with_reducible refine' w_var ?e ?_); (case e => rfl))
  | ((with_reducible refine' w_I ?e ?_); (case e => walk_at "side"))
  | ((with_reducible refine' w_ixL ?s ?e ?_); (case s => walk_at "sq"); (case e => rfl))
  | ((with_reducible refine' w_lenL ?s ?_); (case s => walk_at "sq"); try simp only [List.length_map, List.length_cons, List.length_nil])
  | ((with_reducible refine' w_setL ?e ?f ?_); (case e => walk_at "hp"); (case f => rfl); try simp only [Int.reduceToNat, List.set_cons_zero, List.set_cons_succ, upd_upd])
  | ((with_reducible refine' w_gtup ?s ?l ?_); (case s => walk_at "sq"); (case l => rfl))
  | ((with_reducible refine' w_eq ?e ?_); (case e => rfl))
  | ((with_reducible refine' w_ne ?e ?_); (case e => rfl))
  | ((with_reducible refine' w_mk1 ?o ?n ?_); (case o => apply Exn.oex; assumption); (case n => apply Exn.no; assumption); intro _ _)
  | ((with_reducible refine w_dnew ?_); intro _ _)
  | ((with_reducible refine' w_inT (ss := ?ss) ?s ?_); (case s => walk_at "sqs"))
  | ((with_reducible refine' w_notInT (ss := ?ss) ?s ?_); (case s => walk_at "sqs"))
  | ((with_reducible refine' w_inX ?s ?f ?g ?_); (case s => walk_at "sqs"); (case f => rfl); (case g => rfl))
  | ((with_reducible refine' w_isIntA ?k ?_); (case k => walk_at "kn"))
  | ((with_reducible refine' w_isBlA ?k ?_); (case k => walk_at "kn"))
  | ((with_reducible refine' w_isStrA ?k ?_); (case k => walk_at "kn"))
  | ((with_reducible refine w_par2 ?_); simp only [List.set_cons_zero, List.set_cons_succ])
  | ((with_reducible refine w_name ?_); simp only [List.set_cons_zero, List.set_cons_succ]))
local macro_rules | `(tactic| walk_at "size") => `(tactic| first | (show _ ≤ sizeLine; decide) | (simp only [List.length_cons, List.length_nil]; decide))
local macro_rules | `(tactic| walk_at "mk") => `(tactic| ((with_reducible refine' w_made ?n ?_); (case n => walk_at "size"); intro _ _))
local macro_rules | `(tactic| walk_at "ev") => `(tactic| simp only [reduceCtorEq, V.int.injEq, V.bl.injEq, V.str.injEq, V.ref.injEq, List.append_nil, List.cons_append, List.nil_append, decide_true, decide_false, Bool.not_true, Bool.not_false])
local macro_rules | `(tactic| walk_at "go") => `(tactic| repeat (first | walk_at "fw" | walk_at "fwv" | walk_at "mk" | (dsimp only) | walk_at "ev"))
local macro_rules | `(tactic| walk_at "br") => `(tactic| first | refine w_iteN (fun _ => ?_) (fun _ => ?_) | refine w_iteD (fun _ => ?_) (fun _ => ?_) | refine w_ite (fun _ => ?_) (fun _ => ?_))
local macro_rules | `(tactic| walk_at "fork") => `(tactic| (first | refine w_iteN (fun hx => ?_) (fun hx => ?_) | refine w_iteD (fun hx => ?_) (fun hx => ?_) | refine w_ite (fun hx => ?_) (fun hx => ?_)) <;> first | (exact absurd hx (by decide +kernel)) | skip)
local macro_rules | `(tactic| walk_at "gr") => `(tactic| repeat' (first | exact Grow.refl _ | assumption | refine Grow.trans ?_ (Grow.new (by assumption))))

/-! ### the mathematics -/
def now1 (at_ late : Int) (k : Nat) (r : Row) : List Row := if (if (k : Int) < at_ then r.2 + 1 else r.2) ≤ late then [(r.1, if (k : Int) < at_ then r.2 + 1 else r.2)] else []
def handF (at_ late : Int) : Nat → List Row → List Row
  | _, [] => []
  | k, r :: rs => now1 at_ late k r ++ handF at_ late (k + 1) rs
theorem handF_snoc (at_ late : Int) (r : Row) : ∀ (rs : List Row) (k : Nat), handF at_ late k (rs ++ [r]) = handF at_ late k rs ++ now1 at_ late (k + rs.length) r
  | [], k => by simp [handF]
  | x :: rs, k => by
    rw [List.cons_append, handF, handF_snoc at_ late r rs (k + 1), handF, List.append_assoc, List.length_cons]
    rw [show k + 1 + rs.length = k + (rs.length + 1) by omega]
theorem handF_eq (s : Int) : ∀ (rs : List Row) (k p : Nat), (∀ r ∈ rs, r.2 ≤ s) → handF ((k : Int) + p) s k rs = handed rs p s
  | [], k, p, _ => by unfold handed; simp [handF]
  | r :: rs, k, p, h => by
    have hr := h r (List.mem_cons_self ..)
    have h' : ∀ z ∈ rs, z.2 ≤ s := fun z hz => h z (List.mem_cons_of_mem _ hz)
    rw [handF]
    cases p with
    | zero =>
      have ih := handF_eq s rs (k + 1) 0 h'
      unfold now1
      rw [if_neg (show ¬ ((k : Int) < (k : Int) + (0 : Nat)) by omega), if_pos hr]
      have e2 : ∀ (xs : List Row) (j : Nat), (∀ z ∈ xs, z.2 ≤ s) → k < j → handF ((k : Int) + (0 : Nat)) s j xs = xs := by
        intro xs
        induction xs with
        | nil => intro j _ _; rfl
        | cons z zs ihz =>
          intro j hz hj
          rw [handF, ihz (j + 1) (fun y hy => hz y (List.mem_cons_of_mem _ hy)) (by omega)]
          unfold now1
          rw [if_neg (show ¬ ((j : Int) < (k : Int) + (0 : Nat)) by omega), if_pos (hz z (List.mem_cons_self ..))]
          rfl
      rw [e2 rs (k + 1) h' (by omega)]
      unfold handed
      simp
    | succ p =>
      have ih := handF_eq s rs (k + 1) p h'
      rw [show ((k : Int) + ((p + 1 : Nat) : Int)) = ((k + 1 : Nat) : Int) + (p : Int) by omega, ih]
      unfold now1 handed
      rw [if_pos (show (k : Int) < ((k + 1 : Nat) : Int) + (p : Int) by omega), List.take_succ_cons, List.drop_succ_cons]
      by_cases hs : r.2 < s
      · rw [if_pos (by omega), List.filter_cons_of_pos (by simpa using hs)]; rfl
      · rw [if_neg (by omega), List.filter_cons_of_neg (by simpa using hs)]; rfl
theorem kt_app {H : Hp} {q p : Addr} {acc : List V} {o o' : HO} (d : H q = some (.lst acc)) (np : H p = none) : KT H (upd (upd H p o) q o') := fun b zs e => by
  rw [upd_ne (fun z => by rw [z, d] at e; cases e)]
  exact rd_new np e
def spHanded : Sp := fun vs H Q _ => ∃ (p : Addr) (at_ late : Int) (ys : List V) (rs : List Row), vs = [.ref p, .int at_, .int late] ∧ H p = some (.lst ys) ∧ RowsAt H ys rs ∧ ys.length ≤ 1000 ∧
  ∀ f zs H', Grow H H' → H f = none → H' f = some (.lst zs) → RowsAt H' zs (handF at_ late 0 rs) → Q (.ref f) H'
section
variable {P : Program} {w : World} {K : PySem.W.Frag} {mg : Str → Option Value} {base : Heap}
theorem ok__law_handed {f : Addr} {fd : FuncData} (T : TxtL P w K mg base) (F : Fun K "_law_handed" "_law_handed" s__law_handed f fd) : FnOk P w K mg base CX0 1 f fd ["_law_rows", "_law_at", "_law_late"] spHanded := by
  refine F.ok sc__law_handed (fun vs H Q E h => ?_) (fun cdv A outer s H vs Q E hr h => ?_)
  · obtain ⟨p, at_, late, ys, rs, rfl, _⟩ := h; rfl
  · obtain ⟨p, at_, late, ys, rs, rfl, hp, hrs, hl, k⟩ := h
    refine ⟨_, (pss_cons (ps_set (i := 3) sc__law_handed.nd rfl (Or.inl rfl) (pe_lst pa_nil))
 (pss_cons (ps_for PassesOwn.never rfl (pi_enum (by rfl) T.b_enumerate (pa_cons (pv 0) pa_nil)) (pg_tup (n := 2) rfl (pgs_cons (pg_name (i := 4) sc__law_handed.nd rfl (Or.inl rfl)) (pgs_cons (pg_tup (n := 2) rfl (pgs_cons (pg_name (i := 5) sc__law_handed.nd rfl (Or.inl rfl)) (pgs_cons (pg_name (i := 6) sc__law_handed.nd rfl (Or.inl rfl)) pgs_nil))) pgs_nil)))
 (pss_cons (ps_set (i := 7) sc__law_handed.nd rfl (Or.inl rfl) (pe_ifExp (pt_cmpR op_lt (pv 4) (pv 1) (nomark _)) (pe_op op_add (pv 6) pe_int) (pv 6)))
 (pss_one (ps_if (pt_cmpR op_le (pv 7) (pv 2) (nomark _))
 (pss_one (ps_expr (pe_bm PySem.F.plainAttrs_list PySem.F.slot_list_append PySem.F.type_list_append mt_append (pv 3) (pa_cons (pe_tup (pa_cons (pv 5) (pa_cons (pv 7) pa_nil))) pa_nil))))
 pss_nil))))
 (pss_one (ps_ret (pv 3))))), ?_⟩
    rw [show L2.start N__law_handed [(V.ref p), (V.int at_), (V.int late)] = [some (V.ref p), some (V.int at_), some (V.int late), none, none, none, none, none] from rfl]; try dsimp only [cxOf]
    walk_at "go"
    rename_i q nq
    have g0 : Grow H (upd H q (.lst [])) := Grow.new nq
    have q0 : upd H q (.lst []) q = some (.lst []) := upd_same
    generalize upd H q (.lst []) = H1 at g0 q0 ⊢
    unfold tFor iEnum
    walk_at "go"
    refine ⟨p, ys, rfl, SqL.of (g0 _ _ hp), for_it (D := { nx := fun σ H => tRet (tVar 3) { nx := fun _ H' => Q V.non H', rt := Q } σ H, rt := Q }) (walk_enum (xs := ys))
      (fun j σ H' => ∃ s4 s5 s6 s7 acc, σ = [some (.ref p), some (.int at_), some (.int late), some (.ref q), s4, s5, s6, s7] ∧ H' q = some (.lst acc) ∧ acc.length ≤ j ∧ RowsAt H' acc (handF at_ late 0 (rs.take j)) ∧ Grow H H') ?_ ?_ ?_ ?_⟩
    · exact ⟨_, _, _, _, [], rfl, q0, by simp, .nil, g0⟩
    · intro j σ H2 _ h
      obtain ⟨_, _, _, _, _, _, _, _, _, g2⟩ := h
      exact SqL.of (g2 _ _ hp)
    · intro j v σ H2 H3 hj h hy
      obtain ⟨s4, s5, s6, s7, acc, rfl, d1, d2, d3, g2⟩ := h
      obtain ⟨T', x, y, rfl, nT, rfl, ex, ey⟩ := hy
      cases ex
      obtain ⟨⟨t, n⟩, er, ⟨pt, u, rfl, hpt, hu⟩⟩ := hrs.get j y ey
      have hjl : (rs.take j).length = j := by rw [List.length_take, ← hrs.len]; omega
      have er' : handF at_ late 0 (rs.take (j + 1)) = handF at_ late 0 (rs.take j) ++ now1 at_ late j (t, n) := by
        rw [List.take_succ, er]
        show handF at_ late 0 (rs.take j ++ [(t, n)]) = _
        rw [handF_snoc, hjl, Nat.zero_add]
      have gT := Grow.new nT (o := .tup [.int (j : Nat), .ref pt])
      have g3 := g2.trans gT
      have d1' := gT _ _ d1
      refine w_gtup (n := 2) (SqT.of upd_same) rfl ?_
      walk_at "go"
      generalize upd H2 T' (.tup [.int (j : Nat), .ref pt]) = H3 at gT g3 d1' ⊢
      have d3' := (KT.grow gT).rows d3
      have ktH := KT.grow g3
      refine w_iteD (fun h1 => ?wa) (fun h1 => ?wb)
      case' wa =>
        walk_at "go"
        refine w_iteD (fun h2 => ?ay) (fun h2 => ?an)
        case' ay => have en : now1 at_ late j (t, n) = [(t, n + 1)] := by unfold now1; rw [if_pos h1, if_pos h2]
        case' an => have en : now1 at_ late j (t, n) = [] := by unfold now1; rw [if_pos h1, if_neg h2]
      case' wb =>
        walk_at "go"
        refine w_iteD (fun h2 => ?by') (fun h2 => ?bn)
        case' by' => have en : now1 at_ late j (t, n) = [(t, n)] := by unfold now1; rw [if_neg h1, if_pos h2]
        case' bn => have en : now1 at_ late j (t, n) = [] := by unfold now1; rw [if_neg h1, if_neg h2]
      case an | bn =>
        walk_at "go"
        refine ⟨_, _, _, _, acc, rfl, d1', by omega, ?_, g3⟩
        rw [er', en, List.append_nil]
        exact d3'
      all_goals
        walk_at "go"
        refine ⟨.ref q, rfl, .inl ⟨rfl, _, SqL.of d1'⟩, ?_⟩
        walk_at "go"
        rename_i p2 np2
        refine ⟨q, acc, .ref p2, rfl, rfl, rd_new np2 d1', by rw [sizeLine_eq]; omega, ?_⟩
        walk_at "go"
        have qp : q ≠ p2 := ne_of_none d1' np2
        refine ⟨_, _, _, _, acc ++ [.ref p2], rfl, upd_same, by rw [List.length_append]; simp; omega, ?_, fun b o e => ?_⟩
        · rw [er', en]
          refine ((kt_app d1' np2).rows d3').app (.cons ⟨p2, u, rfl, ?_, (KT.trans ktH (kt_app d1' np2)).ltr hu⟩ .nil)
          rw [upd_ne (Ne.symm qp)]; exact upd_same
        · rw [upd_ne (ne_of_none e nq)]
          exact rd_new np2 (g3 _ _ e)
    · intro σ H2 h
      obtain ⟨s4, s5, s6, s7, acc, rfl, d1, d2, d3, g2⟩ := h
      walk_at "go"
      rw [List.take_of_length_le (by rw [hrs.len]; exact Nat.le_refl _)] at d3
      exact k q acc _ g2 nq d1 d3
theorem c__law_handed (T : TxtL P w K mg base) : Can P w K mg base CX0 1 "_law_handed" ["_law_rows", "_law_at", "_law_late"] spHanded := T.d__law_handed.can fun f fd F => ok__law_handed T F
end
end K42

set_option maxRecDepth 100000
set_option maxHeartbeats 4000000
namespace K42
open PySem L2 FW PyProof.Rows
local macro_rules | `(tactic| walk_at "side") => `(tactic| first
  | omega
  | exact ⟨by omega, by omega⟩
  | exact Or.inl ⟨by omega, by omega⟩
  | exact Or.inr ⟨by omega, by omega⟩
  | exact ⟨by omega, by omega, by omega⟩
  | exact ⟨by decide, by decide, by decide⟩
  | (refine mix2 ?_ ?_ ?_ ?_ ?_ ?_ ?_ ?_ ?_ ?_ <;> omega))
local macro_rules | `(tactic| walk_at "hp") => `(tactic| first
  | assumption | exact upd_same
  | (refine' rd_new ?n ?q; (case n => assumption); (case q => walk_at "hp"))
  | (refine' rd_ne ?n ?q; (case n => first | assumption | (apply Ne.symm; assumption)); (case q => walk_at "hp")))
local macro_rules | `(tactic| walk_at "sq") => `(tactic| first
  | assumption
  | (with_reducible apply SqL.of; walk_at "hp") | (with_reducible apply SqT.of; walk_at "hp")
  | ((with_reducible refine' sqL_new ?n ?q); (case n => assumption); (case q => walk_at "sq"))
  | ((with_reducible refine' sqT_new ?n ?q); (case n => assumption); (case q => walk_at "sq"))
  | ((with_reducible refine' sqL_ne ?n ?q); (case n => first | assumption | (apply Ne.symm; assumption)); (case q => walk_at "sq"))
  | ((with_reducible refine' sqT_ne ?n ?q); (case n => first | assumption | (apply Ne.symm; assumption)); (case q => walk_at "sq"))
  | ((with_reducible refine' Ext.sqL ?e ?n ?q); (case e => assumption); (case n => first | assumption | (apply Ne.symm; assumption)); (case q => walk_at "sq"))
  | ((with_reducible refine' Ext.sqT ?e ?n ?q); (case e => assumption); (case n => first | assumption | (apply Ne.symm; assumption)); (case q => walk_at "sq"))
  | ((with_reducible refine' Grow.sqL ?e ?q); (case e => assumption); (case q => walk_at "sq"))
  | ((with_reducible refine' Grow.sqT ?e ?q); (case e => assumption); (case q => walk_at "sq")))
local macro_rules | `(tactic| walk_at "sqs") => `(tactic| first | assumption | (exact ‹∀ H, SqT _ H _ _› _) | (apply SqT.of; walk_at "hp"))
local macro_rules | `(tactic| walk_at "kn") => `(tactic| first | assumption | exact True.intro)
local macro_rules | `(tactic| walk_at "fw") => `(tactic| with_reducible first
  | refine w_seq ?_ | refine w_asg ?_ | refine w_ret ?_ | refine w_drop ?_ | refine w_next ?_ | refine w_c ?_ | refine w_op ?_ | refine w_un ?_
  | refine w_test ?_ | refine w_B ?_ | refine w_bl ?_ | refine w_not ?_ | refine w_and ?_ | refine w_or ?_ | refine w_andV ?_ | refine w_orV ?_ | refine w_notV ?_
  | refine w_if ?_ | refine w_ifE ?_ | refine w_yes ?_ | refine w_no ?_ | refine w_rfl ?_ | refine w_tr ?_ | refine w_nyes ?_ | refine w_nno ?_ | refine w_T ?_ | refine w_F ?_ | refine w_nil ?_ | refine w_cons ?_ | refine w_cb ?_ | refine w_call ?_ | refine w_lst ?_ | refine w_tup ?_
  | refine w_I0 ?_ | refine w_U ?_ | refine w_int ?_ | refine w_intB ?_ | refine w_abs ?_ | refine w_raise1 ?_ | refine w_sub ?_ | refine w_gcons ?_ | refine w_gnil ?_ | refine w_par ?_ | refine w_chain ?_ | refine w_callNB ?_)
local macro_rules | `(tactic| walk_at "fwv") => `(tactic| first
  | ((with_reducible refine' w_var ?e ?_); (case e => rfl))
  | ((with_reducible refine' w_I ?e ?_); (case e => walk_at "side"))
  | ((with_reducible refine' w_ixL ?s ?e ?_); (case s => walk_at "sq"); (case e => rfl))
  | ((with_reducible refine' w_lenL ?s ?_); (case s => walk_at "sq"); try simp only [List.length_map, List.length_cons, List.length_nil])
  | ((with_reducible refine' w_setL ?e ?f ?_); (case e => walk_at "hp"); (case f => rfl); try simp only [Int.reduceToNat, List.set_cons_zero, List.set_cons_succ, upd_upd])
  | ((with_reducible refine' w_gtup ?s ?l ?_); (case s => walk_at "sq"); (case l => rfl))
  | ((with_reducible refine' w_eq ?e ?_); (case e => rfl))
  | ((with_reducible refine' w_ne ?e ?_); (case e => rfl))
  | ((with_reducible refine' w_mk1 ?o ?n ?_); (case o => apply Exn.oex; assumption); (case n => apply Exn.no; assumption); intro _ _)
  | ((with_reducible refine w_dnew ?_); intro _ _)
  | ((with_reducible refine' w_inT (ss := ?ss) ?s ?_); (case s => walk_at "sqs"))
  | ((with_reducible refine' w_notInT (ss := ?ss) ?s ?_); (case s => walk_at "sqs"))
  | ((with_reducible refine' w_inX ?s ?f ?g ?_); (case s => walk_at "sqs"); (case f => rfl); (case g => rfl))
  | ((with_reducible refine' w_isIntA ?k ?_); (case k => walk_at "kn"))
  | ((with_reducible refine' w_isBlA ?k ?_); (case k => walk_at "kn"))
  | ((with_reducible refine' w_isStrA ?k ?_); (case k => walk_at "kn"))
  | ((with_reducible refine w_par2 ?_); simp only [List.set_cons_zero, List.set_cons_succ])
  | ((with_reducible refine w_name ?_); simp only [List.set_cons_zero, List.set_cons_succ]))
local macro_rules | `(tactic| walk_at "size") => `(tactic| first | (show _ ≤ sizeLine; decide) | (simp only [List.length_cons, List.length_nil]; decide))
local macro_rules | `(tactic| walk_at "mk") => `(tactic| ((with_reducible refine' w_made ?n ?_); (case n => walk_at "size"); intro _ _))
local macro_rules | `(tactic| walk_at "ev") => `(tactic| simp only [reduceCtorEq, V.int.injEq, V.bl.injEq, V.str.injEq, V.ref.injEq, List.append_nil, List.cons_append, List.nil_append, decide_true, decide_false, Bool.not_true, Bool.not_false])
local macro_rules | `(tactic| walk_at "go") => `(tactic| repeat (first | walk_at "fw" | walk_at "fwv" | walk_at "mk" | (dsimp only) | walk_at "ev"))
local macro_rules | `(tactic| walk_at "br") => `(tactic| first | refine w_iteN (fun _ => ?_) (fun _ => ?_) | refine w_iteD (fun _ => ?_) (fun _ => ?_) | refine w_ite (fun _ => ?_) (fun _ => ?_))
local macro_rules | `(tactic| walk_at "fork") => `(tactic| (first | refine w_iteN (fun hx => ?_) (fun hx => ?_) | refine w_iteD (fun hx => ?_) (fun hx => ?_) | refine w_ite (fun hx => ?_) (fun hx => ?_)) <;> first | (exact absurd hx (by decide +kernel)) | skip)
local macro_rules | `(tactic| walk_at "gr") => `(tactic| repeat' (first | exact Grow.refl _ | assumption | refine Grow.trans ?_ (Grow.new (by assumption))))

section
variable {P : Program} {w : World} {K : PySem.W.Frag} {mg : Str → Option Value} {base : Heap}
def TTheard (C : Addr) : (XK → Hp → VK → Prop) → Hp → VK → Prop := fun tl H Q => ∀ (E' : XK) (Q' : VK), (∀ v H', Q .non H' → Q' v H') →
  (∀ d p H', H' d = some (.xd [("part", .str p)]) → (∀ H2, Grow H' H2 → Q (.str p) H2) → E' (.ref C) (some d) H') → tl E' H Q'
theorem heard_gives {X : Cx} (T : TxtL X.prog X.w X.K X.mg X.base) {g : Addr} {cdg : Value} {q : Str} :
    LamX.GivesTo X N__law_heard "_law_heard" (defScope s__law_heard) g cdg (defBody s__law_heard) "_law_ask" q (TTheard T.cBadNumber) := by
  intro f c' s H Q tl act hc h
  refine ⟨_, (pss_cons (ps_set (i := 1) sc__law_heard.nd rfl (Or.inl rfl) pe_non)
 (pss_cons (ps_try_keepE (i := 2) (j := 1) (c := .ref T.cBadNumber) (te := tXt X.K "part" (tVar 2)) (tb := fun W D σ H => ∃ Ech : XK, (∀ cls d σ' H', Ech cls d H' → W cls d σ' H') ∧ σ[0]? = some (some (.ref f)) ∧ H c' = some (LamX.CodeO c' q) ∧ tl Ech H fun _ H' => D.nx σ H') rfl rfl sc__law_heard.nd rfl rfl rfl rfl (by decide) ⟨rfl, by decide, .inl T.x_BadNumber.gC⟩ (fun W pn xe tk _ => ⟨fun pins s' σ H' D I ⟨Ech, hW, h1, h2, h3⟩ => (pss_one (ps_expr (act W pn xe Ech _ _ tk hW))).run pins s' σ H' D I ⟨h1, h2, h3⟩⟩) (fun _ _ => pe_xt (pv 2)))
 (pss_one (ps_ret (pv 1))))), ?_⟩
  rw [show L2.start N__law_heard [(V.ref f)] = [some (.ref f), none, none] from rfl]; try dsimp only [cxOf]
  walk_at "go"
  refine ⟨by simp, fun cls d H' => cls = .ref T.cBadNumber ∧ ∃ dd p, d = some dd ∧ H' dd = some (.xd [("part", .str p)]) ∧ ∀ H2, Grow H' H2 → Q (.str p) H2, ?_, rfl, hc, ?_⟩
  · intro cls d σ' H' hx
    obtain ⟨rfl, dd, p, rfl, hdd, hq⟩ := hx
    refine ⟨T.e_BadNumber, fun a na hl => ?_⟩
    obtain ⟨x0, x1, x2, rfl⟩ : ∃ x0 x1 x2, σ' = [x0, x1, x2] := by
      match σ', hl with
      | [x0, x1, x2], _ => exact ⟨x0, x1, x2, rfl⟩
    have nda : dd ≠ a := ne_of_none hdd na
    have xN := T.x_BadNumber
    refine ⟨.ref a, rfl, a, T.cBadNumber, dd, _, _, rfl, upd_same, by rw [upd_ne nda]; exact hdd, xN.xf, xN.no, rfl, ?_⟩
    walk_at "go"
    exact hq _ (Grow.new na)
  · refine h _ _ (fun v H' hq => ?_) (fun d p H' e hq => ⟨rfl, d, p, rfl, e, hq⟩)
    walk_at "go"
    exact hq
end
end K42

set_option maxRecDepth 100000
set_option maxHeartbeats 4000000
namespace K42
open PySem L2 FW PyProof.Rows
local macro_rules | `(tactic| walk_at "side") => `(tactic| first
  | omega
  | exact ⟨by omega, by omega⟩
  | exact Or.inl ⟨by omega, by omega⟩
  | exact Or.inr ⟨by omega, by omega⟩
  | exact ⟨by omega, by omega, by omega⟩
  | exact ⟨by decide, by decide, by decide⟩
  | (refine mix2 ?_ ?_ ?_ ?_ ?_ ?_ ?_ ?_ ?_ ?_ <;> omega))
local macro_rules | `(tactic| walk_at "hp") => `(tactic| first
  | assumption | exact upd_same
  | (refine' rd_new ?n ?q; (case n => assumption); (case q => walk_at "hp"))
  | (refine' rd_ne ?n ?q; (case n => first | assumption | (apply Ne.symm; assumption)); (case q => walk_at "hp")))
local macro_rules | `(tactic| walk_at "sq") => `(tactic| first
  | assumption
  | (with_reducible apply SqL.of; walk_at "hp") | (with_reducible apply SqT.of; walk_at "hp")
  | ((with_reducible refine' sqL_new ?n ?q); (case n => assumption); (case q => walk_at "sq"))
  | ((with_reducible refine' sqT_new ?n ?q); (case n => assumption); (case q => walk_at "sq"))
  | ((with_reducible refine' sqL_ne ?n ?q); (case n => first | assumption | (apply Ne.symm; assumption)); (case q => walk_at "sq"))
  | ((with_reducible refine' sqT_ne ?n ?q); (case n => first | assumption | (apply Ne.symm; assumption)); (case q => walk_at "sq"))
  | ((with_reducible refine' Ext.sqL ?e ?n ?q); (case e => assumption); (case n => first | assumption | (apply Ne.symm; assumption)); (case q => walk_at "sq"))
  | ((with_reducible refine' Ext.sqT ?e ?n ?q); (case e => assumption); (case n => first | assumption | (apply Ne.symm; assumption)); (case q => walk_at "sq"))
  | ((with_reducible refine' Grow.sqL ?e ?q); (case e => assumption); (case q => walk_at "sq"))
  | ((with_reducible refine' Grow.sqT ?e ?q); (case e => assumption); (case q => walk_at "sq")))
local macro_rules | `(tactic| walk_at "sqs") => `(tactic| first | assumption | (exact ‹∀ H, SqT _ H _ _› _) | (apply SqT.of; walk_at "hp"))
local macro_rules | `(tactic| walk_at "kn") => `(tactic| first | assumption | exact True.intro)
local macro_rules | `(tactic| walk_at "fw") => `(tactic| with_reducible first
  | refine w_seq ?_ | refine w_asg ?_ | refine w_ret ?_ | refine w_drop ?_ | refine w_next ?_ | refine w_c ?_ | refine w_op ?_ | refine w_un ?_
  | refine w_test ?_ | refine w_B ?_ | refine w_bl ?_ | refine w_not ?_ | refine w_and ?_ | refine w_or ?_ | refine w_andV ?_ | refine w_orV ?_ | refine w_notV ?_
  | refine w_if ?_ | refine w_ifE ?_ | refine w_yes ?_ | refine w_no ?_ | refine w_rfl ?_ | refine w_tr ?_ | refine w_nyes ?_ | refine w_nno ?_ | refine w_T ?_ | refine w_F ?_ | refine w_nil ?_ | refine w_cons ?_ | refine w_cb ?_ | refine w_call ?_ | refine w_lst ?_ | refine w_tup ?_
  | refine w_I0 ?_ | refine w_U ?_ | refine w_int ?_ | refine w_intB ?_ | refine w_abs ?_ | refine w_raise1 ?_ | refine w_sub ?_ | refine w_gcons ?_ | refine w_gnil ?_ | refine w_par ?_ | refine w_chain ?_ | refine w_callNB ?_)
local macro_rules | `(tactic| walk_at "fwv") => `(tactic| first
  | ((with_reducible refine' w_var ?e ?_); (case e => rfl))
  | ((with_reducible refine' w_I ?e ?_); (case e => walk_at "side"))
  | ((with_reducible refine' w_ixL ?s ?e ?_); (case s => walk_at "sq"); (case e => rfl))
  | ((with_reducible refine' w_lenL ?s ?_); (case s => walk_at "sq"); try simp only [List.length_map, List.length_cons, List.length_nil])
  | ((with_reducible refine' w_setL ?e ?f ?_); (case e => walk_at "hp"); (case f => rfl); try simp only [Int.reduceToNat, List.set_cons_zero, List.set_cons_succ, upd_upd])
  | ((with_reducible refine' w_gtup ?s ?l ?_); (case s => walk_at "sq"); (case l => rfl))
  | ((with_reducible refine' w_eq ?e ?_); (case e => rfl))
  | ((with_reducible refine' w_ne ?e ?_); (case e => rfl))
  | ((with_reducible refine' w_mk1 ?o ?n ?_); (case o => apply Exn.oex; assumption); (case n => apply Exn.no; assumption); intro _ _)
  | ((with_reducible refine w_dnew ?_); intro _ _)
  | ((with_reducible refine' w_inT (ss := ?ss) ?s ?_); (case s => walk_at "sqs"))
  | ((with_reducible refine' w_notInT (ss := ?ss) ?s ?_); (case s => walk_at "sqs"))
  | ((with_reducible refine' w_inX ?s ?f ?g ?_); (case s => walk_at "sqs"); (case f => rfl); (case g => rfl))
  | ((with_reducible refine' w_isIntA ?k ?_); (case k => walk_at "kn"))
  | ((with_reducible refine' w_isBlA ?k ?_); (case k => walk_at "kn"))
  | ((with_reducible refine' w_isStrA ?k ?_); (case k => walk_at "kn"))
  | ((with_reducible refine w_par2 ?_); simp only [List.set_cons_zero, List.set_cons_succ])
  | ((with_reducible refine w_name ?_); simp only [List.set_cons_zero, List.set_cons_succ]))
local macro_rules | `(tactic| walk_at "size") => `(tactic| first | (show _ ≤ sizeLine; decide) | (simp only [List.length_cons, List.length_nil]; decide))
local macro_rules | `(tactic| walk_at "mk") => `(tactic| ((with_reducible refine' w_made ?n ?_); (case n => walk_at "size"); intro _ _))
local macro_rules | `(tactic| walk_at "ev") => `(tactic| simp only [reduceCtorEq, V.int.injEq, V.bl.injEq, V.str.injEq, V.ref.injEq, List.append_nil, List.cons_append, List.nil_append, decide_true, decide_false, Bool.not_true, Bool.not_false])
local macro_rules | `(tactic| walk_at "go") => `(tactic| repeat (first | walk_at "fw" | walk_at "fwv" | walk_at "mk" | (dsimp only) | walk_at "ev"))
local macro_rules | `(tactic| walk_at "br") => `(tactic| first | refine w_iteN (fun _ => ?_) (fun _ => ?_) | refine w_iteD (fun _ => ?_) (fun _ => ?_) | refine w_ite (fun _ => ?_) (fun _ => ?_))
local macro_rules | `(tactic| walk_at "fork") => `(tactic| (first | refine w_iteN (fun hx => ?_) (fun hx => ?_) | refine w_iteD (fun hx => ?_) (fun hx => ?_) | refine w_ite (fun hx => ?_) (fun hx => ?_)) <;> first | (exact absurd hx (by decide +kernel)) | skip)
local macro_rules | `(tactic| walk_at "gr") => `(tactic| repeat' (first | exact Grow.refl _ | assumption | refine Grow.trans ?_ (Grow.new (by assumption))))

/-! ### rows as the law makes them -/
def Good (late : Int) (rs : List Row) : Prop := ∀ r ∈ rs, Sh r.1.1 ∧ Sh r.1.2.1 ∧ Sh r.1.2.2 ∧ 0 ≤ r.2 ∧ r.2 ≤ late
theorem good_handed {late : Int} {rs : List Row} (h : Good late rs) (p : Nat) : Good late (handed rs p late) := by
  intro r hr
  unfold handed at hr
  rcases List.mem_append.mp hr with hr | hr
  · obtain ⟨z, hz, rfl⟩ := List.mem_map.mp hr
    obtain ⟨h1, h2⟩ := List.mem_filter.mp hz
    have g := h z (List.mem_of_mem_take h1)
    simp at h2
    exact ⟨g.1, g.2.1, g.2.2.1, by show 0 ≤ z.2 + 1; omega, by show z.2 + 1 ≤ late; omega⟩
  · exact h r (List.mem_of_mem_drop hr)
theorem len_handed (rs : List Row) (p : Nat) (s : Int) : (handed rs p s).length ≤ rs.length := by
  unfold handed
  rw [List.length_append, List.length_map]
  have := List.length_filter_le (fun r : Row => decide (r.2 < s)) (rs.take p)
  rw [List.length_take] at this
  rw [List.length_drop]
  omega
theorem good_erase {late : Int} {rs : List Row} (h : Good late rs) (p : Nat) : Good late (rs.eraseIdx p) := fun r hr => h r (List.mem_of_mem_eraseIdx hr)
def dLtr (t : Ltr) : PyData := .tuple [.int t.1, .int t.2.1, .int t.2.2]
theorem sh_log {a : Int} (h : Sh a) : a.natAbs.log2 < 1920 := Nat.lt_trans (log2_lt (k := 33) (by unfold Sh at h; omega) (by decide)) (by decide)
theorem dp_ltr {K : PySem.W.Frag} {H : Hp} {l : Addr} {t : Ltr} (h : H l = some (.tup [.int t.1, .int t.2.1, .int t.2.2])) : Dp K H (.ref l) (dLtr t) := .tup (SqT.of h) (.cons (.int _) (.cons (.int _) (.cons (.int _) .nil)))
theorem ltr_len {t : Ltr} (h : Sh t.1 ∧ Sh t.2.1 ∧ Sh t.2.2) : (dLtr t).shown.length ≤ 5800 := by
  show (tupleText (PyData.shownAll [.int t.1, .int t.2.1, .int t.2.2])).length ≤ _
  have z := tuple_le (b := 1921) (ts := PyData.shownAll [.int t.1, .int t.2.1, .int t.2.2]) (fun x hx => by
    simp only [PyData.shownAll, List.mem_cons, List.not_mem_nil, or_false] at hx
    rcases hx with rfl | rfl | rfl
    · exact int_text_len_1921 (sh_log h.1)
    · exact int_text_len_1921 (sh_log h.2.1)
    · exact int_text_len_1921 (sh_log h.2.2))
  have e : (PyData.shownAll [.int t.1, .int t.2.1, .int t.2.2]).length = 3 := rfl
  rw [e] at z
  omega
theorem ltr_show {t : Ltr} (h : Sh t.1 ∧ Sh t.2.1 ∧ Sh t.2.2) : (dLtr t).showable = true := by
  show (decide _ && (decide _ && (decide _ && true))) = true
  rw [decide_eq_true (sh_log h.1), decide_eq_true (sh_log h.2.1), decide_eq_true (sh_log h.2.2)]; rfl
theorem w_showL {K : PySem.W.Frag} {H : Hp} {Q : VK} {v : V} {t : Ltr} (hv : LtrAt H v t) (h : Sh t.1 ∧ Sh t.2.1 ∧ Sh t.2.2) (q : Q (.str (dLtr t).shown) H) : rShowA K [v] H Q := by
  obtain ⟨l, rfl, hl⟩ := hv
  exact .inl (.inr ⟨l, dLtr t, rfl, dp_ltr hl, ltr_show h, rfl, by simp [dLtr, PyData.depth, PyData.depthAll], by rw [sizeLine_eq]; have := ltr_len h; omega, q⟩)
structure Here (K : PySem.W.Frag) (C : Addr) (T : List (Addr × Str)) (H0 : Hp) (c l x : Addr) (late : Int) (n : Nat) (q p : Addr) (rs ts : List Row) (H : Hp) : Prop where
  pen : Pen H0 c l n H
  tab : LamX.Tabs T H
  line : LineAt C H x late q
  xs : ∃ xs, H q = some (.lst xs) ∧ RowsAt H xs rs
  ys : ∃ ys, H p = some (.lst ys) ∧ RowsAt H ys ts
  pq : p ≠ q
  fx : H0 x = none
  fq : H0 q = none
  pc : p ≠ c
  good : Good late rs
section
variable {K : PySem.W.Frag} {C : Addr} {T : List (Addr × Str)} {H0 H H' : Hp} {c l x : Addr} {late : Int} {n n' : Nat} {q p : Addr} {rs ts : List Row} {cells : List Int}
theorem Here.ext_c (h : Here K C T H0 c l x late n q p rs ts H) (i : Ink K H0 c l cells) (pen : Pen H0 c l n' H') (e : Ext c H H') : Here K C T H0 c l x late n' q p rs ts H' := by
  obtain ⟨hpen, tab, ⟨dx, line⟩, ⟨xs, hq, rx⟩, ⟨ys, hp, ry⟩, pq, fx, fq, pc, good⟩ := h
  obtain ⟨rest, hc⟩ := hpen.cl
  have k : KT H H' := KT.ext e (fun zs z => by rw [hc] at z; cases z)
  exact ⟨pen, tabs_extAt tab hc nofun nofun e, ⟨dx, e _ _ (Ne.symm (i.ne' fx)) line⟩, ⟨xs, e _ _ (Ne.symm (i.ne' fq)) hq, k.rows rx⟩, ⟨ys, e _ _ pc hp, k.rows ry⟩, pq, fx, fq, pc, good⟩
theorem Here.grow (h : Here K C T H0 c l x late n q p rs ts H) (g : Grow H H') : Here K C T H0 c l x late n q p rs ts H' := by
  obtain ⟨hpen, tab, ⟨dx, line⟩, ⟨xs, hq, rx⟩, ⟨ys, hp, ry⟩, pq, fx, fq, pc, good⟩ := h
  exact ⟨hpen.grow g, tab.ext g, ⟨dx, g _ _ line⟩, ⟨xs, g _ _ hq, (KT.grow g).rows rx⟩, ⟨ys, g _ _ hp, (KT.grow g).rows ry⟩, pq, fx, fq, pc, good⟩
theorem Here.len (h : Here K C T H0 c l x late n q p rs ts H) {ys : List V} (e : H p = some (.lst ys)) : ys.length = ts.length := by
  obtain ⟨zs, e2, r⟩ := h.ys
  rw [e] at e2
  cases e2
  exact r.len
/-- the line's list is another one, at the same place -/
theorem Here.at_q (h : Here K C T H0 c l x late n q p rs ts H) (i : Ink K H0 c l cells) {us : List Row} {xs' : List V} (e : Ext q H H') (hq : H' q = some (.lst xs')) (r : RowsAt H' xs' us) (g : Good late us) : Here K C T H0 c l x late n q p us ts H' := by
  obtain ⟨hpen, tab, ⟨dx, line⟩, ⟨xs, hq0, rx⟩, ⟨ys, hp, ry⟩, pq, fx, fq, pc, good⟩ := h
  have k : KT H H' := KT.ext e (fun zs z => by rw [hq0] at z; cases z)
  exact ⟨hpen.at_new fq (i.ne' fq) e, tabs_extAt tab hq0 nofun nofun e, ⟨dx, e _ _ (fun z => by rw [z, hq0] at line; cases line) line⟩, ⟨xs', hq, r⟩, ⟨ys, e _ _ pq hp, k.rows ry⟩, pq, fx, fq, pc, g⟩
/-- another list is changed -/
theorem Here.at_l (h : Here K C T H0 c l x late n q p rs ts H) (i : Ink K H0 c l cells) {a : Addr} {zs : List V} {o : HO} (ha : H a = some (.lst zs)) (fa : H0 a = none) (aq : q ≠ a) (ap : p ≠ a) : Here K C T H0 c l x late n q p rs ts (upd H a o) := by
  obtain ⟨hpen, tab, ⟨dx, line⟩, ⟨xs, hq0, rx⟩, ⟨ys, hp, ry⟩, pq, fx, fq, pc, good⟩ := h
  have e : Ext a H (upd H a o) := Ext.upd
  have k : KT H (upd H a o) := KT.ext e (fun us z => by rw [ha] at z; cases z)
  exact ⟨hpen.at_new fa (i.ne' fa) e, tabs_extAt tab ha nofun nofun e, ⟨dx, e _ _ (fun z => by rw [z, ha] at line; cases line) line⟩, ⟨xs, e _ _ aq hq0, k.rows rx⟩, ⟨ys, e _ _ ap hp, k.rows ry⟩, pq, fx, fq, pc, good⟩
/-- the line has another list -/
theorem Here.at_x (h : Here K C T H0 c l x late n q p rs ts H) (i : Ink K H0 c l cells) {us : List Row} {xs' : List V} {q' : Addr} (e : Ext x H H') (ln : LineAt C H' x late q') (hq : H' q' = some (.lst xs')) (nq : H q' = none) (r : RowsAt H' xs' us) (g : Good late us) : Here K C T H0 c l x late n q' p us ts H' := by
  have fq' := h.pen.free i nq
  obtain ⟨hpen, tab, ⟨dx, line⟩, ⟨xs, hq0, rx⟩, ⟨ys, hp, ry⟩, pq, fx, fq, pc, good⟩ := h
  have k : KT H H' := KT.ext e (fun zs z => by rw [line] at z; cases z)
  exact ⟨hpen.at_new fx (i.ne' fx) e, tabs_extAt tab line nofun nofun e, ln, ⟨xs', hq, r⟩, ⟨ys, e _ _ (fun z => by rw [z, line] at hp; cases hp) hp, k.rows ry⟩, ne_of_none hp nq, fx, fq', pc, g⟩
/-- the rows are another list -/
theorem Here.at_p (h : Here K C T H0 c l x late n q p rs ts H) {us : List Row} {ys' : List V} {p' : Addr} (hp' : H p' = some (.lst ys')) (r : RowsAt H ys' us) (pq' : p' ≠ q) (pc' : p' ≠ c) : Here K C T H0 c l x late n q p' rs us H := by
  obtain ⟨hpen, tab, line, hx, hy, pq, fx, fq, pc, good⟩ := h
  exact ⟨hpen, tab, line, hx, ⟨ys', hp', r⟩, pq', fx, fq, pc', good⟩
end
theorem lcShort {K : PySem.W.Frag} {H0 : Hp} {c l : Addr} {cells : List Int} {te : TE} {i : Nat} {σ : L2.St} {H1 : Hp} {Qd : Addr → Hp → Prop} {n n0 : Nat} (hw : ∀ x, wipe ((wipe σ [i]).set i (some x)) [i] = wipe σ [i]) (hs : n < 1000) (hn0 : n0 < 980000) (ink : Ink K H0 c l cells)
    (hte : ∀ (x : V) (H : Hp) (R : VK), spShort K H0 c l cells [.ref c] H R E0 → te ((wipe σ [i]).set i (some x)) H R) (hp : Pen H0 c l n0 H1)
    (done : ∀ D H' (ns : List Int) (m : Nat), H1 D = none → H' D = some (.lst (ns.map V.int)) → ns.length = n → (∀ z ∈ ns, Sh z) → Pen H0 c l m H' → m ≤ n0 + 3 * n → Ext c H1 H' → Qd D H') (D : Addr) (nD : H1 D = none) :
    ∃ W : Nat → Nat → Hp → Prop, (∃ m, W 0 m (upd H1 D (.lst []))) ∧ ∀ j m H, W j m H →
      ((Itr 0 n).stop j H ∧ Qd D H) ∨ ((Itr 0 n).go j H ∧ ∃ Nx : Hp → Prop, (∀ H', Nx H' → ∃ m', m' < m ∧ W (j + 1) m' H') ∧ ∀ x H', (Itr 0 n).yld j H x H' → gName i x (wipe σ [i]) H' fun σ2 H2 => wipe σ2 [i] = wipe σ [i] ∧ tYes σ2 H2 fun b H3 =>
        if b = true then te σ2 H3 fun y H4 => ∃ acc, H4 D = some (.lst acc) ∧ acc.length < sizeLine ∧ Nx (upd H4 D (.lst (acc ++ [y]))) else Nx H3) := by
  have cD : D ≠ c := hp.ne nD
  have fD := hp.free ink nD
  refine lc_range (lo := 0) (n := n) (fun j H' => ∃ (ns : List Int) (m : Nat), H' D = some (.lst (ns.map V.int)) ∧ ns.length = j ∧ (∀ z ∈ ns, Sh z) ∧ Pen H0 c l m H' ∧ m ≤ n0 + 3 * j ∧ Ext c H1 H')
    ⟨[], n0, upd_same, rfl, (fun z hz => nomatch hz), hp.grow (Grow.new nD), by omega, Ext.new nD⟩ (fun j H' hj p => ?_) (fun H' p => ?_)
  · obtain ⟨ns, m, p1, p2, p3, p4, p5, p6⟩ := p
    refine ⟨hw _, ?_⟩
    unfold tYes
    refine w_yes (hte _ H' _ ⟨m, rfl, ink, p4, by omega, fun z m' H4 hz hm' pen' he' => ?_⟩)
    have hD4 := he' _ _ cD p1
    refine ⟨ns.map V.int, hD4, by rw [List.length_map, sizeLine_eq]; omega, ns ++ [z], m', ?_, ?_, ?_, pen'.at_new fD (ink.ne' fD) Ext.upd, by omega, ?_⟩
    · rw [upd_same, List.map_append]; rfl
    · rw [List.length_append]; simp [p2]
    · intro y hy
      rcases List.mem_append.mp hy with hy | hy
      · exact p3 y hy
      · rw [List.mem_singleton.mp hy]; exact hz
    · intro b o nb e
      rw [upd_ne (ne_of_none e nD)]
      exact he' _ _ nb (p6 _ _ nb e)
  · obtain ⟨ns, m, p1, p2, p3, p4, p5, p6⟩ := p
    exact done D H' ns m nD p1 p2 p3 p4 p5 p6
def spDeed (K : PySem.W.Frag) (C : Addr) (T : List (Addr × Str)) (H0 : Hp) (c l : Addr) (cells : List Int) : Sp := fun vs H Q _ => ∃ x p late n q rs, vs = [.ref c, .ref x, .ref p, .int late] ∧ Ink K H0 c l cells ∧ Here K C T H0 c l x late n q p rs rs H ∧ n < 900000 ∧ rs.length ≤ 90 ∧ 0 ≤ late ∧ late ≤ 8 ∧
  ∀ n' q' p' rs' H', n' ≤ n + 20 → rs'.length ≤ rs.length + 1 → Here K C T H0 c l x late n' q' p' rs' rs' H' → Q (.ref p') H'
section
variable {P : Program} {w : World} {K : PySem.W.Frag} {mg : Str → Option Value} {base : Heap} {H0 : Hp} {c l : Addr} {cells : List Int} {TB : List (Addr × Str)}
theorem w_send (T : Txt P w K mg base) : CanMW P w K mg base (L2.CX P w) 5 T.cLine "send" ["letter"] (fun vs zs => vs ++ zs) (spSend K T.cLine T.cBadNumber) := T.m_send.canW (fun f fd F => ok_send T F) (fun _ _ _ _ _ _ _ _ => rfl)
theorem w_hand (T : Txt P w K mg base) : CanMW P w K mg base (L2.CX P w) 4 T.cLine "hand" ["back"] (fun vs zs => vs ++ zs) (spHand K T.cLine T.cBadNumber) := T.m_hand.canW (fun f fd F => ok_hand T F) (fun _ _ _ _ _ _ _ _ => rfl)
theorem w_drop (T : Txt P w K mg base) : CanMW P w K mg base (L2.CX P w) 4 T.cLine "drop" ["back"] (fun vs zs => vs ++ zs) (spDel K T.cLine T.cBadNumber) := T.m_drop.canW (fun f fd F => ok_drop T F) (fun _ _ _ _ _ _ _ _ => rfl)
theorem ok__law_deed_right {f : Addr} {fd : FuncData} (T : TxtL P w K mg base) (F : Fun K "_law_deed_right" "_law_deed_right" s__law_deed_right f fd) : FnG P w K mg base CX0 6 f fd ["_law_urn_here", "_law_line", "_law_rows", "_law_late"] (spDeed K T.cLine TB H0 c l cells) := by
  refine fun_okG F sc__law_deed_right (fun vs H Q E h => ?_) (fun cdv A outer s H vs Q E hG hr oc od kV doc pm an ct osl lk h => ?_)
  · obtain ⟨x, p, late, n, q, rs, rfl, _⟩ := h; rfl
  · obtain ⟨x, p, late, n, q, rs, rfl, ink, here, hn, hl, l0, l8, k⟩ := h
    refine ⟨_, PSs.nox (pss_cons (ps_par (i := 4) (j := 5) rfl sc__law_deed_right.nd rfl rfl (by decide) rfl rfl (pa_cons (pe_can (E := E0) (c__law_lift T H0 c l cells) hr (by decide) pass0 rfl (pa_cons (pv 0) (pa_cons pe_int pa_nil))) (pa_cons (pe_can (E := E0) (c__law_one_of T H0 c l cells) hr (by decide) pass0 rfl (pa_cons (pv 0) (pa_cons (pe_lst (pa_cons pe_int (pa_cons pe_int (pa_cons pe_int (pa_cons pe_int (pa_cons (pe_can (E := E0) (c__law_lift T H0 c l cells) hr (by decide) pass0 rfl (pa_cons (pv 0) (pa_cons (pe_op op_add (pe_callB call_lenA (by rfl) T.b_len (by decide +kernel) (pa_cons (pv 2) pa_nil)) pe_int) pa_nil))) (pa_cons (pe_can (E := E0) (c__law_lift T H0 c l cells) hr (by decide) pass0 rfl (pa_cons (pv 0) (pa_cons pe_int pa_nil))) pa_nil))))))) pa_nil))) pa_nil)) (by rfl))
 (pss_cons (ps_set (i := 6) sc__law_deed_right.nd rfl (Or.inl rfl) (pe_op op_sub (pe_op op_sub (pe_callB call_lenA (by rfl) T.b_len (by decide +kernel) (pa_cons (pv 2) pa_nil)) pe_int) (pv 5)))
 (pss_cons (ps_if (pt_cmpR op_lt (pv 4) pe_int (nomark _))
 (pss_cons (ps_set (i := 7) sc__law_deed_right.nd rfl (Or.inl rfl) (pe_callTy call_tuple_of (by rfl) T.b_tuple (by decide +kernel) (pa_cons (pe_lc1 (x := "_law_number") (i := 10) (g := gName 10) (tt := tYes) rfl sc__law_deed_right.nd (pi_range1 (by rfl) T.b_range (pa_cons pe_int pa_nil)) (blkOk_by (N := N__law_deed_right) (sc := defScope s__law_deed_right) (by decide +kernel)) (fun _ _ _ _ _ => pg_name (i := 10) sc__law_deed_right.nd rfl (Or.inl rfl)) (fun _ _ _ _ _ => pts_nil) (fun _ _ _ _ _ => (pe_can (E := E0) (c__law_short T H0 c l cells) hr (by decide) pass0 rfl (pa_cons (pv 0) pa_nil)))) pa_nil)))
 (pss_cons (ps_set (i := 8) sc__law_deed_right.nd rfl (Or.inl rfl) (pe_callTy call_list_of (by rfl) T.b_list (by decide +kernel) (pa_cons (pv 7) pa_nil)))
 (pss_cons (ps_set (i := 9) sc__law_deed_right.nd rfl (Or.inl rfl) (pe_ifExp (pt_cmpR op_lt (pv 4) pe_int (nomark _)) (pe_methC (E := E0) T.cl_Line (m_send T.toTxt) hr (by decide) passL (pv 1) (pa_cons (pv 7) pa_nil)) (pe_methW (E := E0) T.cl_Line (w_send T.toTxt) hr (by decide) passL (pv 1) (pk_cons (pv 8) pk_nil))))
 (pss_cons (ps_asg pe_int (pg_sub (pv 8) pe_int set_list))
 (pss_one (ps_ret (pe_ifExp (pt_cmpR op_isN (pv 9) pe_non (nomark _)) (pe_op op_cat (pv 2) (pe_lst (pa_cons (pe_tup (pa_cons (pv 7) (pa_cons pe_int pa_nil))) pa_nil))) pe_non)))))))
 pss_nil)
 (pss_cons (ps_if (pt_cmpR op_lt (pv 4) pe_int (nomark _))
 (pss_cons (ps_set (i := 9) sc__law_deed_right.nd rfl (Or.inl rfl) (pe_ifExp (pt_cmpR op_lt (pv 4) pe_int (nomark _)) (pe_methC (E := E0) T.cl_Line (m_hand T.toTxt) hr (by decide) passL (pv 1) (pa_cons (pv 5) pa_nil)) (pe_methW (E := E0) T.cl_Line (w_hand T.toTxt) hr (by decide) passL (pv 1) (pk_cons (pv 5) pk_nil))))
 (pss_cons (ps_if (pt_cmpR op_lt (pv 6) pe_int (nomark _))
 (pss_one (ps_ret (pe_ifExp (pt_cmpR op_isN (pv 9) pe_non (nomark _)) (pv 2) pe_non)))
 pss_nil)
 (pss_one (ps_ret (pe_ifExp (pt_cmpR op_eq (pe_callB (call_showA hG hr.units) (by rfl) T.b_repr (by decide +kernel) (pa_cons (pv 9) pa_nil)) (pe_callB (call_showA hG hr.units) (by rfl) T.b_repr (by decide +kernel) (pa_cons (pe_ix ix_tup (pe_ix ix_list (pv 2) (pv 6) (fun _ _ => rfl)) pe_int (fun _ _ => rfl)) pa_nil)) (nomark _)) (pe_can (E := E0) (c__law_handed T) hr (by decide) pass0 rfl (pa_cons (pv 2) (pa_cons (pv 6) (pa_cons (pv 3) pa_nil)))) pe_non)))))
 pss_nil)
 (pss_cons (ps_set (i := 9) sc__law_deed_right.nd rfl (Or.inl rfl) (pe_ifExp (pt_cmpR op_eq (pe_can (E := E0) (c__law_lift T H0 c l cells) hr (by decide) pass0 rfl (pa_cons (pv 0) (pa_cons pe_int pa_nil))) pe_int (nomark _)) (pe_methC (E := E0) T.cl_Line (m_drop T.toTxt) hr (by decide) passL (pv 1) (pa_cons (pv 5) pa_nil)) (pe_methW (E := E0) T.cl_Line (w_drop T.toTxt) hr (by decide) passL (pv 1) (pk_cons (pv 5) pk_nil))))
 (pss_cons (ps_if (pt_cmpR op_ne (pe_callB (call_showA hG hr.units) (by rfl) T.b_repr (by decide +kernel) (pa_cons (pv 9) pa_nil)) (pe_callB (call_showA hG hr.units) (by rfl) T.b_repr (by decide +kernel) (pa_cons (pe_cmpR op_ge (pv 6) pe_int (nomark _)) pa_nil)) (nomark _))
 (pss_one (ps_ret pe_non))
 pss_nil)
 (pss_one (ps_ret (pe_ifExp (pt_cmpR op_ge (pv 6) pe_int (nomark _)) (pe_op op_cat (pe_slice sl_list (pv 2) po_none (po_some (pv 6))) (pe_slice sl_list (pv 2) (po_some (pe_op op_add (pv 6) pe_int)) po_none)) (pv 2)))))))))), ?_⟩
    rw [show L2.start N__law_deed_right [(V.ref c), (V.ref x), (V.ref p), (V.int late)] = [some (V.ref c), some (V.ref x), some (V.ref p), some (V.int late), none, none, none, none, none, none, none] from rfl]; try dsimp only [cxOf]
    walk_at "go"
    refine ⟨n, 9, rfl, ink, here.pen, by omega, by omega, by omega, fun way n1 H1 w0 w1 hn1 pen1 e1 => ?_⟩
    have h1 := here.ext_c ink pen1 e1
    obtain ⟨ys, hp1, ry1⟩ := h1.ys
    have yl := h1.len hp1
    walk_at "go"
    refine ⟨n1, (ys.length : Int) + 2, rfl, ink, pen1, by omega, by omega, by omega, fun b1 n2 H2 b10 b11 hn2 pen2 e2 => ?_⟩
    have h2 := h1.ext_c ink pen2 e2
    clear hp1 ry1
    walk_at "go"
    refine ⟨n2, 100, rfl, ink, pen2, by omega, by omega, by omega, fun b2 n3 H3 b20 b21 hn3 pen3 e3 => ?_⟩
    have h3 := h2.ext_c ink pen3 e3
    walk_at "go"
    rename_i p1 np1
    refine ⟨n3, p1, _, rfl, ink, pen3.grow (Grow.new np1), by omega, SqL.of upd_same, pen3.ne np1, by simp, by simp, fun v n4 H4 hv hn4 pen4 e4 => ?_⟩
    obtain ⟨b, rfl, b0, b9⟩ : ∃ b, v = .int b ∧ 0 ≤ b ∧ b ≤ 99 := by
      simp only [List.mem_cons, List.not_mem_nil, or_false] at hv
      rcases hv with rfl | rfl | rfl | rfl | rfl | rfl <;> exact ⟨_, rfl, by omega, by omega⟩
    have h4 := (h3.grow (Grow.new np1)).ext_c ink pen4 e4
    have nn : n4 ≤ n + 4 := by omega
    have k4 : ∀ n' q' p' rs' H', n' ≤ n4 + 10 → rs'.length ≤ rs.length + 1 → Here K T.cLine TB H0 c l x late n' q' p' rs' rs' H' → Q (.ref p') H' := fun n' q' p' rs' H' z => k n' q' p' rs' H' (by omega)
    clear hv e1 e2 e3 e4 h1 h2 h3 pen1 pen2 pen3 np1 b1 b10 b11 b2 b20 b21 here k yl ys
    obtain ⟨ys, hp4, ry4⟩ := h4.ys
    have yl := h4.len hp4
    walk_at "go"
    refine w_iteD (fun hw => ?_) (fun hw => ?_)
    · walk_at "go"
      refine ⟨3, rfl, by decide, by decide, ?_⟩
      refine lcShort (σ := [some (.ref c), some (.ref x), some (.ref p), some (.int late), some (.int way), some (.int b), some (.int ((ys.length : Int) - 1 - b)), none, none, none, none]) (i := 10) (n := 3) (n0 := n4) (by intro _; rfl) (by decide) (by omega) ink (fun y H R hy => by walk_at "go"; exact hy) h4.pen (fun D H5 ns n5 nD eD hnl hns pen5 hn5 e5 => ?_)
      have h5 := h4.ext_c ink pen5 e5
      clear h4 pen4 e5 nD hp4 ry4
      obtain ⟨a1, a2, a3, rfl⟩ : ∃ a1 a2 a3, ns = [a1, a2, a3] := by
        match ns, hnl with
        | [a1, a2, a3], _ => exact ⟨a1, a2, a3, rfl⟩
      have s1 : Sh a1 := hns _ (by simp)
      have s2 : Sh a2 := hns _ (by simp)
      have s3 : Sh a3 := hns _ (by simp)
      walk_at "go"
      refine ⟨D, _, rfl, .inl ⟨SqL.of eD, fun lt nlt => ?_⟩⟩
      have h6 := h5.grow (Grow.new nlt (o := .tup ([a1, a2, a3].map V.int)))
      have hlt : upd H5 lt (.tup ([a1, a2, a3].map V.int)) lt = some (.tup [.int a1, .int a2, .int a3]) := upd_same
      generalize upd H5 lt (.tup ([a1, a2, a3].map V.int)) = H6 at h6 hlt ⊢
      clear h5 eD nlt
      walk_at "go"
      refine ⟨lt, _, rfl, .inr (SqT.of hlt), fun pl npl => ?_⟩
      have h7 := h6.grow (Grow.new npl (o := .lst [.int a1, .int a2, .int a3]))
      have hl7 := rd_new npl hlt (o := .lst [.int a1, .int a2, .int a3])
      have hpl7 : upd H6 pl (.lst [.int a1, .int a2, .int a3]) pl = some (.lst [.int a1, .int a2, .int a3]) := upd_same
      have fpl : H0 pl = none := h6.pen.free ink npl
      have qpl : q ≠ pl := by obtain ⟨zs, z, _⟩ := h6.xs; exact ne_of_none z npl
      have ppl : p ≠ pl := by obtain ⟨zs, z, _⟩ := h6.ys; exact ne_of_none z npl
      generalize upd H6 pl (.lst [.int a1, .int a2, .int a3]) = H7 at h7 hl7 hpl7 ⊢
      clear h6 hlt npl
      obtain ⟨dx, hx⟩ := h7.line
      obtain ⟨xs, hq, rx⟩ := h7.xs
      have xl : xs.length = rs.length := rx.len
      have ltq : lt ≠ q := fun z => by rw [z, hq] at hl7; cases hl7
      have gd : Good late (rs ++ [((a1, a2, a3), 0)]) := fun r hr => by
        rcases List.mem_append.mp hr with hr | hr
        · exact h7.good r hr
        · rw [List.mem_singleton.mp hr]; exact ⟨s1, s2, s3, by show (0 : Int) ≤ 0; omega, by show (0 : Int) ≤ late; omega⟩
      walk_at "go"
      refine w_iteD (fun hs => ?sa) (fun hs => ?sb)
      case' sa =>
        walk_at "go"
        refine ⟨.ref x, rfl, x, dx, _, rfl, hx, rfl, ?_⟩
        walk_at "go"
        refine ⟨x, late, q, xs, .ref lt, rfl, ⟨dx, hx⟩, hq, by omega, .inl ⟨(a1, a2, a3), ⟨lt, rfl, .inr hl7, s1, s2, s3⟩, fun z => ltq (V.ref.inj z), fun y H8 ry hq8 e8 => ?_⟩⟩
      case' sb =>
        walk_at "go"
        refine ⟨.ref x, rfl, x, dx, _, rfl, hx, rfl, ?_⟩
        walk_at "go"
        refine ⟨rfl, x, late, q, xs, .ref pl, rfl, ⟨dx, hx⟩, hq, by omega, .inl ⟨(a1, a2, a3), ⟨pl, rfl, .inl hpl7, s1, s2, s3⟩, fun z => qpl (V.ref.inj z).symm, fun y H8 ry hq8 e8 => ?_⟩⟩
      all_goals
        have kt : KT H7 H8 := KT.ext e8 (fun zs z => by rw [hq] at z; cases z)
        have h8 := h7.at_q ink e8 hq8 ((kt.rows rx).app (.cons ry .nil)) gd
        have hpl8 := e8 _ _ (Ne.symm qpl) hpl7
        have hl8 := e8 _ _ ltq hl7
        clear hpl7 hl7 kt ry hq8 e8
        walk_at "go"
        rename_i pr npr ls nls
        have plt : lt ≠ pl := fun z => by rw [z, hpl8] at hl8; cases hl8
        have h9 := h8.at_l ink hpl8 fpl qpl ppl (o := .lst [.int a1, .int 8, .int a3])
        have hl9 := rd_ne plt hl8 (o := .lst [.int a1, .int 8, .int a3])
        generalize upd H8 pl (.lst [.int a1, .int 8, .int a3]) = H9 at h9 hl9 npr nls ⊢
        have h10 := (h9.grow (Grow.new npr (o := .tup [.ref lt, .int 0]))).grow (Grow.new nls (o := .lst [.ref pr]))
        have hl10 := rd_new nls (rd_new npr hl9 (o := .tup [.ref lt, .int 0])) (o := .lst [.ref pr])
        have hpr : upd (upd H9 pr (.tup [.ref lt, .int 0])) ls (.lst [.ref pr]) pr = some (.tup [.ref lt, .int 0]) := rd_new nls upd_same
        have hls : upd (upd H9 pr (.tup [.ref lt, .int 0])) ls (.lst [.ref pr]) ls = some (.lst [.ref pr]) := upd_same
        generalize upd (upd H9 pr (.tup [.ref lt, .int 0])) ls (.lst [.ref pr]) = H10 at h10 hl10 hpr hls ⊢
        clear npr nls h9 hl9
        obtain ⟨zs, hp10, ry10⟩ := h10.ys
        have zl := ry10.len
        refine ⟨p, ls, zs, _, rfl, rfl, hp10, hls, by rw [sizeLine_eq]; show zs.length + 1 ≤ _; omega, fun r nr => ?_⟩
        have g11 := Grow.new nr (o := .lst (zs ++ [.ref pr]))
        have rq : r ≠ q := by obtain ⟨us, z, _⟩ := h10.xs; exact Ne.symm (ne_of_none z nr)
        have row : RowAt H10 (.ref pr) ((a1, a2, a3), 0) := ⟨pr, .ref lt, rfl, hpr, lt, rfl, hl10⟩
        exact k4 n5 q r (rs ++ [((a1, a2, a3), 0)]) _ (by omega) (by simp) ((h10.grow g11).at_p upd_same (((KT.grow g11).rows ry10).app (.cons ((KT.grow g11).row row) .nil)) rq (h10.pen.ne nr))
    · walk_at "go"
      have wb : within (.int b) (.int 0) (.int 99) = true := by unfold within; simp; omega
      refine w_iteD (fun hw2 => ?_) (fun hw2 => ?_)
      · walk_at "go"
        obtain ⟨dx, hx⟩ := h4.line
        obtain ⟨xs, hq, rx⟩ := h4.xs
        have xl : xs.length = rs.length := rx.len
        refine w_iteD (fun hs => ?ha) (fun hs => ?hb)
        case' ha =>
          walk_at "go"
          refine ⟨.ref x, rfl, x, dx, _, rfl, hx, rfl, ?_⟩
          walk_at "go"
          refine ⟨x, late, q, xs, rs, .int b, rfl, ⟨dx, hx⟩, hq, rx, by omega, trivial, fun b' eb _ _ => ?_, fun z => by rw [wb] at z; cases z⟩
        case' hb =>
          walk_at "go"
          refine ⟨.ref x, rfl, x, dx, _, rfl, hx, rfl, ?_⟩
          walk_at "go"
          refine ⟨rfl, x, late, q, xs, rs, .int b, rfl, ⟨dx, hx⟩, hq, rx, by omega, trivial, fun b' eb _ _ => ?_, fun z => by rw [wb] at z; cases z⟩
        all_goals
          cases eb
          refine ⟨fun hlen => ?_, fun hlen y q' xs' H5 t m er lty ln hq' rx' nq' ex => ?_⟩
          · walk_at "go"
            refine w_iteD (fun ht => ?_) (fun ht => absurd ht (by omega))
            walk_at "go"
            exact k4 n4 q p rs _ (by omega) (by omega) h4
          · generalize hpl : ((xs.length : Int) - 1 - b).toNat = pl at er rx'
            have hat : (ys.length : Int) - 1 - b = (pl : Int) := by omega
            have gt := h4.good (t, m) (List.mem_of_getElem? er)
            have h5 := h4.at_x ink ex ln hq' nq' rx' (good_handed h4.good pl)
            obtain ⟨ys5, hp5, ry5⟩ := h5.ys
            have yl5 := h5.len hp5
            have hpl5 : pl < ys5.length := by omega
            obtain ⟨yv, hyv⟩ : ∃ yv, ys5[pl]? = some yv := ⟨ys5[pl], by simp [hpl5]⟩
            obtain ⟨r, er2, ⟨pt, u, rfl, hpt, hu⟩⟩ := ry5.get pl yv hyv
            rw [er] at er2
            cases er2
            walk_at "go"
            refine w_iteD (fun ht => absurd ht (by omega)) (fun ht => ?_)
            walk_at "go"
            refine w_showL lty ⟨gt.1, gt.2.1, gt.2.2.1⟩ ?_
            walk_at "go"
            refine w_ixL (SqL.of hp5) (at_of hat hyv) ?_
            walk_at "go"
            refine ⟨pt, _, 0, u, rfl, rfl, SqT.of hpt, rfl, ?_⟩
            walk_at "go"
            refine w_showL hu ⟨gt.1, gt.2.1, gt.2.2.1⟩ ?_
            refine w_eqSelf rfl ?_
            walk_at "go"
            refine ⟨p, _, late, ys5, rs, rfl, hp5, ry5, by omega, fun r zs H6 g6 nf hf rz => ?_⟩
            rw [hat, show (pl : Int) = ((0 : Nat) : Int) + (pl : Int) by omega, handF_eq late rs 0 pl (fun z hz => (h4.good z hz).2.2.2.2)] at rz
            have rq : r ≠ q' := by obtain ⟨us, z, _⟩ := h5.xs; exact Ne.symm (ne_of_none z nf)
            exact k4 n4 q' r (handed rs pl late) H6 (by omega) (by have := len_handed rs pl late; omega) ((h5.grow g6).at_p hf rz rq (h5.pen.ne nf))
      · walk_at "go"
        refine ⟨n4, 2, rfl, ink, h4.pen, by omega, by decide, by decide, fun r2 n5 H5 r20 r21 hn5 pen5 e5 => ?_⟩
        have h5 := h4.ext_c ink pen5 e5
        clear h4 pen4 hp4 ry4 e5
        obtain ⟨dx, hx⟩ := h5.line
        obtain ⟨xs, hq, rx⟩ := h5.xs
        have xl : xs.length = rs.length := rx.len
        walk_at "go"
        refine w_iteD (fun hs => ?da) (fun hs => ?db)
        case' da =>
          walk_at "go"
          refine ⟨.ref x, rfl, x, dx, _, rfl, hx, rfl, ?_⟩
          walk_at "go"
          refine ⟨x, late, q, xs, .int b, rfl, ⟨dx, hx⟩, hq, by omega, trivial, fun b' eb _ _ => ?_, fun z => by rw [wb] at z; cases z⟩
        case' db =>
          walk_at "go"
          refine ⟨.ref x, rfl, x, dx, _, rfl, hx, rfl, ?_⟩
          walk_at "go"
          refine ⟨rfl, x, late, q, xs, .int b, rfl, ⟨dx, hx⟩, hq, by omega, trivial, fun b' eb _ _ => ?_, fun z => by rw [wb] at z; cases z⟩
        all_goals
          cases eb
          refine ⟨fun hlen => ?_, fun hlen H6 hq6 e6 => ?_⟩
          · walk_at "go"
            refine .inr (.inr ⟨_, rfl, ?_⟩)
            walk_at "go"
            refine .inr (.inr ⟨_, rfl, ?_⟩)
            rw [decide_eq_false (show ¬ (0 : Int) ≤ (ys.length : Int) - 1 - b by omega)]
            refine w_neSelf rfl ?_
            walk_at "go"
            refine w_iteD (fun ht => absurd ht (by omega)) (fun ht => ?_)
            walk_at "go"
            exact k4 n5 q p rs _ (by omega) (by omega) h5
          · generalize hpl : ((xs.length : Int) - 1 - b).toNat = pl at hq6
            have hat : (ys.length : Int) - 1 - b = (pl : Int) := by omega
            have kt : KT H5 H6 := KT.ext e6 (fun zs z => by rw [hq] at z; cases z)
            have h6 := h5.at_q ink e6 hq6 ((kt.rows rx).erase pl) (good_erase h5.good pl)
            obtain ⟨ys6, hp6, ry6⟩ := h6.ys
            have yl6 := h6.len hp6
            walk_at "go"
            refine .inr (.inr ⟨_, rfl, ?_⟩)
            walk_at "go"
            refine .inr (.inr ⟨_, rfl, ?_⟩)
            rw [decide_eq_true (show (0 : Int) ≤ (ys.length : Int) - 1 - b by omega)]
            refine w_neSelf rfl ?_
            walk_at "go"
            refine w_iteD (fun ht => ?_) (fun ht => absurd (show (0 : Int) ≤ (ys.length : Int) - 1 - b by omega) ht)
            walk_at "go"
            rw [hat]
            refine ⟨.ref p, rfl, .int (pl : Int), rfl, (pl : Int), rfl, p, ys6, rfl, SqL.of hp6, fun s1 ns1 => ?_⟩
            rw [cut_take (by omega) (by omega)]
            have hp7 := rd_new ns1 hp6 (o := .lst (ys6.take (pl : Int).toNat))
            refine ⟨.ref p, rfl, ?_⟩
            unfold tPart
            walk_at "go"
            refine ⟨(pl : Int) + 1, rfl, p, ys6, rfl, SqL.of hp7, fun s2 ns2 => ?_⟩
            rw [cut_drop (by omega) (by omega)]
            have z1 : (pl : Int).toNat = pl := by omega
            have z2 : ((pl : Int) + 1).toNat = pl + 1 := by omega
            rw [z1, z2] at *
            have h8 := (h6.grow (Grow.new ns1)).grow (Grow.new ns2 (o := .lst (ys6.drop (pl + 1))))
            refine ⟨s1, s2, _, _, rfl, rfl, rd_new ns2 upd_same, upd_same, by rw [sizeLine_eq, List.length_take, List.length_drop]; omega, fun r nr => ?_⟩
            have g9 := Grow.new nr (o := .lst (ys6.take pl ++ ys6.drop (pl + 1)))
            have rq : r ≠ q := by obtain ⟨us, z, _⟩ := h8.xs; exact Ne.symm (ne_of_none z nr)
            have ry9 := (KT.grow ((Grow.new ns1 (o := .lst (ys6.take pl))).trans ((Grow.new ns2 (o := .lst (ys6.drop (pl + 1)))).trans g9))).rows ry6
            refine k4 n5 q r (rs.eraseIdx pl) _ (by omega) (by have := List.length_eraseIdx_le rs pl; omega) ((h8.grow g9).at_p upd_same ?_ rq (h8.pen.ne nr))
            rw [List.eraseIdx_eq_take_drop_succ]
            exact (ry9.take pl).app (ry9.drop (pl + 1))
end
end K42

set_option maxRecDepth 100000
set_option maxHeartbeats 4000000
namespace K42
open PySem L2 FW PyProof.Rows
local macro_rules | `(tactic| walk_at "side") => `(tactic| first
  | omega
  | exact ⟨by omega, by omega⟩
  | exact Or.inl ⟨by omega, by omega⟩
  | exact Or.inr ⟨by omega, by omega⟩
  | exact ⟨by omega, by omega, by omega⟩
  | exact ⟨by decide, by decide, by decide⟩
  | (refine mix2 ?_ ?_ ?_ ?_ ?_ ?_ ?_ ?_ ?_ ?_ <;> omega))
local macro_rules | `(tactic| walk_at "hp") => `(tactic| first
  | assumption | exact upd_same
  | (refine' rd_new ?n ?q; (case n => assumption); (case q => walk_at "hp"))
  | (refine' rd_ne ?n ?q; (case n => first | assumption | (apply Ne.symm; assumption)); (case q => walk_at "hp")))
local macro_rules | `(tactic| walk_at "sq") => `(tactic| first
  | assumption
  | (with_reducible apply SqL.of; walk_at "hp") | (with_reducible apply SqT.of; walk_at "hp")
  | ((with_reducible refine' sqL_new ?n ?q); (case n => assumption); (case q => walk_at "sq"))
  | ((with_reducible refine' sqT_new ?n ?q); (case n => assumption); (case q => walk_at "sq"))
  | ((with_reducible refine' sqL_ne ?n ?q); (case n => first | assumption | (apply Ne.symm; assumption)); (case q => walk_at "sq"))
  | ((with_reducible refine' sqT_ne ?n ?q); (case n => first | assumption | (apply Ne.symm; assumption)); (case q => walk_at "sq"))
  | ((with_reducible refine' Ext.sqL ?e ?n ?q); (case e => assumption); (case n => first | assumption | (apply Ne.symm; assumption)); (case q => walk_at "sq"))
  | ((with_reducible refine' Ext.sqT ?e ?n ?q); (case e => assumption); (case n => first | assumption | (apply Ne.symm; assumption)); (case q => walk_at "sq"))
  | ((with_reducible refine' Grow.sqL ?e ?q); (case e => assumption); (case q => walk_at "sq"))
  | ((with_reducible refine' Grow.sqT ?e ?q); (case e => assumption); (case q => walk_at "sq")))
local macro_rules | `(tactic| walk_at "sqs") => `(tactic| first | assumption | (exact ‹∀ H, SqT _ H _ _› _) | (apply SqT.of; walk_at "hp"))
local macro_rules | `(tactic| walk_at "kn") => `(tactic| first | assumption | exact True.intro)
local macro_rules | `(tactic| walk_at "fw") => `(tactic| with_reducible first
  | refine w_seq ?_ | refine w_asg ?_ | refine w_ret ?_ | refine w_drop ?_ | refine w_next ?_ | refine w_c ?_ | refine w_op ?_ | refine w_un ?_
  | refine w_test ?_ | refine w_B ?_ | refine w_bl ?_ | refine w_not ?_ | refine w_and ?_ | refine w_or ?_ | refine w_andV ?_ | refine w_orV ?_ | refine w_notV ?_
  | refine w_if ?_ | refine w_ifE ?_ | refine w_yes ?_ | refine w_no ?_ | refine w_rfl ?_ | refine w_tr ?_ | refine w_nyes ?_ | refine w_nno ?_ | refine w_T ?_ | refine w_F ?_ | refine w_nil ?_ | refine w_cons ?_ | refine w_cb ?_ | refine w_call ?_ | refine w_lst ?_ | refine w_tup ?_
  | refine w_I0 ?_ | refine w_U ?_ | refine w_int ?_ | refine w_intB ?_ | refine w_abs ?_ | refine w_raise1 ?_ | refine w_sub ?_ | refine w_gcons ?_ | refine w_gnil ?_ | refine w_par ?_ | refine w_chain ?_ | refine w_callNB ?_)
local macro_rules | `(tactic| walk_at "fwv") => `(tactic| first
  | ((with_reducible refine' w_var ?e ?_); (case e => rfl))
  | ((with_reducible refine' w_I ?e ?_); (case e => walk_at "side"))
  | ((with_reducible refine' w_ixL ?s ?e ?_); (case s => walk_at "sq"); (case e => rfl))
  | ((with_reducible refine' w_lenL ?s ?_); (case s => walk_at "sq"); try simp only [List.length_map, List.length_cons, List.length_nil])
  | ((with_reducible refine' w_setL ?e ?f ?_); (case e => walk_at "hp"); (case f => rfl); try simp only [Int.reduceToNat, List.set_cons_zero, List.set_cons_succ, upd_upd])
  | ((with_reducible refine' w_gtup ?s ?l ?_); (case s => walk_at "sq"); (case l => rfl))
  | ((with_reducible refine' w_eq ?e ?_); (case e => rfl))
  | ((with_reducible refine' w_ne ?e ?_); (case e => rfl))
  | ((with_reducible refine' w_mk1 ?o ?n ?_); (case o => apply Exn.oex; assumption); (case n => apply Exn.no; assumption); intro _ _)
  | ((with_reducible refine w_dnew ?_); intro _ _)
  | ((with_reducible refine' w_inT (ss := ?ss) ?s ?_); (case s => walk_at "sqs"))
  | ((with_reducible refine' w_notInT (ss := ?ss) ?s ?_); (case s => walk_at "sqs"))
  | ((with_reducible refine' w_inX ?s ?f ?g ?_); (case s => walk_at "sqs"); (case f => rfl); (case g => rfl))
  | ((with_reducible refine' w_isIntA ?k ?_); (case k => walk_at "kn"))
  | ((with_reducible refine' w_isBlA ?k ?_); (case k => walk_at "kn"))
  | ((with_reducible refine' w_isStrA ?k ?_); (case k => walk_at "kn"))
  | ((with_reducible refine w_par2 ?_); simp only [List.set_cons_zero, List.set_cons_succ])
  | ((with_reducible refine w_name ?_); simp only [List.set_cons_zero, List.set_cons_succ]))
local macro_rules | `(tactic| walk_at "size") => `(tactic| first | (show _ ≤ sizeLine; decide) | (simp only [List.length_cons, List.length_nil]; decide))
local macro_rules | `(tactic| walk_at "mk") => `(tactic| ((with_reducible refine' w_made ?n ?_); (case n => walk_at "size"); intro _ _))
local macro_rules | `(tactic| walk_at "ev") => `(tactic| simp only [reduceCtorEq, V.int.injEq, V.bl.injEq, V.str.injEq, V.ref.injEq, List.append_nil, List.cons_append, List.nil_append, decide_true, decide_false, Bool.not_true, Bool.not_false])
local macro_rules | `(tactic| walk_at "go") => `(tactic| repeat (first | walk_at "fw" | walk_at "fwv" | walk_at "mk" | (dsimp only) | walk_at "ev"))
local macro_rules | `(tactic| walk_at "br") => `(tactic| first | refine w_iteN (fun _ => ?_) (fun _ => ?_) | refine w_iteD (fun _ => ?_) (fun _ => ?_) | refine w_ite (fun _ => ?_) (fun _ => ?_))
local macro_rules | `(tactic| walk_at "fork") => `(tactic| (first | refine w_iteN (fun hx => ?_) (fun hx => ?_) | refine w_iteD (fun hx => ?_) (fun hx => ?_) | refine w_ite (fun hx => ?_) (fun hx => ?_)) <;> first | (exact absurd hx (by decide +kernel)) | skip)
local macro_rules | `(tactic| walk_at "gr") => `(tactic| repeat' (first | exact Grow.refl _ | assumption | refine Grow.trans ?_ (Grow.new (by assumption))))

def QR : Str := ("_law_refused_right" : Str) ++ ".<locals>." ++ "<lambda>"
def QL : Str := ("law" : Str) ++ ".<locals>." ++ "<lambda>"
section
variable {P : Program} {w : World} {K : PySem.W.Frag} {mg : Str → Option Value} {base : Heap} {H0 : Hp} {c l : Addr} {cells : List Int}
def TT0 (T : TxtL P w K mg base) : List (Addr × Str) := [(T.pR, QR), (T.pL, QL)]
theorem mem_pR (T : TxtL P w K mg base) : (T.pR, QR) ∈ TT0 T := List.mem_cons_self ..
theorem mem_pL (T : TxtL P w K mg base) : (T.pL, QL) ∈ TT0 T := List.mem_cons_of_mem _ (List.mem_cons_self ..)
theorem uniq_pR (T : TxtL P w K mg base) : ∀ b ∈ TT0 T, b.1 = T.pR → b.2 = QR := by
  intro b hb e
  unfold TT0 at hb
  simp only [List.mem_cons, List.not_mem_nil, or_false] at hb
  rcases hb with rfl | rfl
  · rfl
  · exact absurd e.symm T.apart
theorem uniq_pL (T : TxtL P w K mg base) : ∀ b ∈ TT0 T, b.1 = T.pL → b.2 = QL := by
  intro b hb e
  unfold TT0 at hb
  simp only [List.mem_cons, List.not_mem_nil, or_false] at hb
  rcases hb with rfl | rfl
  · exact absurd e T.apart
  · rfl
theorem fun_okCG {CX : CXT} {k : Nat} {x : Str} {st : Stmt} {ps N : List Str} {sp : Sp} {cc : Addr} {f : Addr} {fd : FuncData} (F : Fun K x x st f fd) (hc : fd.code = .ref cc) (S : FnScope N ps (defScope st)) (size : ∀ vs H Q E, sp vs H Q E → vs.length = ps.length)
    (walk : ∀ (A : Around) (outer : List Env) (s : Shared) (H : Hp) (vs : List V) (Q : VK) (E : XK), (A.deeper (envOfC x (defScope st) s.heap.objs.size f (.ref cc))).guards = some [] → Room k (A.deeper (envOfC x (defScope st) s.heap.objs.size f (.ref cc))) → sp vs H Q E →
      ∃ t, PSs (cxOf CX P w K mg base N x (defScope st) f (.ref cc) A outer s H E) (defBody st) t ∧ t { nx := fun _ H' => Q .non H', rt := Q } (L2.start N vs) H) : FnG P w K mg base CX (k + 1) f fd ps sp := by
  obtain ⟨oc, od, kV, doc, pm, an, cdv, ct, osl, rfl, lk, hcd⟩ := F.ex
  obtain rfl : cdv = .ref cc := hc
  exact ⟨size, fun A outer s H args us vs Q E hG hr e0 hb hv hs => LamX.run_ofS lk hcd S hr e0 hb hv (size _ _ _ _ hs) fun hr' => walk A outer s H vs Q E (guards_in hG) hr' hs⟩
/-- a lambda is heard: an error of the told part -/
theorem heard_err {T : List (Addr × Str)} {C : Addr} {t : XK → TE} {σ : L2.St} {H : Hp} {Q : VK} {part : Str} (ht : LamX.Tabs T H)
    (go : ∀ Ha, LamX.ExtN H Ha → LamX.Tabs T Ha → ∀ (E' : XK) (Q' : VK), (∀ Hb d, Grow Ha Hb → Hb d = none → E' (.ref C) (some d) (upd Hb d (.xd [("part", .str part)]))) → t E' σ Ha Q')
    (rest : ∀ H2, LamX.ExtN H H2 → LamX.Tabs T H2 → Q (.str part) H2) : LamX.tLam T (TTheard C) t σ H Q :=
  ⟨ht, fun Ha eN tA E' Q' h1 h2 => go Ha eN tA E' Q' fun Hb d g nd => h2 d part _ upd_same fun H2 g2 => rest H2 (eN.trans (LamX.ExtN.of (g.trans ((Grow.new nd).trans g2)))) (tA.ext (g.trans ((Grow.new nd).trans g2)))⟩
theorem kn_updl {H : Hp} {v : V} {a : Addr} {zs : List V} (h : Kn K H v) : Kn K (upd H a (.lst zs)) v := by
  by_cases e : v = .ref a
  · rw [e]; exact kn_lst upd_same
  · exact Kn.ext Ext.upd e h
/-! ### what is no letter -/
def BadV (H : Hp) (v : V) : Prop := (∃ a ys, v = .ref a ∧ (H a = some (.lst ys) ∨ H a = some (.tup ys)) ∧ ys.all flatK = true ∧ ys.length ≤ 1000 ∧ (decide ((ys.length : Int) = 3) && ys.all isSh) = false) ∨ (∃ a kvs, v = .ref a ∧ H a = some (.dK kvs)) ∨ flatK v = true
theorem BadV.bad {H : Hp} {v : V} (h : BadV H v) : BadL K H v := by
  rcases h with h | ⟨a, kvs, rfl, h⟩ | h
  · exact .inl h
  · exact .inr ⟨"dict", .base (.dK h), by unfold kinds; simp, rfl⟩
  · cases v with
    | non => exact .inr ⟨"NoneType", .base .non, by unfold kinds; simp, rfl⟩
    | bl b => exact .inr ⟨"bool", .base (.bl b), by unfold kinds; simp, rfl⟩
    | int i => exact .inr ⟨"int", .base (.int i), by unfold kinds; simp, rfl⟩
    | str x => exact .inr ⟨"str", .base (.str x), by unfold kinds; simp, rfl⟩
    | _ => cases h
theorem BadV.extN {H H' : Hp} {v : V} (e : LamX.ExtN H H') (h : BadV H v) : BadV H' v := by
  rcases h with ⟨a, ys, rfl, h | h, r⟩ | ⟨a, kvs, rfl, h⟩ | h
  · exact .inl ⟨a, ys, rfl, .inl (e _ _ h nofun), r⟩
  · exact .inl ⟨a, ys, rfl, .inr (e _ _ h nofun), r⟩
  · exact .inr (.inl ⟨a, kvs, rfl, e _ _ h nofun⟩)
  · exact .inr (.inr h)
theorem BadV.ext_c {H H' : Hp} {v : V} {c : Addr} (e : Ext c H H') (n : v ≠ .ref c) (h : BadV H v) : BadV H' v := by
  have ne : ∀ a, v = .ref a → a ≠ c := fun a e z => n (by rw [e, z])
  rcases h with ⟨a, ys, rfl, h | h, r⟩ | ⟨a, kvs, rfl, h⟩ | h
  · exact .inl ⟨a, ys, rfl, .inl (e _ _ (ne a rfl) h), r⟩
  · exact .inl ⟨a, ys, rfl, .inr (e _ _ (ne a rfl) h), r⟩
  · exact .inr (.inl ⟨a, kvs, rfl, e _ _ (ne a rfl) h⟩)
  · exact .inr (.inr h)
theorem Here.extN {C : Addr} {T : List (Addr × Str)} {x : Addr} {late : Int} {n : Nat} {q p : Addr} {rs ts : List Row} {H H' : Hp} (h : Here K C T H0 c l x late n q p rs ts H) (i : Ink K H0 c l cells) (e : LamX.ExtN H H') (t : LamX.Tabs T H') : Here K C T H0 c l x late n q p rs ts H' := by
  obtain ⟨hpen, tab, ⟨dx, line⟩, ⟨xs, hq, rx⟩, ⟨ys, hp, ry⟩, pq, fx, fq, pc, good⟩ := h
  exact ⟨hpen.extN e i.nt, t, ⟨dx, e _ _ line nofun⟩, ⟨xs, e _ _ hq nofun, (KT.extN e).rows rx⟩, ⟨ys, e _ _ hp nofun, (KT.extN e).rows ry⟩, pq, fx, fq, pc, good⟩
/-! ### repr of rows -/
def dRow (r : Row) : PyData := .tuple [dLtr r.1, .int r.2]
theorem dp_rows {H : Hp} {vs : List V} {rs : List Row} (h : RowsAt H vs rs) : DpAll K H vs (rs.map dRow) := by
  induction h with
  | nil => exact .nil
  | cons a _ ih =>
    obtain ⟨p, u, rfl, hp, lt, rfl, hl⟩ := a
    exact .cons (.tup (SqT.of hp) (.cons (dp_ltr hl) (.cons (.int _) .nil))) ih
theorem row_log {late : Int} {r : Row} (h : 0 ≤ r.2 ∧ r.2 ≤ late) (l8 : late ≤ 8) : r.2.natAbs.log2 < 1920 := Nat.lt_trans (log2_lt (k := 33) (by omega) (by decide)) (by decide)
theorem rows_show {late : Int} (l8 : late ≤ 8) : ∀ rs : List Row, Good late rs → PyData.showableAll (rs.map dRow) = true
  | [], _ => rfl
  | r :: rs, g => by
    have h := g r (List.mem_cons_self ..)
    show (((dLtr r.1).showable && (decide _ && true)) && PyData.showableAll (rs.map dRow)) = true
    rw [rows_show l8 rs fun z hz => g z (List.mem_cons_of_mem _ hz), ltr_show ⟨h.1, h.2.1, h.2.2.1⟩, decide_eq_true (row_log ⟨h.2.2.2.1, h.2.2.2.2⟩ l8)]; rfl
theorem rows_dict : ∀ rs : List Row, PyData.hasDictAll (rs.map dRow) = false
  | [] => rfl
  | r :: rs => by show (PyData.hasDict (dRow r) || PyData.hasDictAll (rs.map dRow)) = false; rw [rows_dict rs]; rfl
theorem rows_depth : ∀ rs : List Row, PyData.depthAll (rs.map dRow) ≤ 2
  | [] => by simp [PyData.depthAll]
  | r :: rs => by
    have ih := rows_depth rs
    simp only [List.map_cons, PyData.depthAll, dRow, dLtr, PyData.depth]
    omega
theorem row_len {late : Int} {r : Row} (l8 : late ≤ 8) (h : Sh r.1.1 ∧ Sh r.1.2.1 ∧ Sh r.1.2.2 ∧ 0 ≤ r.2 ∧ r.2 ≤ late) : (dRow r).shown.length ≤ 11700 := by
  show (tupleText (PyData.shownAll [dLtr r.1, .int r.2])).length ≤ _
  have z := tuple_le (b := 5800) (ts := PyData.shownAll [dLtr r.1, .int r.2]) (fun x hx => by
    simp only [PyData.shownAll, List.mem_cons, List.not_mem_nil, or_false] at hx
    rcases hx with rfl | rfl
    · exact ltr_len ⟨h.1, h.2.1, h.2.2.1⟩
    · exact Nat.le_trans (int_text_len_1921 (row_log ⟨h.2.2.2.1, h.2.2.2.2⟩ l8)) (by decide))
  have e : (PyData.shownAll [dLtr r.1, .int r.2]).length = 2 := rfl
  rw [e] at z
  omega
theorem shownAll_rows : ∀ rs : List Row, PyData.shownAll (rs.map dRow) = rs.map fun r => (dRow r).shown
  | [] => rfl
  | r :: rs => by show _ :: PyData.shownAll (rs.map dRow) = _; rw [shownAll_rows rs]; rfl
def told (rs : List Row) : Str := (PyData.tuple (rs.map dRow)).shown
theorem w_showR {late : Int} {p : Addr} {xs : List V} {rs : List Row} {H : Hp} {Q : VK} (hp : H p = some (.tup xs)) (rx : RowsAt H xs rs) (g : Good late rs) (l8 : late ≤ 8) (hl : rs.length ≤ 200) (q : Q (.str (told rs)) H) : rShow K [.ref p] H Q := by
  refine .inr ⟨p, .tuple (rs.map dRow), rfl, .tup (SqT.of hp) (dp_rows rx), rows_show l8 rs g, rows_dict rs, by have := rows_depth rs; simp only [PyData.depth]; omega, ?_, q⟩
  show (tupleText (PyData.shownAll (rs.map dRow))).length ≤ _
  have z := tuple_le (b := 11700) (ts := PyData.shownAll (rs.map dRow)) (fun x hx => by
    rw [shownAll_rows] at hx
    obtain ⟨r, hr, rfl⟩ := List.mem_map.mp hx
    exact row_len l8 (g r hr))
  rw [shownAll_rows, List.length_map] at z
  rw [shownAll_rows, sizeLine_eq]
  omega
def spRefused (K : PySem.W.Frag) (C : Addr) (T : List (Addr × Str)) (H0 : Hp) (c l : Addr) (cells : List Int) : Sp := fun vs H Q _ => ∃ x p late n q rs, vs = [.ref c, .ref x, .int late] ∧ Ink K H0 c l cells ∧ Here K C T H0 c l x late n q p rs rs H ∧ n < 900000 ∧ rs.length ≤ 200 ∧ 0 ≤ late ∧ late ≤ 8 ∧
  ∀ n' H', n' ≤ n + 20 → Here K C T H0 c l x late n' q p rs rs H' → Q (.bl true) H'
theorem ok__law_refused_right {f : Addr} {fd : FuncData} (T : TxtL P w K mg base) (F : Fun K "_law_refused_right" "_law_refused_right" s__law_refused_right f fd) (hcode : fd.code = .ref T.cR) : FnG P w K mg base CX0 8 f fd ["_law_urn_here", "_law_line", "_law_late"] (spRefused K T.cLine (TT0 T) H0 c l cells) := by
  obtain ⟨g, gd, Fg, hmg, hbg⟩ := T.d__law_heard.ex
  obtain ⟨oc, od, kV, doc, pm, an, cdv, ct, osl, rfl, lk, hcd⟩ := Fg.ex
  obtain ⟨fdL, FL, bL⟩ := T.f_letters
  refine fun_okCG F hcode sc__law_refused_right (fun vs H Q E h => ?_) (fun A outer s H vs Q E hG hr h => ?_)
  · obtain ⟨x, p, late, n, q, rs, rfl, _⟩ := h; rfl
  · obtain ⟨x, p, late, n, q, rs, rfl, ink, here, hn, hl, l0, l8, k⟩ := h
    refine ⟨_, PSs.nox (pss_cons (ps_set (i := 3) sc__law_refused_right.nd rfl (Or.inl rfl) (pe_callB (call_show hG hr.units) (by rfl) T.b_repr (by decide +kernel) (pa_cons (pe_prop (E := E0) (pv 1) T.cl_Line T.p_letters (ok_letters T.toTxt FL) (hr.mono (by decide)) bL .nil pass0 rfl) pa_nil)))
 (pss_cons (ps_set (i := 6) sc__law_refused_right.nd rfl (Or.inr rfl) (pe_can (E := E0) (c__law_one_of T H0 c l cells) hr (by decide) pass0 rfl (pa_cons (pv 0) (pa_cons (pe_lst (pa_cons (pe_tup (pa_cons pe_int (pa_cons pe_int pa_nil))) (pa_cons (pe_tup (pa_cons pe_int (pa_cons pe_int (pa_cons pe_int (pa_cons pe_int pa_nil))))) (pa_cons (pe_lst (pa_cons pe_int (pa_cons pe_int (pa_cons pe_bl pa_nil)))) (pa_cons (pe_lst (pa_cons pe_int (pa_cons pe_int (pa_cons pe_int pa_nil)))) (pa_cons (pe_tup (pa_cons pe_int (pa_cons pe_int (pa_cons (pe_un un_neg pe_int) pa_nil)))) (pa_cons pe_non (pa_cons pe_str (pa_cons (pe_disp (pps_cons pe_int pe_int pps_nil) (by rfl) (by rfl) (fun z => by cases z) (by decide)) (pa_cons pe_int (pa_cons (pe_tup (pa_cons pe_int (pa_cons pe_non (pa_cons pe_int pa_nil)))) pa_nil))))))))))) pa_nil))))
 (pss_cons (ps_set (i := 5) sc__law_refused_right.nd rfl (Or.inr rfl) (pe_can (E := E0) (c__law_one_of T H0 c l cells) hr (by decide) pass0 rfl (pa_cons (pv 0) (pa_cons (pe_lst (pa_cons (pe_un un_neg pe_int) (pa_cons pe_int (pa_cons pe_bl (pa_cons pe_non (pa_cons pe_str (pa_cons (pe_lst (pa_cons pe_int pa_nil)) (pa_cons (pe_op op_pow pe_int pe_int) (pa_cons pe_bl pa_nil))))))))) pa_nil))))
 (pss_cons (ps_set (i := 4) sc__law_refused_right.nd rfl (Or.inl rfl) (pe_lst (pa_cons (LamX.pe_lamcall (T := TT0 T) (TT := TTheard T.cBadNumber) (k := 5) rfl hmg Fg.kp lk hcd hbg sc__law_heard rfl (.inl rfl) (heard_gives (X := (cxOf CX0 P w K mg base N__law_refused_right "_law_refused_right" (defScope s__law_refused_right) f (.ref T.cR) A outer s H E).nox) T) T.tR rfl (mem_pR T) (uniq_pR T) (hr.mono (by decide)) (LamX.lamS_by (show LamX.lamSB (defScope s__law_refused_right) _ = true from by decide +kernel)) rfl (fun _ _ _ _ _ => rfl) (fun A outer s H E f c' hr' => pe_methC (E := E) T.cl_Line (m_send T.toTxt) hr' (by decide) (passes_call (takes_of rfl rfl rfl rfl) (fun _ _ _ _ h => h)) (pv 1) (pa_cons (pv 6) pa_nil))) pa_nil)))
 (pss_cons (ps_expr (pe_bm PySem.F.plainAttrs_list PySem.F.slot_list_append PySem.F.type_list_append mt_append (pv 4) (pa_cons (LamX.pe_lamcall (T := TT0 T) (TT := TTheard T.cBadNumber) (k := 5) rfl hmg Fg.kp lk hcd hbg sc__law_heard rfl (.inl rfl) (heard_gives (X := (cxOf CX0 P w K mg base N__law_refused_right "_law_refused_right" (defScope s__law_refused_right) f (.ref T.cR) A outer s H E).nox) T) T.tR rfl (mem_pR T) (uniq_pR T) (hr.mono (by decide)) (LamX.lamS_by (show LamX.lamSB (defScope s__law_refused_right) _ = true from by decide +kernel)) rfl (fun _ _ _ _ _ => rfl) (fun A outer s H E f c' hr' => pe_methC (E := E) T.cl_Line (m_hand T.toTxt) hr' (by decide) (passes_call (takes_of rfl rfl rfl rfl) (fun _ _ _ _ h => h)) (pv 1) (pa_cons (pv 5) pa_nil))) pa_nil)))
 (pss_cons (ps_expr (pe_bm PySem.F.plainAttrs_list PySem.F.slot_list_append PySem.F.type_list_append mt_append (pv 4) (pa_cons (LamX.pe_lamcall (T := TT0 T) (TT := TTheard T.cBadNumber) (k := 5) rfl hmg Fg.kp lk hcd hbg sc__law_heard rfl (.inl rfl) (heard_gives (X := (cxOf CX0 P w K mg base N__law_refused_right "_law_refused_right" (defScope s__law_refused_right) f (.ref T.cR) A outer s H E).nox) T) T.tR rfl (mem_pR T) (uniq_pR T) (hr.mono (by decide)) (LamX.lamS_by (show LamX.lamSB (defScope s__law_refused_right) _ = true from by decide +kernel)) rfl (fun _ _ _ _ _ => rfl) (fun A outer s H E f c' hr' => pe_methC (E := E) T.cl_Line (m_drop T.toTxt) hr' (by decide) (passes_call (takes_of rfl rfl rfl rfl) (fun _ _ _ _ h => h)) (pv 1) (pa_cons (pv 5) pa_nil))) pa_nil)))
 (pss_one (ps_ret (pe_and (pe_cmpR (op_eqD hr.units) (pv 4) (pe_lst (pa_cons pe_str (pa_cons pe_str (pa_cons pe_str pa_nil)))) (nomark _)) (pe_and (pe_cmpR op_eq (pe_callB (call_show hG hr.units) (by rfl) T.b_repr (by decide +kernel) (pa_cons (pe_prop (E := E0) (pv 1) T.cl_Line T.p_letters (ok_letters T.toTxt FL) (hr.mono (by decide)) bL .nil pass0 rfl) pa_nil)) (pv 3) (nomark _)) (pe_one (pe_cmpR op_eq (pe_fld (pv 1) rfl) (pv 2) (nomark _))))))))))))), ?_⟩
    rw [show L2.start N__law_refused_right [(V.ref c), (V.ref x), (V.int late)] = [some (V.ref c), some (V.ref x), some (V.int late), none, none, none, none] from rfl]; try dsimp only [cxOf]
    obtain ⟨dx, hx⟩ := here.line
    obtain ⟨xs, hq, rx⟩ := here.xs
    walk_at "go"
    refine ⟨.ref x, rfl, x, dx, _, rfl, hx, ?_⟩
    refine ⟨x, late, q, xs, rfl, ⟨dx, hx⟩, hq, fun p1 np1 => ?_⟩
    have h1 := here.grow (Grow.new np1 (o := .tup xs))
    have rx1 := (KT.grow (Grow.new np1 (o := .tup xs))).rows rx
    walk_at "go"
    refine w_showR upd_same rx1 here.good l8 hl ?_
    generalize upd H p1 (.tup xs) = H1 at h1 ⊢
    clear rx1 np1 hx hq rx here
    walk_at "go"
    rename_i a1 e1 a2 e2 a3 e3 a4 e4 a5 e5
    intro a6 e6
    refine ⟨upd_same, [(Sum.inl 0, V.int 1)], rfl, by decide, ?_⟩
    simp only [upd_upd]
    walk_at "go"
    rename_i a7 e7 a0 e0
    have pen1 := h1.pen
    obtain ⟨oc0, hcc⟩ : ∃ oc0, H1 c = some oc0 := by obtain ⟨r, z⟩ := pen1.cl; exact ⟨_, z⟩
    have n1 : a1 ≠ c := Ne.symm (ne_of_none (o := oc0) (by walk_at "hp") e1)
    have n2 : a2 ≠ c := Ne.symm (ne_of_none (o := oc0) (by walk_at "hp") e2)
    have n3 : a3 ≠ c := Ne.symm (ne_of_none (o := oc0) (by walk_at "hp") e3)
    have n4 : a4 ≠ c := Ne.symm (ne_of_none (o := oc0) (by walk_at "hp") e4)
    have n5 : a5 ≠ c := Ne.symm (ne_of_none (o := oc0) (by walk_at "hp") e5)
    have n6 : a6 ≠ c := Ne.symm (ne_of_none (o := oc0) (by walk_at "hp") e6)
    have n7 : a7 ≠ c := Ne.symm (ne_of_none (o := oc0) (by walk_at "hp") e7)
    have n0 : a0 ≠ c := Ne.symm (ne_of_none (o := oc0) (by walk_at "hp") e0)
    generalize hH : upd _ a0 _ = H2
    have g2 : Grow H1 H2 := by rw [← hH]; walk_at "gr"
    have f1 : H2 a1 = some (.tup [.int 1, .int 2]) := by rw [← hH]; walk_at "hp"
    have f2 : H2 a2 = some (.tup [.int 1, .int 2, .int 3, .int 4]) := by rw [← hH]; walk_at "hp"
    have f3 : H2 a3 = some (.lst [.int 1, .int 2, .bl true]) := by rw [← hH]; walk_at "hp"
    have f4 : H2 a4 = some (.lst [.int 1, .int 2147483648, .int 3]) := by rw [← hH]; walk_at "hp"
    have f5 : H2 a5 = some (.tup [.int 1, .int 2, .int (-2147483649)]) := by rw [← hH]; walk_at "hp"
    have f6 : ∃ kvs, H2 a6 = some (.dK kvs) := ⟨_, by rw [← hH]; walk_at "hp"⟩
    have f7 : H2 a7 = some (.tup [.int 1, .non, .int 3]) := by rw [← hH]; walk_at "hp"
    have f0 : ∃ L1, H2 a0 = some (.lst L1) ∧ L1 = [.ref a1, .ref a2, .ref a3, .ref a4, .ref a5, .non, .str "123", .ref a6, .int 5, .ref a7] := ⟨_, by rw [← hH]; walk_at "hp", rfl⟩
    clear hH
    obtain ⟨kvs, f6⟩ := f6
    obtain ⟨L1, f0, d1⟩ := f0
    have m1 : ∀ v ∈ L1, BadV H2 v ∧ v ≠ .ref c := by
      intro v hv
      rw [d1] at hv
      simp only [List.mem_cons, List.not_mem_nil, or_false] at hv
      rcases hv with rfl | rfl | rfl | rfl | rfl | rfl | rfl | rfl | rfl | rfl
      · exact ⟨.inl ⟨_, _, rfl, .inr f1, rfl, by decide, by decide +kernel⟩, fun z => n1 (V.ref.inj z)⟩
      · exact ⟨.inl ⟨_, _, rfl, .inr f2, rfl, by decide, by decide +kernel⟩, fun z => n2 (V.ref.inj z)⟩
      · exact ⟨.inl ⟨_, _, rfl, .inl f3, rfl, by decide, by decide +kernel⟩, fun z => n3 (V.ref.inj z)⟩
      · exact ⟨.inl ⟨_, _, rfl, .inl f4, rfl, by decide, by decide +kernel⟩, fun z => n4 (V.ref.inj z)⟩
      · exact ⟨.inl ⟨_, _, rfl, .inr f5, rfl, by decide, by decide +kernel⟩, fun z => n5 (V.ref.inj z)⟩
      · exact ⟨.inr (.inr rfl), nofun⟩
      · exact ⟨.inr (.inr rfl), nofun⟩
      · exact ⟨.inr (.inl ⟨_, _, rfl, f6⟩), fun z => n6 (V.ref.inj z)⟩
      · exact ⟨.inr (.inr rfl), nofun⟩
      · exact ⟨.inl ⟨_, _, rfl, .inr f7, rfl, by decide, by decide +kernel⟩, fun z => n7 (V.ref.inj z)⟩
    have l1 : 0 < L1.length ∧ L1.length < 1000000 := by rw [d1]; exact ⟨by simp, by simp⟩
    have h2 := h1.grow g2
    clear d1 f1 f2 f3 f4 f5 f6 f7 e0 e1 e2 e3 e4 e5 e6 e7 g2 h1 pen1 hcc n1 n2 n3 n4 n5 n6 n7
    refine ⟨n, a0, L1, rfl, ink, h2.pen, by omega, SqL.of f0, n0, l1.1, l1.2, fun odd n3 H3 hodd hn3 pen3 e3 => ?_⟩
    have b3 := (m1 odd hodd).1.ext_c e3 (m1 odd hodd).2
    have oc3 := (m1 odd hodd).2
    have h3 := h2.ext_c ink pen3 e3
    clear m1 hodd e3 f0 n0 h2
    walk_at "go"
    rename_i c1 u1 c0 u0
    have pen3' := h3.pen
    have nc1 : c1 ≠ c := pen3'.ne u1
    have h4 := (h3.grow (Grow.new u1 (o := .lst [.int 0]))).grow (Grow.new u0 (o := .lst [.int (-1), .int 100, .bl true, .non, .str "0", .ref c1, .int (10 ^ Int.toNat 20), .bl false]))
    have b4 := b3.extN (LamX.ExtN.of ((Grow.new u1 (o := .lst [.int 0])).trans (Grow.new u0 (o := .lst [.int (-1), .int 100, .bl true, .non, .str "0", .ref c1, .int (10 ^ Int.toNat 20), .bl false]))))
    have nc0 : c0 ≠ c := (h3.grow (Grow.new u1 (o := .lst [.int 0]))).pen.ne u0
    have fc1 : upd (upd H3 c1 (.lst [.int 0])) c0 (.lst [.int (-1), .int 100, .bl true, .non, .str "0", .ref c1, .int (10 ^ Int.toNat 20), .bl false]) c1 = some (.lst [.int 0]) := rd_new u0 upd_same
    have fc0 : ∃ L2, upd (upd H3 c1 (.lst [.int 0])) c0 (.lst [.int (-1), .int 100, .bl true, .non, .str "0", .ref c1, .int (10 ^ Int.toNat 20), .bl false]) c0 = some (.lst L2) ∧ L2 = [.int (-1), .int 100, .bl true, .non, .str "0", .ref c1, .int (10 ^ Int.toNat 20), .bl false] := ⟨_, upd_same, rfl⟩
    generalize upd (upd H3 c1 (.lst [.int 0])) c0 (.lst [.int (-1), .int 100, .bl true, .non, .str "0", .ref c1, .int (10 ^ Int.toNat 20), .bl false]) = H4 at h4 b4 fc1 fc0 ⊢
    obtain ⟨L2, fc0, d2⟩ := fc0
    have m2 : ∀ v ∈ L2, (Kn K H4 v ∧ v ≠ .ref c) ∧ within v (.int 0) (.int 99) = false := by
      intro v hv
      rw [d2] at hv
      simp only [List.mem_cons, List.not_mem_nil, or_false] at hv
      rcases hv with rfl | rfl | rfl | rfl | rfl | rfl | rfl | rfl
      all_goals first
        | exact ⟨⟨trivial, nofun⟩, rfl⟩
        | exact ⟨⟨trivial, nofun⟩, by decide⟩
        | exact ⟨⟨kn_lst fc1, fun z => nc1 (V.ref.inj z)⟩, rfl⟩
    have l2 : 0 < L2.length ∧ L2.length < 1000000 := by rw [d2]; exact ⟨by simp, by simp⟩
    clear d2 fc1 u1 u0 h3 b3 pen3'
    refine ⟨n3, c0, L2, rfl, ink, h4.pen, by omega, SqL.of fc0, nc0, l2.1, l2.2, fun nv n5 H5 hnv hn5 pen5 e5 => ?_⟩
    have kn5 := Kn.ext e5 (m2 nv hnv).1.2 (m2 nv hnv).1.1
    have w5 := (m2 nv hnv).2
    have b5 := b4.ext_c e5 oc3
    have h5 := h4.ext_c ink pen5 e5
    clear m2 hnv fc0 h4 b4 e5
    walk_at "go"
    refine heard_err (part := "letter") h5.tab (fun Ha eN tA E' Q' he => ?_) (fun H6 e6 t6 => ?_)
    · walk_at "go"
      have ha := h5.extN ink eN tA
      obtain ⟨dxa, hxa⟩ := ha.line
      obtain ⟨xsa, hqa, rxa⟩ := ha.xs
      refine ⟨.ref x, rfl, x, dxa, _, rfl, hxa, rfl, ?_⟩
      walk_at "go"
      exact ⟨x, late, q, xsa, odd, rfl, ⟨dxa, hxa⟩, hqa, by rw [rxa.len]; omega, .inr ⟨(b5.extN eN).bad, fun Hb d g nd => he Hb d g nd⟩⟩
    have h6 := h5.extN ink e6 t6
    have kn6 := ExtN.kn e6 kn5
    walk_at "go"
    rename_i lh nlh
    have flh : H0 lh = none := h6.pen.free ink nlh
    have qlh : q ≠ lh := by obtain ⟨us, z, _⟩ := h6.xs; exact ne_of_none z nlh
    have plh : p ≠ lh := by obtain ⟨us, z, _⟩ := h6.ys; exact ne_of_none z nlh
    have h7 := h6.grow (Grow.new nlh (o := .lst [.str "letter"]))
    have kn7 := kn6.grow (Grow.new nlh (o := .lst [.str "letter"]))
    have i7 : upd H6 lh (.lst [.str "letter"]) lh = some (.lst [.str "letter"]) := upd_same
    generalize upd H6 lh (.lst [.str "letter"]) = H7 at h7 kn7 i7 ⊢
    clear h6 kn6 nlh h5 kn5 b5 e6 t6
    refine ⟨.ref lh, rfl, .inl ⟨rfl, _, SqL.of i7⟩, ?_⟩
    walk_at "go"
    refine heard_err (part := "back") h7.tab (fun Ha eN tA E' Q' he => ?_) (fun H8 e8 t8 => ?_)
    · walk_at "go"
      have ha := h7.extN ink eN tA
      obtain ⟨dxa, hxa⟩ := ha.line
      obtain ⟨xsa, hqa, rxa⟩ := ha.xs
      refine ⟨.ref x, rfl, x, dxa, _, rfl, hxa, rfl, ?_⟩
      walk_at "go"
      exact ⟨x, late, q, xsa, rs, nv, rfl, ⟨dxa, hxa⟩, hqa, rxa, by rw [rxa.len]; omega, ExtN.kn eN kn7, fun b eb c1 c2 => by rw [eb] at w5; unfold within at w5; simp at w5; omega, fun _ d nd => he Ha d (Grow.refl _) nd⟩
    have h8 := h7.extN ink e8 t8
    have kn8 := ExtN.kn e8 kn7
    have i8 := e8 _ _ i7 nofun
    clear h7 kn7 i7 e8 t8
    walk_at "go"
    refine ⟨lh, _, .str "back", rfl, rfl, i8, by rw [sizeLine_eq]; decide, ?_⟩
    have h9 := h8.at_l ink i8 flh qlh plh (o := .lst ([.str "letter"] ++ [.str "back"]))
    have i9 : upd H8 lh (.lst ([.str "letter"] ++ [.str "back"])) lh = some (.lst [.str "letter", .str "back"]) := upd_same
    have kn9 := kn_updl (zs := [.str "letter"] ++ [.str "back"]) kn8 (a := lh)
    generalize upd H8 lh (.lst ([.str "letter"] ++ [.str "back"])) = H9 at h9 kn9 i9 ⊢
    clear h8 kn8 i8
    dsimp only
    walk_at "go"
    refine ⟨.ref lh, rfl, .inl ⟨rfl, _, SqL.of i9⟩, ?_⟩
    walk_at "go"
    refine heard_err (part := "back") h9.tab (fun Ha eN tA E' Q' he => ?_) (fun Ha eA tA => ?_)
    · walk_at "go"
      have ha := h9.extN ink eN tA
      obtain ⟨dxa, hxa⟩ := ha.line
      obtain ⟨xsa, hqa, rxa⟩ := ha.xs
      refine ⟨.ref x, rfl, x, dxa, _, rfl, hxa, rfl, ?_⟩
      walk_at "go"
      exact ⟨x, late, q, xsa, nv, rfl, ⟨dxa, hxa⟩, hqa, by rw [rxa.len]; omega, ExtN.kn eN kn9, fun b eb c1 c2 => by rw [eb] at w5; unfold within at w5; simp at w5; omega, fun _ d nd => he Ha d (Grow.refl _) nd⟩
    have ha := h9.extN ink eA tA
    have ia := eA _ _ i9 nofun
    clear h9 kn9 i9 eA tA
    walk_at "go"
    refine ⟨lh, _, .str "back", rfl, rfl, ia, by rw [sizeLine_eq]; decide, ?_⟩
    have hb := ha.at_l ink ia flh qlh plh (o := .lst ([.str "letter", .str "back"] ++ [.str "back"]))
    have ib : upd Ha lh (.lst ([.str "letter", .str "back"] ++ [.str "back"])) lh = some (.lst [.str "letter", .str "back", .str "back"]) := upd_same
    generalize upd Ha lh (.lst ([.str "letter", .str "back"] ++ [.str "back"])) = Hb at hb ib ⊢
    clear ha ia
    dsimp only
    walk_at "go"
    rename_i l2 nl2
    have g2 := Grow.new nl2 (o := .lst [.str "letter", .str "back", .str "back"])
    have hc := hb.grow g2
    refine ⟨.list [.str "letter", .str "back", .str "back"], .list [.str "letter", .str "back", .str "back"], .lst (SqL.of (g2 _ _ ib)) (.cons (.str _) (.cons (.str _) (.cons (.str _) .nil))), .lst (SqL.of upd_same) (.cons (.str _) (.cons (.str _) (.cons (.str _) .nil))), by decide +kernel, by decide +kernel, ?_⟩
    rw [show PyData.eqv (.list [.str "letter", .str "back", .str "back"]) (.list [.str "letter", .str "back", .str "back"]) = true from by decide +kernel]
    generalize upd Hb l2 (.lst [.str "letter", .str "back", .str "back"]) = Hc at hc ⊢
    clear hb ib nl2 g2
    obtain ⟨dxc, hxc⟩ := hc.line
    obtain ⟨xsc, hqc, rxc⟩ := hc.xs
    walk_at "go"
    refine ⟨.ref x, rfl, x, dxc, _, rfl, hxc, ?_⟩
    refine ⟨x, late, q, xsc, rfl, ⟨dxc, hxc⟩, hqc, fun p2 np2 => ?_⟩
    have hd := hc.grow (Grow.new np2 (o := .tup xsc))
    have rxd := (KT.grow (Grow.new np2 (o := .tup xsc))).rows rxc
    have hxd := rd_new np2 hxc (o := .tup xsc)
    walk_at "go"
    refine w_showR upd_same rxd hc.good l8 hl ?_
    walk_at "go"
    refine ⟨.ref x, rfl, x, _, dxc, _, _, rfl, hxd, T.cl_Line, T.n_late, rfl, ?_⟩
    walk_at "go"
    exact k n5 _ (by omega) hd
end
end K42

set_option maxRecDepth 100000
set_option maxHeartbeats 4000000
namespace K42
open PySem L2 FW PyProof.Rows
local macro_rules | `(tactic| walk_at "side") => `(tactic| first
  | omega
  | exact ⟨by omega, by omega⟩
  | exact Or.inl ⟨by omega, by omega⟩
  | exact Or.inr ⟨by omega, by omega⟩
  | exact ⟨by omega, by omega, by omega⟩
  | exact ⟨by decide, by decide, by decide⟩
  | (refine mix2 ?_ ?_ ?_ ?_ ?_ ?_ ?_ ?_ ?_ ?_ <;> omega))
local macro_rules | `(tactic| walk_at "hp") => `(tactic| first
  | assumption | exact upd_same
  | (refine' rd_new ?n ?q; (case n => assumption); (case q => walk_at "hp"))
  | (refine' rd_ne ?n ?q; (case n => first | assumption | (apply Ne.symm; assumption)); (case q => walk_at "hp")))
local macro_rules | `(tactic| walk_at "sq") => `(tactic| first
  | assumption
  | (with_reducible apply SqL.of; walk_at "hp") | (with_reducible apply SqT.of; walk_at "hp")
  | ((with_reducible refine' sqL_new ?n ?q); (case n => assumption); (case q => walk_at "sq"))
  | ((with_reducible refine' sqT_new ?n ?q); (case n => assumption); (case q => walk_at "sq"))
  | ((with_reducible refine' sqL_ne ?n ?q); (case n => first | assumption | (apply Ne.symm; assumption)); (case q => walk_at "sq"))
  | ((with_reducible refine' sqT_ne ?n ?q); (case n => first | assumption | (apply Ne.symm; assumption)); (case q => walk_at "sq"))
  | ((with_reducible refine' Ext.sqL ?e ?n ?q); (case e => assumption); (case n => first | assumption | (apply Ne.symm; assumption)); (case q => walk_at "sq"))
  | ((with_reducible refine' Ext.sqT ?e ?n ?q); (case e => assumption); (case n => first | assumption | (apply Ne.symm; assumption)); (case q => walk_at "sq"))
  | ((with_reducible refine' Grow.sqL ?e ?q); (case e => assumption); (case q => walk_at "sq"))
  | ((with_reducible refine' Grow.sqT ?e ?q); (case e => assumption); (case q => walk_at "sq")))
local macro_rules | `(tactic| walk_at "sqs") => `(tactic| first | assumption | (exact ‹∀ H, SqT _ H _ _› _) | (apply SqT.of; walk_at "hp"))
local macro_rules | `(tactic| walk_at "kn") => `(tactic| first | assumption | exact True.intro)
local macro_rules | `(tactic| walk_at "fw") => `(tactic| with_reducible first
  | refine w_seq ?_ | refine w_asg ?_ | refine w_ret ?_ | refine w_drop ?_ | refine w_next ?_ | refine w_c ?_ | refine w_op ?_ | refine w_un ?_
  | refine w_test ?_ | refine w_B ?_ | refine w_bl ?_ | refine w_not ?_ | refine w_and ?_ | refine w_or ?_ | refine w_andV ?_ | refine w_orV ?_ | refine w_notV ?_
  | refine w_if ?_ | refine w_ifE ?_ | refine w_yes ?_ | refine w_no ?_ | refine w_rfl ?_ | refine w_tr ?_ | refine w_nyes ?_ | refine w_nno ?_ | refine w_T ?_ | refine w_F ?_ | refine w_nil ?_ | refine w_cons ?_ | refine w_cb ?_ | refine w_call ?_ | refine w_lst ?_ | refine w_tup ?_
  | refine w_I0 ?_ | refine w_U ?_ | refine w_int ?_ | refine w_intB ?_ | refine w_abs ?_ | refine w_raise1 ?_ | refine w_sub ?_ | refine w_gcons ?_ | refine w_gnil ?_ | refine w_par ?_ | refine w_chain ?_ | refine w_callNB ?_)
local macro_rules | `(tactic| walk_at "fwv") => `(tactic| first
  | ((with_reducible refine' w_var ?e ?_); (case e => rfl))
  | ((with_reducible refine' w_I ?e ?_); (case e => walk_at "side"))
  | ((with_reducible refine' w_ixL ?s ?e ?_); (case s => walk_at "sq"); (case e => rfl))
  | ((with_reducible refine' w_lenL ?s ?_); (case s => walk_at "sq"); try simp only [List.length_map, List.length_cons, List.length_nil])
  | ((with_reducible refine' w_setL ?e ?f ?_); (case e => walk_at "hp"); (case f => rfl); try simp only [Int.reduceToNat, List.set_cons_zero, List.set_cons_succ, upd_upd])
  | ((with_reducible refine' w_gtup ?s ?l ?_); (case s => walk_at "sq"); (case l => rfl))
  | ((with_reducible refine' w_eq ?e ?_); (case e => rfl))
  | ((with_reducible refine' w_ne ?e ?_); (case e => rfl))
  | ((with_reducible refine' w_mk1 ?o ?n ?_); (case o => apply Exn.oex; assumption); (case n => apply Exn.no; assumption); intro _ _)
  | ((with_reducible refine w_dnew ?_); intro _ _)
  | ((with_reducible refine' w_inT (ss := ?ss) ?s ?_); (case s => walk_at "sqs"))
  | ((with_reducible refine' w_notInT (ss := ?ss) ?s ?_); (case s => walk_at "sqs"))
  | ((with_reducible refine' w_inX ?s ?f ?g ?_); (case s => walk_at "sqs"); (case f => rfl); (case g => rfl))
  | ((with_reducible refine' w_isIntA ?k ?_); (case k => walk_at "kn"))
  | ((with_reducible refine' w_isBlA ?k ?_); (case k => walk_at "kn"))
  | ((with_reducible refine' w_isStrA ?k ?_); (case k => walk_at "kn"))
  | ((with_reducible refine w_par2 ?_); simp only [List.set_cons_zero, List.set_cons_succ])
  | ((with_reducible refine w_name ?_); simp only [List.set_cons_zero, List.set_cons_succ]))
local macro_rules | `(tactic| walk_at "size") => `(tactic| first | (show _ ≤ sizeLine; decide) | (simp only [List.length_cons, List.length_nil]; decide))
local macro_rules | `(tactic| walk_at "mk") => `(tactic| ((with_reducible refine' w_made ?n ?_); (case n => walk_at "size"); intro _ _))
local macro_rules | `(tactic| walk_at "ev") => `(tactic| simp only [reduceCtorEq, V.int.injEq, V.bl.injEq, V.str.injEq, V.ref.injEq, List.append_nil, List.cons_append, List.nil_append, decide_true, decide_false, Bool.not_true, Bool.not_false])
local macro_rules | `(tactic| walk_at "go") => `(tactic| repeat (first | walk_at "fw" | walk_at "fwv" | walk_at "mk" | (dsimp only) | walk_at "ev"))
local macro_rules | `(tactic| walk_at "br") => `(tactic| first | refine w_iteN (fun _ => ?_) (fun _ => ?_) | refine w_iteD (fun _ => ?_) (fun _ => ?_) | refine w_ite (fun _ => ?_) (fun _ => ?_))
local macro_rules | `(tactic| walk_at "fork") => `(tactic| (first | refine w_iteN (fun hx => ?_) (fun hx => ?_) | refine w_iteD (fun hx => ?_) (fun hx => ?_) | refine w_ite (fun hx => ?_) (fun hx => ?_)) <;> first | (exact absurd hx (by decide +kernel)) | skip)
local macro_rules | `(tactic| walk_at "gr") => `(tactic| repeat' (first | exact Grow.refl _ | assumption | refine Grow.trans ?_ (Grow.new (by assumption))))

def spEx (sp : Hp → Addr → Addr → List Int → Sp) : Sp := fun vs H Q E => ∃ H0 c l cells, sp H0 c l cells vs H Q E
section
variable {P : Program} {w : World} {K : PySem.W.Frag} {mg : Str → Option Value} {base : Heap}
theorem okEx {CX : CXT} {k : Nat} {f : Addr} {fd : FuncData} {ps : List Str} {sp : Hp → Addr → Addr → List Int → Sp} (F : ∀ H0 c l cells, FnOk P w K mg base CX k f fd ps (sp H0 c l cells)) : FnOk P w K mg base CX k f fd ps (spEx sp) :=
  ⟨fun vs H Q E ⟨a, b, c, d, h⟩ => (F a b c d).len vs H Q E h, fun A outer s H args us vs Q E hr e0 hb hv ⟨a, b, c, d, h⟩ => (F a b c d).run A outer s H args us vs Q E hr e0 hb hv h⟩
theorem gEx {CX : CXT} {k : Nat} {f : Addr} {fd : FuncData} {ps : List Str} {sp : Hp → Addr → Addr → List Int → Sp} (F : ∀ H0 c l cells, FnG P w K mg base CX k f fd ps (sp H0 c l cells)) : FnG P w K mg base CX k f fd ps (spEx sp) :=
  ⟨fun vs H Q E ⟨a, b, c, d, h⟩ => (F a b c d).size vs H Q E h, fun A outer s H args us vs Q E hG hr e0 hb hv ⟨a, b, c, d, h⟩ => (F a b c d).goes A outer s H args us vs Q E hG hr e0 hb hv h⟩
theorem x__law_lift (T : TxtL P w K mg base) : Can P w K mg base CX0 1 "_law_lift" ["_law_urn_here", "_law_many"] (spEx fun H0 c l cells => spDraw K H0 c l cells) := T.d__law_lift.can fun f fd F => okEx fun _ _ _ _ => (ok__law_lift T F).imp drawL
theorem x__law_one_of (T : TxtL P w K mg base) : Can P w K mg base CX0 2 "_law_one_of" ["_law_urn_here", "_law_some"] (spEx fun H0 c l cells => spOneL K H0 c l cells) := T.d__law_one_of.can fun f fd F => okEx fun _ _ _ _ => ok__law_one_of T F
theorem x__law_deed_right (T : TxtL P w K mg base) : CanG P w K mg base CX0 6 "_law_deed_right" ["_law_urn_here", "_law_line", "_law_rows", "_law_late"] (spEx fun H0 c l cells => spDeed K T.cLine (TT0 T) H0 c l cells) := canG_of T.d__law_deed_right fun f fd F => gEx fun _ _ _ _ => ok__law_deed_right T F
theorem x__law_refused_right (T : TxtL P w K mg base) : CanG P w K mg base CX0 8 "_law_refused_right" ["_law_urn_here", "_law_line", "_law_late"] (spEx fun H0 c l cells => spRefused K T.cLine (TT0 T) H0 c l cells) := by
  obtain ⟨f, fd, F, m, b, e⟩ := T.d__law_refused_right.ex
  exact ⟨f, fd, gEx fun _ _ _ _ => ok__law_refused_right T F e, m, F.kp, b⟩
theorem kb_init {f : Addr} {fd : FuncData} (F : Fun K "__init__" "Line.__init__" s_Line___init__ f fd) : KBn K fd ["self", "late"] 1 ["late"] (fun us ws => us ++ ws) (fun vs zs => vs ++ zs) := by
  obtain ⟨oc, od, kV, doc, pm, an, cdv, ct, osl, rfl, lk, hcd⟩ := F.ex
  refine ⟨fun s us ws _ l1 l2 => ?_, fun r z => r.append z⟩
  match us, ws, l1, l2 with
  | [a], [b], _, _ => exact .of_eq rfl
theorem made {H H' : Hp} {C x dx : Addr} (hx : H x = none) (hd : H dx = none) (e : Ext x (upd (upd H dx (.own x)) x (.ins C dx [])) H') : Grow H H' := fun b o h => e b o (ne_of_none h hx) (by rw [upd_ne (ne_of_none h hx), upd_ne (ne_of_none h hd)]; exact h)
theorem made_free {H : Hp} {C x dx q : Addr} (h : upd (upd H dx (.own x)) x (.ins C dx []) q = none) : H q = none := by
  by_cases e : q = x
  · rw [e, upd_same] at h; cases h
  · rw [upd_ne e] at h
    by_cases e2 : q = dx
    · rw [e2, upd_same] at h; cases h
    · rw [upd_ne e2] at h; exact h
theorem gen_for {it : TI} {g : TG} {tb : TS} {D : Ends} {σ : L2.St} {H : Hp} (h : ∀ D', D' = D → tFor it g tb D' σ H) : tFor it g tb D σ H := h D rfl
def spLaw (K : PySem.W.Frag) (pR pL : Addr) : Sp := fun vs H Q _ => ∃ (a : Addr) (ns : List Int), vs = [.ref a] ∧ SqL K H a (ns.map V.int) ∧ ns.length ≤ 63 ∧ LamX.Tabs [(pR, QR), (pL, QL)] H ∧ ∀ H', Q (.bl true) H'
theorem ok_law {f : Addr} {fd : FuncData} (T : TxtL P w K mg base) (F : Fun K "law" "law" s_law f fd) (hcode : fd.code = .ref T.cL) : FnG P w K mg base CX0 9 f fd ["_law_script"] (spLaw K T.pR T.pL) := by
  obtain ⟨g, gd, Fg, hmg, hbg⟩ := T.d__law_heard.ex
  obtain ⟨oc, od, kV, doc, pm, an, cdv, ct, osl, rfl, lk, hcd⟩ := Fg.ex
  obtain ⟨fI, fdI, MK, FI, BI⟩ := T.mk_Line
  obtain ⟨fdL, FL, bL⟩ := T.f_letters
  refine fun_okCG F hcode sc_law (fun vs H Q E h => ?_) (fun A outer s H vs Q E hG hr h => ?_)
  · obtain ⟨a, ns, rfl, _⟩ := h; rfl
  · obtain ⟨a, ns, rfl, sq, hn, ht, k⟩ := h
    refine ⟨_, PSs.nox (pss_cons (ps_set (i := 1) sc_law.nd rfl (Or.inl rfl) (pe_can (E := E0) (c__law_urn T) hr (by decide) pass0 rfl (pa_cons (pv 0) pa_nil)))
 (pss_cons (ps_for PassesOwn.never rfl (pi_range1 (by rfl) T.b_range (pa_cons pe_int pa_nil)) (pg_name (i := 2) sc_law.nd rfl (Or.inl rfl))
 (pss_cons (ps_set (i := 3) sc_law.nd rfl (Or.inl rfl) (pe_can (E := E0) (x__law_one_of T) hr (by decide) pass0 rfl (pa_cons (pv 1) (pa_cons (pe_lst (pa_cons pe_int (pa_cons pe_int (pa_cons pe_int (pa_cons pe_int (pa_cons (pe_can (E := E0) (x__law_lift T) hr (by decide) pass0 rfl (pa_cons (pv 1) (pa_cons pe_int pa_nil))) pa_nil)))))) pa_nil))))
 (pss_cons (ps_par (i := 4) (j := 5) rfl sc_law.nd rfl rfl (by decide) rfl rfl (pa_cons (pe_can (E := E0) (x__law_one_of T) hr (by decide) pass0 rfl (pa_cons (pv 1) (pa_cons (pe_lst (pa_cons (pe_make (E := E0) MK (ok_init T.toTxt FI) (hr.mono (by decide)) rfl T.g_Line BI .nil passL (pa_cons (pv 3) pa_nil)) (pa_cons (pe_makeK0 (E := E0) MK (ok_init T.toTxt FI) (hr.mono (by decide)) rfl T.g_Line (kb_init FI) passL (pk_cons (pv 3) pk_nil)) pa_nil))) pa_nil))) (pa_cons (pe_lst pa_nil) pa_nil)) (by rfl))
 (pss_cons (ps_if (PW.pt (pw_or (pt_cmpR op_ne (pe_callB (call_show hG hr.units) (by rfl) T.b_repr (by decide +kernel) (pa_cons (pe_prop (E := E0) (pv 4) T.cl_Line T.p_letters (ok_letters T.toTxt FL) (hr.mono (by decide)) bL .nil pass0 rfl) pa_nil)) pe_str (nomark _)) (pw_or1 (pt_cmpR op_ne (pe_callB (call_show hG hr.units) (by rfl) T.b_repr (by decide +kernel) (pa_cons (pe_fld (pv 4) rfl) pa_nil)) (pe_callB (call_show hG hr.units) (by rfl) T.b_repr (by decide +kernel) (pa_cons (pv 3) pa_nil)) (nomark _)))))
 (pss_one (ps_ret pe_bl))
 pss_nil)
 (pss_cons (ps_for PassesOwn.never rfl (pi_range1 (by rfl) T.b_range (pa_cons (pe_op op_add pe_int (pe_can (E := E0) (x__law_lift T) hr (by decide) pass0 rfl (pa_cons (pv 1) (pa_cons pe_int pa_nil)))) pa_nil)) (pg_name (i := 6) sc_law.nd rfl (Or.inl rfl))
 (pss_cons (ps_set (i := 5) sc_law.nd rfl (Or.inl rfl) (pe_canG (E := E0) (x__law_deed_right T) hG hr (by decide) pass0 rfl (pa_cons (pv 1) (pa_cons (pv 4) (pa_cons (pv 5) (pa_cons (pv 3) pa_nil))))))
 (pss_one (ps_if (PW.pt (pw_or (pt_cmpR op_isN (pv 5) pe_non (nomark _)) (pw_or1 (pt_cmpR op_ne (pe_callB (call_show hG hr.units) (by rfl) T.b_repr (by decide +kernel) (pa_cons (pe_prop (E := E0) (pv 4) T.cl_Line T.p_letters (ok_letters T.toTxt FL) (hr.mono (by decide)) bL .nil pass0 rfl) pa_nil)) (pe_callB (call_show hG hr.units) (by rfl) T.b_repr (by decide +kernel) (pa_cons (pe_callTy call_tuple_of (by rfl) T.b_tuple (by decide +kernel) (pa_cons (pv 5) pa_nil)) pa_nil)) (nomark _)))))
 (pss_one (ps_ret pe_bl))
 pss_nil))))
 (pss_one (ps_if (pt_not (pt_val (pe_canG (E := E0) (x__law_refused_right T) hG hr (by decide) pass0 rfl (pa_cons (pv 1) (pa_cons (pv 4) (pa_cons (pv 3) pa_nil))))))
 (pss_one (ps_ret pe_bl))
 pss_nil)))))))
 (pss_cons (ps_set (i := 7) sc_law.nd rfl (Or.inr rfl) (pe_can (E := E0) (x__law_one_of T) hr (by decide) pass0 rfl (pa_cons (pv 1) (pa_cons (pe_lst (pa_cons (pe_un un_neg pe_int) (pa_cons pe_int (pa_cons pe_bl (pa_cons pe_non (pa_cons pe_str (pa_cons (pe_lst (pa_cons pe_int pa_nil)) (pa_cons (pe_op op_pow pe_int pe_int) pa_nil)))))))) pa_nil))))
 (pss_one (ps_ret (pe_cmpR op_eq (LamX.pe_lamcall (T := TT0 T) (TT := TTheard T.cBadNumber) (k := 5) rfl hmg Fg.kp lk hcd hbg sc__law_heard rfl (.inl rfl) (heard_gives (X := (cxOf CX0 P w K mg base N_law "law" (defScope s_law) f (.ref T.cL) A outer s H E).nox) T) T.tL rfl (mem_pL T) (uniq_pL T) (hr.mono (by decide)) (LamX.lamS_by (show LamX.lamSB (defScope s_law) _ = true from by decide +kernel)) rfl (fun _ _ _ _ _ => rfl) (fun A outer s H E f c' hr' => pe_make (E := E) MK (ok_init T.toTxt FI) (hr'.mono (by decide)) rfl T.g_Line BI .nil (passes_call (takes_of rfl rfl rfl rfl) (fun _ _ _ _ h => h)) (pa_cons (pv 7) pa_nil))) pe_str (nomark _))))))), ?_⟩
    rw [show L2.start N_law [(V.ref a)] = [some (V.ref a), none, none, none, none, none, none, none] from rfl]; try dsimp only [cxOf]
    walk_at "go"
    refine ⟨a, ns, rfl, sq, hn, fun c H1 nc g1 hc => ?_⟩
    have t1 := ht.ext g1
    obtain ⟨H0, l, cells, ink, pen1⟩ := pen_of hc
    clear ht sq hc g1 nc
    walk_at "go"
    refine ⟨3, rfl, by decide, by decide, for_range (n := 3) (fun i σ H' => ∃ s2 s3 s4 s5 s6 n, σ = [some (.ref a), some (.ref c), s2, s3, s4, s5, s6, none] ∧ n ≤ 800 * i ∧ Pen H0 c l n H' ∧ LamX.Tabs (TT0 T) H') ?_ ?_ ?_⟩
    · exact ⟨_, _, _, _, _, 0, rfl, by omega, pen1, t1⟩
    · intro i σ H2 hi hx
      obtain ⟨s2, s3, s4, s5, s6, n, rfl, hn2, pen2, t2⟩ := hx
      clear pen1 t1
      walk_at "go"
      refine ⟨H0, c, l, cells, n, 9, rfl, ink, pen2, by omega, by omega, by omega, fun r9 n3 H3 r9a r9b hn3 pen3 e3 => ?_⟩
      have t3 := (fun (z : ∃ o, H2 c = some o ∧ (∀ ps, o ≠ .tbl ps) ∧ (∀ φ, o ≠ .ext φ)) => by obtain ⟨o, z1, z2, z3⟩ := z; exact tabs_extAt t2 z1 z2 z3 e3 : _ → LamX.Tabs (TT0 T) H3) (by obtain ⟨rr, z⟩ := pen2.cl; exact ⟨_, z, nofun, nofun⟩)
      clear pen2 t2 e3
      walk_at "go"
      rename_i p4 u4
      have fp4 : upd H3 p4 (.lst [.int 0, .int 1, .int 2, .int 8, .int r9]) p4 = some (.lst [.int 0, .int 1, .int 2, .int 8, .int r9]) := upd_same
      have pc4 := pen3.ne u4
      have pen4 := pen3.grow (Grow.new u4 (o := .lst [.int 0, .int 1, .int 2, .int 8, .int r9]))
      have t4 := t3.ext (Grow.new u4 (o := .lst [.int 0, .int 1, .int 2, .int 8, .int r9]))
      generalize upd H3 p4 (.lst [.int 0, .int 1, .int 2, .int 8, .int r9]) = H4 at fp4 pen4 t4 ⊢
      clear pen3 t3 u4
      refine ⟨H0, c, l, cells, n3, p4, _, rfl, ink, pen4, by omega, SqL.of fp4, pc4, by simp, by simp, fun lv n5 H5 hlv hn5 pen5 e5 => ?_⟩
      obtain ⟨late, rfl, l0, l8⟩ : ∃ late : Int, lv = .int late ∧ 0 ≤ late ∧ late ≤ 8 := by
        simp only [List.mem_cons, List.not_mem_nil, or_false] at hlv
        rcases hlv with rfl | rfl | rfl | rfl | rfl
        · exact ⟨_, rfl, by omega, by omega⟩
        · exact ⟨_, rfl, by omega, by omega⟩
        · exact ⟨_, rfl, by omega, by omega⟩
        · exact ⟨_, rfl, by omega, by omega⟩
        · exact ⟨_, rfl, by omega, by omega⟩
      have t5 : LamX.Tabs (TT0 T) H5 := by obtain ⟨rr, z⟩ := pen4.cl; exact tabs_extAt t4 z nofun nofun e5
      clear pen4 t4 e5 fp4 hlv
      walk_at "go"
      unfold tMake
      walk_at "go"
      intro x1 d1 nx1 nd1 dx1
      refine ⟨x1, d1, .int late, rfl, upd_same, trivial, fun s es s0 s8 q1 H6 nq1 ln1 hq1 e6 => ?_, fun z => by unfold within at z; simp at z; omega⟩
      cases es
      have g6 := made nx1 nd1 e6
      have fx1 := pen5.free ink nx1
      have fq1 := pen5.free ink (made_free nq1)
      have pen6 := pen5.grow g6
      have t6 := t5.ext g6
      clear e6 g6 pen5 t5 nq1 nx1 nd1
      refine ⟨rfl, ?_⟩
      unfold tMakeK
      walk_at "go"
      refine ⟨rfl, rfl, fun x2 d2 nx2 nd2 dx2 => ?_⟩
      refine ⟨x2, d2, .int late, rfl, upd_same, trivial, fun s es s0 s8 q2 H7 nq2 ln2 hq2 e7 => ?_, fun z => by unfold within at z; simp at z; omega⟩
      cases es
      have g7 := made nx2 nd2 e7
      have fx2 := pen6.free ink nx2
      have fq2 := pen6.free ink (made_free nq2)
      have pen7 := pen6.grow g7
      have t7 := t6.ext g7
      obtain ⟨dv1, ln1⟩ := ln1
      obtain ⟨dv2, ln2⟩ := ln2
      replace ln1 := g7 _ _ ln1
      replace hq1 := g7 _ _ hq1
      clear e7 g7 pen6 t6 nq2 nx2 nd2
      refine ⟨rfl, ?_⟩
      walk_at "go"
      rename_i p8 u8
      have hp8 : upd H7 p8 (.lst [.ref x1, .ref x2]) p8 = some (.lst [.ref x1, .ref x2]) := upd_same
      have pc8 := pen7.ne u8
      have pen8 := pen7.grow (Grow.new u8 (o := .lst [.ref x1, .ref x2]))
      have t8 := t7.ext (Grow.new u8 (o := .lst [.ref x1, .ref x2]))
      replace ln1 := rd_new u8 ln1 (o := .lst [.ref x1, .ref x2])
      replace ln2 := rd_new u8 ln2 (o := .lst [.ref x1, .ref x2])
      replace hq1 := rd_new u8 hq1 (o := .lst [.ref x1, .ref x2])
      replace hq2 := rd_new u8 hq2 (o := .lst [.ref x1, .ref x2])
      generalize upd H7 p8 (.lst [.ref x1, .ref x2]) = H8 at hp8 pen8 t8 ln1 ln2 hq1 hq2 ⊢
      clear pen7 t7 u8
      refine ⟨H0, c, l, cells, n5, p8, _, rfl, ink, pen8, by omega, SqL.of hp8, pc8, by simp, by simp, fun xv n9 H9 hxv hn9 pen9 e9 => ?_⟩
      have t9 : LamX.Tabs (TT0 T) H9 := by obtain ⟨rr, z⟩ := pen8.cl; exact tabs_extAt t8 z nofun nofun e9
      obtain ⟨x, q, dv, rfl, ln, hq, fx, fq⟩ : ∃ x q dv, xv = .ref x ∧ H9 x = some (.ins T.cLine dv [("late", .int late), ("lying", .ref q)]) ∧ H9 q = some (.lst []) ∧ H0 x = none ∧ H0 q = none := by
        simp only [List.mem_cons, List.not_mem_nil, or_false] at hxv
        rcases hxv with rfl | rfl
        · exact ⟨x1, q1, dv1, rfl, e9 _ _ (Ne.symm (ink.ne' fx1)) ln1, e9 _ _ (Ne.symm (ink.ne' fq1)) hq1, fx1, fq1⟩
        · exact ⟨x2, q2, dv2, rfl, e9 _ _ (Ne.symm (ink.ne' fx2)) ln2, e9 _ _ (Ne.symm (ink.ne' fq2)) hq2, fx2, fq2⟩
      clear ln1 ln2 hq1 hq2 fx1 fx2 fq1 fq2 pen8 t8 e9 hp8 hxv
      walk_at "go"
      rename_i p up
      have pq : p ≠ q := Ne.symm (ne_of_none hq up)
      have here : Here K T.cLine (TT0 T) H0 c l x late n9 q p [] [] (upd H9 p (.lst [])) := ⟨pen9.grow (Grow.new up), t9.ext (Grow.new up), ⟨dv, rd_new up ln⟩, ⟨[], rd_new up hq, .nil⟩, ⟨[], upd_same, .nil⟩, pq, fx, fq, pen9.ne up, fun r hr => nomatch hr⟩
      generalize upd H9 p (.lst []) = HA at here ⊢
      clear pen9 t9 ln hq up
      obtain ⟨dxc, hx⟩ := here.line
      obtain ⟨xs, hq, rx⟩ := here.xs
      walk_at "go"
      refine ⟨.ref x, rfl, x, dxc, _, rfl, hx, ?_⟩
      refine ⟨x, late, q, xs, rfl, ⟨dxc, hx⟩, hq, fun pt npt => ?_⟩
      have hd := here.grow (Grow.new npt (o := .tup xs))
      have rxd := (KT.grow (Grow.new npt (o := .tup xs))).rows rx
      have hxd := rd_new npt hx (o := .tup xs)
      walk_at "go"
      refine w_showR upd_same rxd (fun r hr => nomatch hr : Good late []) l8 (by simp) ?_
      walk_at "go"
      have tn : told [] = ("()" : Str) := by decide +kernel
      rw [if_neg (by rw [tn]; simp)]
      walk_at "go"
      refine ⟨.ref x, rfl, x, _, dxc, _, _, rfl, hxd, T.cl_Line, T.n_late, rfl, ?_⟩
      walk_at "go"
      refine w_showI (sh_log (by unfold Sh; omega)) ?_
      walk_at "go"
      refine w_showI (sh_log (by unfold Sh; omega)) ?_
      walk_at "go"
      generalize upd HA pt (.tup xs) = HB at hd ⊢
      clear rxd hxd hx rx hq here npt tn
      refine gen_for fun D0 hD0 => ?_
      unfold tFor iRng1
      walk_at "go"
      refine ⟨H0, c, l, cells, n9, 30, rfl, ink, hd.pen, by omega, by omega, by omega, fun r nC HC r0 r1 hnC penC eC => ?_⟩
      have hc := hd.ext_c ink penC eC
      clear hd eC penC
      walk_at "go"
      refine ⟨5 + r, rfl, by omega, by omega, for_range (D := D0) (n := (5 + r).toNat) (fun j σ H' => ∃ s6 n q p rs, σ = [some (.ref a), some (.ref c), some (.int (0 + (i : Int))), some (.int late), some (.ref x), some (.ref p), s6, none] ∧ n ≤ nC + 20 * j ∧ rs.length ≤ j ∧ Here K T.cLine (TT0 T) H0 c l x late n q p rs rs H') ?_ ?_ ?_⟩
      · exact ⟨_, _, _, _, _, rfl, by omega, by simp, hc⟩
      · intro j σ HD hj hx
        obtain ⟨s6, nD, q, p, rs, rfl, hnD, hrs, hd⟩ := hx
        clear hc
        walk_at "go"
        refine ⟨H0, c, l, cells, x, p, late, nD, q, rs, rfl, ink, hd, by omega, by omega, l0, l8, fun nE q' p' rs' HE hnE hrs' he => ?_⟩
        clear hd
        obtain ⟨dxe, hx⟩ := he.line
        obtain ⟨xs, hq, rx⟩ := he.xs
        walk_at "go"
        refine ⟨.ref x, rfl, x, dxe, _, rfl, hx, ?_⟩
        refine ⟨x, late, q', xs, rfl, ⟨dxe, hx⟩, hq, fun pt npt => ?_⟩
        have hf := he.grow (Grow.new npt (o := .tup xs))
        have rxf := (KT.grow (Grow.new npt (o := .tup xs))).rows rx
        walk_at "go"
        refine w_showR upd_same rxf he.good l8 (by omega) ?_
        obtain ⟨ys, hp, ry⟩ := hf.ys
        walk_at "go"
        refine ⟨p', ys, rfl, .inl ⟨SqL.of hp, fun pu npu => ?_⟩⟩
        have hg := hf.grow (Grow.new npu (o := .tup ys))
        have ryg := (KT.grow (Grow.new npu (o := .tup ys))).rows ry
        walk_at "go"
        refine w_showR upd_same ryg he.good l8 (by omega) ?_
        walk_at "go"
        exact ⟨_, nE, q', p', rs', rfl, by omega, by omega, hg⟩
      · intro σ HD hx
        obtain ⟨s6, nD, q, p, rs, rfl, hnD, hrs, hd⟩ := hx
        clear hc
        rw [hD0]
        walk_at "go"
        refine ⟨H0, c, l, cells, x, p, late, nD, q, rs, rfl, ink, hd, by omega, by omega, l0, l8, fun nE HE hnE he => ?_⟩
        walk_at "go"
        exact ⟨_, _, _, _, _, nE, rfl, by omega, he.pen, he.tab⟩
    · intro σ H2 hx
      obtain ⟨s2, s3, s4, s5, s6, n, rfl, hn2, pen2, t2⟩ := hx
      clear pen1 t1
      walk_at "go"
      rename_i p3 e3 p4 e4
      have n3 : p3 ≠ c := pen2.ne e3
      have f3 : upd H2 p3 (.lst [.int 1]) p3 = some (.lst [.int 1]) := upd_same
      have f4 : ∃ L1, upd (upd H2 p3 (.lst [.int 1])) p4 (.lst [.int (-1), .int 9, .bl true, .non, .str "1", .ref p3, .int (10 ^ Int.toNat 20)]) p4 = some (.lst L1) ∧ L1 = [.int (-1), .int 9, .bl true, .non, .str "1", .ref p3, .int (10 ^ Int.toNat 20)] := ⟨_, upd_same, rfl⟩
      have pen3 := pen2.grow (Grow.new e3 (o := .lst [.int 1]))
      have n4 : p4 ≠ c := pen3.ne e4
      have t3 := t2.ext (Grow.new e3 (o := .lst [.int 1]))
      generalize upd H2 p3 (.lst [.int 1]) = H3 at f3 f4 pen3 t3 e4 ⊢
      replace f3 := rd_new e4 f3 (o := .lst [.int (-1), .int 9, .bl true, .non, .str "1", .ref p3, .int (10 ^ Int.toNat 20)])
      have pen4 := pen3.grow (Grow.new e4 (o := .lst [.int (-1), .int 9, .bl true, .non, .str "1", .ref p3, .int (10 ^ Int.toNat 20)]))
      have t4 := t3.ext (Grow.new e4 (o := .lst [.int (-1), .int 9, .bl true, .non, .str "1", .ref p3, .int (10 ^ Int.toNat 20)]))
      generalize upd H3 p4 (.lst [.int (-1), .int 9, .bl true, .non, .str "1", .ref p3, .int (10 ^ Int.toNat 20)]) = H4 at f3 f4 pen4 t4 ⊢
      obtain ⟨L1, f4, d1⟩ := f4
      have m1 : ∀ v ∈ L1, (Kn K H4 v ∧ v ≠ .ref c) ∧ within v (.int 0) (.int 8) = false := by
        intro v hv
        rw [d1] at hv
        simp only [List.mem_cons, List.not_mem_nil, or_false] at hv
        rcases hv with rfl | rfl | rfl | rfl | rfl | rfl | rfl
        all_goals first
          | exact ⟨⟨trivial, nofun⟩, rfl⟩
          | exact ⟨⟨trivial, nofun⟩, by decide⟩
          | exact ⟨⟨kn_lst f3, fun z => n3 (V.ref.inj z)⟩, rfl⟩
      have l1 : 0 < L1.length ∧ L1.length < 1000000 := by rw [d1]; exact ⟨by simp, by simp⟩
      clear d1 e3 e4 f3 pen2 pen3 t2 t3
      refine ⟨H0, c, l, cells, n, p4, L1, rfl, ink, pen4, by omega, SqL.of f4, n4, l1.1, l1.2, fun nv n5 H5 hnv hn5 pen5 e5 => ?_⟩
      have kn5 := Kn.ext e5 (m1 nv hnv).1.2 (m1 nv hnv).1.1
      have w5 := (m1 nv hnv).2
      have t5 : LamX.Tabs (TT0 T) H5 := by obtain ⟨rr, z⟩ := pen4.cl; exact tabs_extAt t4 z nofun nofun e5
      clear m1 hnv f4 pen4 t4 e5
      walk_at "go"
      refine heard_err (part := "late") t5 (fun Ha eN tA E' Q' he => ?_) (fun H6 e6 t6 => ?_)
      · unfold tMake
        walk_at "go"
        intro x dx nx nd dxx
        have nx' : upd Ha dx (.own x) x = none := by rw [upd_ne (Ne.symm dxx)]; exact nx
        have g := (Grow.new nd (o := .own x)).trans (Grow.new nx' (o := .ins T.cLine dx []))
        exact ⟨x, dx, nv, rfl, upd_same, (ExtN.kn eN kn5).grow g, fun s es s0 s8 => by rw [es] at w5; unfold within at w5; simp at w5; omega, fun _ d nd => he _ d g nd⟩
      walk_at "go"
      exact k H6
end
end K42

set_option maxRecDepth 100000
set_option maxHeartbeats 0
namespace K42
open PySem L2 FW PyProof.Rows
abbrev s_BadNumber_init : Stmt := inClass (top 11) 0
theorem sc_BadNumber_init : FnScope [("self" : Str), "part"] [("self" : Str), "part"] (defScope s_BadNumber_init) := ⟨rfl, rfl, rfl, by decide +kernel, rfl, by decide +kernel, by decide +kernel⟩
def fa : List He.Fa := [.glo "is_list", .glo "is_integer", .glo "is_within", .glo "is_short", .glo "are_shorts", .glo "_law_urn", .glo "_law_lift", .glo "_law_one_of", .glo "_law_short", .glo "_law_heard", .glo "_law_handed", .glo "_law_deed_right", .glo "_law_refused_right", .glo "law", .glo "BadNumber", .glo "Line", .free "int", .free "bool", .free "list", .free "tuple", .free "len", .free "abs", .free "all", .free "isinstance", .free "range", .free "repr", .free "enumerate", .int "LEAST_SHORT" (-2147483648), .int "MOST_SHORT" 2147483647, .int "MOST_LATE" 8, .int "MOST_BACK" 99, .cls "Line", .noat "Line" "late", .noat "Line" "lying", .mkr "Line", .meth "Line" "__init__", .meth "Line" "send", .meth "Line" "place_back", .meth "Line" "hand", .meth "Line" "drop", .exm "BadNumber" "BadNumber" true]
def fn : List He.DefD := [dTop "is_list" s_is_list, dTop "is_integer" s_is_integer, dTop "is_within" s_is_within, dTop "is_short" s_is_short, dTop "are_shorts" s_are_shorts, dTop "_law_urn" s__law_urn, dTop "_law_lift" s__law_lift, dTop "_law_one_of" s__law_one_of, dTop "_law_short" s__law_short, dTop "_law_heard" s__law_heard, dTop "_law_handed" s__law_handed, dTop "_law_deed_right" s__law_deed_right, dTop "_law_refused_right" s__law_refused_right, dTop "law" s_law, dIn "BadNumber" "__init__" s_BadNumber_init, dIn "Line" "__init__" s_Line___init__, dIn "Line" "send" s_Line_send, dIn "Line" "place_back" s_Line_place_back, dIn "Line" "hand" s_Line_hand, dIn "Line" "drop" s_Line_drop]
def ts : List He.Tab := []
def tf : List He.Defn := [("_law_refused_right", none), ("law", none)]
def ex (K : PySem.W.Frag) : Bool := exnB K "BadNumber" "part" && (propB K (He.ga K "Line") "letters" "Line.letters" && decide ((He.cT K ("_law_refused_right", none)).2 ≠ (He.cT K ("law", none)).2))
section
variable {P : Program} {w : World} {K : PySem.W.Frag} {mg : Str → Option Value} {base h : Heap}
theorem ex_all (e : ex K = true) : exnB K "BadNumber" "part" = true ∧ propB K (He.ga K "Line") "letters" "Line.letters" = true ∧ (He.cT K ("_law_refused_right", none)).2 ≠ (He.cT K ("law", none)).2 := by
  unfold ex at e
  simp only [Bool.and_eq_true, decide_eq_true_eq] at e
  exact e
theorem ok_initB (d : He.SaysD fa fn K) : ∃ (fd : FuncData) (ps : List Str), FnOk P w K mg base CX0 1 (He.ma K (He.ga K "BadNumber") "__init__") fd ps (spInit1 K (He.ga K "BadNumber") "part") ∧ Binds K fd ps [] := by
  obtain ⟨fd, F⟩ := d.def_ 14 (d := dIn "BadNumber" "__init__" s_BadNumber_init) rfl
  have F2 : Fun K "__init__" _ s_BadNumber_init _ fd := fun_of (st := s_BadNumber_init) F
  exact ⟨fd, [("self" : Str), "part"], init1_ok (p := "part") F2 sc_BadNumber_init (fun X hN hS => pss_one (ps_ost (pv 0 (by rw [hN]; rfl) (by rw [hS]; exact .inl (by decide +kernel))) (pv 1 (by rw [hN]; rfl) (by rw [hS]; exact .inl (by decide +kernel))))), F2.binds (fun _ _ _ _ _ _ us hl => match us, hl with | [_, _], _ => rfl)⟩
theorem meth_of (d : He.SaysD fa fn K) {m q : Str} {st : Stmt} {ps : List Str} (i j : Nat) (e : fn[i]? = some (dIn "Line" m st)) (e2 : fa[j]? = some (.meth "Line" m)) (hq : ("Line" : Str) ++ "." ++ m = q)
    (b : ∀ (kV doc pm : Value) (an : Option Addr) (cdv ct : Value) (us : List Value), us.length = ps.length → bindArgs (PySem.W.fnOf m q (defArgs st) (defBody st) (defScope st) .none kV doc pm an cdv ct) ⟨us, []⟩ = pure (ps.zip us)) : MethOk K (He.ga K "Line") m q st ps := by
  subst hq
  obtain ⟨fd, F⟩ := d.def_ i (d := dIn "Line" m st) e
  have F2 : Fun K m _ st _ fd := fun_of (st := st) F
  exact ⟨⟨_, fd, He.meth_ok (d.fact j e2), F2, F2.binds b⟩⟩
def txt (X : K.In h) (G : h.Ns mainGlobals mg) (c : He.SaysX fa fn ts tf ex w h K) (z : wrote K (propG K (He.ga K "Line") "letters") = some (("letters" : Str), ("Line.letters" : Str), defArgs s_Line_letters, FuncBody.stmts (defBody s_Line_letters), defScope s_Line_letters, mainGlobals, [], builtinsNs))
    (TB : LamX.TabB base mg (He.cT K ("_law_refused_right", none)).1 (He.cT K ("_law_refused_right", none)).2) (TB2 : LamX.TabB base mg (He.cT K ("law", none)).1 (He.cT K ("law", none)).2) : TxtL P w K mg base :=
  have d := c.t.d
  have xs := ex_all c.more
  have pr := propB_ok xs.2.1
  { cBadNumber := He.ga K "BadNumber"
    cLine := He.ga K "Line"
    aLetters := propP K (He.ga K "Line") "letters"
    gLetters := propG K (He.ga K "Line") "letters"
    b_int := free_at X G d 16 rfl
    b_bool := free_at X G d 17 rfl
    b_list := free_at X G d 18 rfl
    b_tuple := free_at X G d 19 rfl
    b_len := free_at X G d 20 rfl
    b_abs := free_at X G d 21 rfl
    b_all := free_at X G d 22 rfl
    b_isinstance := free_at X G d 23 rfl
    b_range := free_at X G d 24 rfl
    b_repr := free_at X G d 25 rfl
    b_enumerate := free_at X G d 26 rfl
    g_LEAST_SHORT := int_at X G d 27 rfl
    g_MOST_SHORT := int_at X G d 28 rfl
    g_MOST_LATE := int_at X G d 29 rfl
    g_MOST_BACK := int_at X G d 30 rfl
    x_BadNumber := exnB_ok xs.1 (glo_at X G d 14 rfl) (ok_initB d)
    g_Line := glo_at X G d 15 rfl
    cl_Line := He.cls_ok (d.fact 31 (f := .cls "Line") rfl)
    n_late := He.noat_ok (d.fact 32 (f := .noat "Line" "late") rfl)
    n_lying := He.noat_ok (d.fact 33 (f := .noat "Line" "lying") rfl)
    d_is_list := defOk_of d 0 rfl (glo_at X G d 0 rfl) (fun _ _ _ _ _ _ us hl => match us, hl with | [_], _ => rfl)
    d_is_integer := defOk_of d 1 rfl (glo_at X G d 1 rfl) (fun _ _ _ _ _ _ us hl => match us, hl with | [_], _ => rfl)
    d_is_within := defOk_of d 2 rfl (glo_at X G d 2 rfl) (fun _ _ _ _ _ _ us hl => match us, hl with | [_, _, _], _ => rfl)
    d_is_short := defOk_of d 3 rfl (glo_at X G d 3 rfl) (fun _ _ _ _ _ _ us hl => match us, hl with | [_], _ => rfl)
    d_are_shorts := defOk_of d 4 rfl (glo_at X G d 4 rfl) (fun _ _ _ _ _ _ us hl => match us, hl with | [_, _], _ => rfl)
    d__law_urn := defOk_of d 5 rfl (glo_at X G d 5 rfl) (fun _ _ _ _ _ _ us hl => match us, hl with | [_], _ => rfl)
    d__law_lift := defOk_of d 6 rfl (glo_at X G d 6 rfl) (fun _ _ _ _ _ _ us hl => match us, hl with | [_, _], _ => rfl)
    d__law_one_of := defOk_of d 7 rfl (glo_at X G d 7 rfl) (fun _ _ _ _ _ _ us hl => match us, hl with | [_, _], _ => rfl)
    d__law_short := defOk_of d 8 rfl (glo_at X G d 8 rfl) (fun _ _ _ _ _ _ us hl => match us, hl with | [_], _ => rfl)
    d__law_heard := defOk_of d 9 rfl (glo_at X G d 9 rfl) (fun _ _ _ _ _ _ us hl => match us, hl with | [_], _ => rfl)
    d__law_handed := defOk_of d 10 rfl (glo_at X G d 10 rfl) (fun _ _ _ _ _ _ us hl => match us, hl with | [_, _, _], _ => rfl)
    d__law_deed_right := defOk_of d 11 rfl (glo_at X G d 11 rfl) (fun _ _ _ _ _ _ us hl => match us, hl with | [_, _, _, _], _ => rfl)
    m__init__ := meth_of d 15 35 rfl rfl rfl (fun _ _ _ _ _ _ us hl => match us, hl with | [_, _], _ => rfl)
    mk_Line := by
      obtain ⟨fd, F⟩ := d.def_ 15 (d := dIn "Line" "__init__" s_Line___init__) rfl
      have F2 : Fun K "__init__" _ s_Line___init__ _ fd := fun_of (st := s_Line___init__) F
      exact ⟨_, fd, He.mkr_ok (d.fact 34 (f := .mkr "Line") rfl), F2, F2.binds (fun _ _ _ _ _ _ us hl => match us, hl with | [_, _], _ => rfl)⟩
    p_letters := pr.1
    f_letters := by
      obtain ⟨fd, F⟩ := got_fun pr.2 z
      exact ⟨fd, F, F.binds (fun _ _ _ _ _ _ us hl => match us, hl with | [_], _ => rfl)⟩
    m_send := meth_of d 16 36 rfl rfl rfl (fun _ _ _ _ _ _ us hl => match us, hl with | [_, _], _ => rfl)
    m_place_back := meth_of d 17 37 rfl rfl rfl (fun _ _ _ _ _ _ us hl => match us, hl with | [_, _], _ => rfl)
    m_hand := meth_of d 18 38 rfl rfl rfl (fun _ _ _ _ _ _ us hl => match us, hl with | [_, _], _ => rfl)
    m_drop := meth_of d 19 39 rfl rfl rfl (fun _ _ _ _ _ _ us hl => match us, hl with | [_, _], _ => rfl)
    cR := (He.cT K ("_law_refused_right", none)).1
    pR := (He.cT K ("_law_refused_right", none)).2
    cL := (He.cT K ("law", none)).1
    pL := (He.cT K ("law", none)).2
    tR := TB
    tL := TB2
    apart := xs.2.2
    e_BadNumber := He.exm_ok (d.fact 40 (f := .exm "BadNumber" "BadNumber" true) rfl)
    d__law_refused_right := defOkC_of d 12 rfl (glo_at X G d 12 rfl) (fun _ _ _ _ _ _ us hl => match us, hl with | [_, _, _], _ => rfl) }
end
abbrev R : PySem.W.OpenRow := PySem.W.OpenLaw.row PySem.Challenge.rw_fairweather_k42_lines_of_letters
abbrev hk : PySem.W.Hook := hookP 5 fa fn ts tf ex "Line" "letters" "letters" "Line.letters" s_Line_letters
theorem lawG {w : World} {mg : Str → Option Value} {f : Addr} {h : Heap} (Y : hk.says w h) (G : h.Ns mainGlobals mg) (hm : mg ("law" : Str) = some (.ref f)) : ∃ K : PySem.W.Frag, K.In h ∧ LawG PySem.Challenge.rw_fairweather_k42_lines_of_letters w K 9 63 "_law_script" mg f h := by
  obtain ⟨K, X, c, z⟩ := Y
  have d := c.t.d
  have e := hm.symm.trans (glo_at X G d 13 rfl)
  cases e
  obtain ⟨fd, F0⟩ := d.def_ 13 (d := dTop "law" s_law) rfl
  have b := FunD.bindsA (ps := ["_law_script"]) F0 fun _ _ _ _ _ _ us hl => match us, hl with | [_], _ => rfl
  have F : Fun K "law" "law" s_law (He.ga K "law") fd := fun_of F0
  have hcode : fd.code = .ref (He.cT K ("law", none)).1 := by
    obtain ⟨oc, od, kV, doc, pm, an, cdv, ct, osl, rfl, lk, hcd⟩ := F.ex
    obtain ⟨cc, rfl⟩ := He.codeIn_ref hcd
    show Value.ref cc = .ref (He.codeOf K ("law", none))
    rw [He.codeOf_eq (p := (("law" : Str), none)) lk rfl]
  have m1 : (("_law_refused_right", none) : He.Defn) ∈ tf := List.mem_cons_self ..
  have m2 : (("law", none) : He.Defn) ∈ tf := List.mem_cons_of_mem _ (List.mem_cons_self ..)
  have both : ∀ {R : Addr × Addr → Prop}, R (He.cT K ("_law_refused_right", none)) → R (He.cT K ("law", none)) → ∀ p ∈ [He.cT K ("_law_refused_right", none), He.cT K ("law", none)], R p := fun r1 r2 p hp => by
    rcases List.mem_cons.mp hp with e | hp
    · rw [e]; exact r1
    · rw [List.mem_singleton.mp hp]; exact r2
  refine ⟨K, X, fd, [He.cT K ("_law_refused_right", none), He.cT K ("law", none)], spLaw K (He.cT K ("_law_refused_right", none)).2 (He.cT K ("law", none)).2, ?_, ?_, ?_, fun s u => b s [u] rfl, fun H a ns hl _ ht hs => ⟨a, ns, rfl, hs, hl, fun p hp => ?_, fun _ => rfl⟩, fun base _ _ TB => ?_⟩
  · exact both (c.empty _ m1) (c.empty _ m2)
  · exact both (c.out _ m1) (c.out _ m2)
  · exact both (PySem.W.codeHd_of_K X (c.hd _ m1)) (PySem.W.codeHd_of_K X (c.hd _ m2))
  · rcases List.mem_cons.mp hp with e | hp
    · rw [e]; exact LamX.TabS.nil (ht _ (List.mem_cons_self ..))
    · rw [List.mem_singleton.mp hp]; exact LamX.TabS.nil (ht _ (List.mem_cons_of_mem _ (List.mem_cons_self ..)))
  · exact ok_law (txt X G c z (TB _ (List.mem_cons_self ..)) (TB _ (List.mem_cons_of_mem _ (List.mem_cons_self ..)))) F hcode
end K42

set_option maxRecDepth 100000
set_option maxHeartbeats 0
open PySem PySem.W PySem.Calls PyProof.Rows
theorem PySem.Challenge.cw_fairweather_k42_lines_of_letters_holds : PySem.Challenge.rw_fairweather_k42_lines_of_letters.Holds := by
  w_on; o_law
  o_head K42.hk
  case hw => w_witness2
  case hc =>
    refine FW.walkG (l := PySem.Challenge.rw_fairweather_k42_lines_of_letters) (n := 63) (k := 9) (x := "_law_script") rfl (by decide) (by kernel_rfl) ⟨rfl, by decide, by decide⟩ ?F
    intro w mg fa h Y G hmg0
    exact K42.lawG Y G hmg0
