import PyProof.Rows.All
import Wide.All
import OpenK.AllK
import Wide.FinOn
import HandS.ForMost
import HandS.ForExc
import HandS.IsInst
import HandS.Wide
import HandS.CallLocal
import HandS.Defaults
import HandS.ExcInit
import HandS.ExcIs
import HandS.ExcField
import HandS.ExcValue
import HandS.RaiseMore
import HandS.Lambda
import HandS.EndTab
import PyProof.ReprRoads
import HandS.Comp
import KE.KDflt
import HandS.Property
import HandS.MakeKwOnly
import HandS.Star
import HandS.Flow
import HandS.Head0
import HandS.Head1
import HandS.Head2
import HandS.HeadEnd
import HandS.HeadHook1
import HandS.HeadHook2
import HandS.HeadHook3
import HandS.HeadHook4
import HandS.Zip
import KE.GoesEnum
import HandS.SortKw
import PyProof.WalkInts
import HandS.Conv
import KE.KDictList
import PyProof.NeKinds
import KE.KEqDict
import HandS.Dict
import HandS.TupSets
import HandS.SetKeys
import HandS.SortRule
import HandS.Sort
import HandS.DictSubView
import HandS.Iter
import HandS.TryOnly
import HandS.MakeKw
import HandS.More
import HandS.Style
import HandS.TupLe
import HandS.IterVal
import HandS.OwnIter
import HandS.TupMul
import HandS.Small
import HandS.TupAny
import HandS.DictComp
import HandS.StrMore
import PyProof.StrOps2
import OpenK.KOps
import HandS.Text
import HandS.Walk
import KE.KEqNest
import HandS.SortInts
import HandS.WordsDict
import HandS.Deep
import HandS.FStr
import KE.KCallOwn
import HandS.ClsMeth
import HandS.HeadNt
import HandS.NoneIn
import KE.KIntText
import KE.IntTextText
import PyProof.StrLawsTight
import PySem.Challenge.RW_fairweather_k00_errors_and_plain_values
set_option Elab.async false
set_option linter.all false
set_option maxRecDepth 100000
set_option maxHeartbeats 4000000
/-! fair weather: the ground that all laws stand on -/
namespace FW
open PySem L2 PyProof.Rows

/-! ### readings, a step each -/
section
variable {σ : L2.St} {H : Hp} {D : Ends} {Q : VK} {ta tb te : TE} {t u : TS} {g : TG} {i : Nat} {v x y : V} {r : R2} {tt tu : TT} {QT : Bool → Hp → Prop}
theorem w_seq (h : t { D with nx := u D } σ H) : tSeq t u D σ H := h
theorem w_asg (h : te σ H fun x H1 => g x σ H1 D.nx) : tAsg te g D σ H := h
theorem w_name {QG : L2.St → Hp → Prop} (h : QG (σ.set i (some v)) H) : gName i v σ H QG := h
theorem w_ret (h : te σ H D.rt) : tRet te D σ H := h
theorem w_drop (h : te σ H fun _ H1 => D.nx σ H1) : tDrop te D σ H := h
theorem w_next (h : D.nx σ H) : tNext D σ H := h
theorem w_var (e : σ[i]? = some (some v)) (h : Q v H) : tVar i σ H Q := ⟨v, e, h⟩
theorem w_c (h : Q v H) : tC v σ H Q := h
theorem w_op (h : ta σ H fun x H1 => tb σ H1 fun y H2 => r x y H2 Q) : tOp r ta tb σ H Q := h
theorem w_un {ru : V → Hp → VK → Prop} (h : ta σ H fun x H1 => ru x H1 Q) : tUn ru ta σ H Q := h
theorem w_I0 {f : Int → Int → V} {a b : Int} (h : Q (f a b) H) : rI0 f (.int a) (.int b) H Q := ⟨a, b, rfl, rfl, h⟩
theorem w_I {C : Int → Int → Prop} {f : Int → Int → V} {a b : Int} (c : C a b) (h : Q (f a b) H) : rI C f (.int a) (.int b) H Q := ⟨a, b, rfl, rfl, c, h⟩
theorem w_U {f : Int → V} {a : Int} (h : Q (f a) H) : rU f (.int a) H Q := ⟨a, rfl, h⟩
theorem w_eq (s : scal x y = true) (h : Q (.bl (decide (x = y))) H) : rEq x y H Q := ⟨s, h⟩
theorem w_ne (s : scal x y = true) (h : Q (.bl (!decide (x = y))) H) : rNe x y H Q := ⟨s, h⟩
theorem w_test (h : ta σ H fun x H1 => ∃ c, x = .bl c ∧ QT c H1) : tTest ta σ H QT := h
theorem w_B (h : ta σ H fun x H1 => ∃ c, x = .bl c ∧ QT c H1) : tB ta σ H QT := h
theorem w_bl {b : Bool} {R : Bool → Prop} (h : R b) : ∃ c, V.bl b = .bl c ∧ R c := ⟨b, rfl, h⟩
theorem w_not (h : tt σ H fun c H1 => QT (!c) H1) : tNot tt σ H QT := h
theorem w_and (h : tt σ H fun c H1 => if c = true then tu σ H1 QT else QT false H1) : tAnd tt tu σ H QT := h
theorem w_or (h : tt σ H fun c H1 => if c = true then QT true H1 else tu σ H1 QT) : tOr tt tu σ H QT := h
theorem w_andV (h : ta σ H fun x H1 => ∃ c, x = .bl c ∧ if c = true then tb σ H1 Q else Q (.bl false) H1) : tAndV ta tb σ H Q := h
theorem w_orV (h : ta σ H fun x H1 => ∃ c, x = .bl c ∧ if c = true then Q (.bl true) H1 else tb σ H1 Q) : tOrV ta tb σ H Q := h
theorem w_notV (h : ta σ H fun x H1 => ∃ c, x = .bl c ∧ Q (.bl (!c)) H1) : tNotV ta σ H Q := h
theorem w_if (h : tt σ H fun c H1 => if c = true then t D σ H1 else u D σ H1) : tIfS tt t u D σ H := h
theorem w_ifE (h : tt σ H fun c H1 => if c = true then ta σ H1 Q else tb σ H1 Q) : tIf tt ta tb σ H Q := h
theorem w_ite {c : Bool} {A B : Prop} (h1 : c = true → A) (h2 : c = false → B) : if c = true then A else B := by
  cases c with
  | true => exact h1 rfl
  | false => exact h2 rfl
theorem w_iteD {p : Prop} [Decidable p] {A B : Prop} (h1 : p → A) (h2 : ¬ p → B) : if decide p = true then A else B := by
  by_cases h : p
  · rw [if_pos (decide_eq_true h)]; exact h1 h
  · rw [if_neg (by simp [h])]; exact h2 h
theorem w_iteN {p : Prop} [Decidable p] {A B : Prop} (h1 : ¬ p → A) (h2 : p → B) : if (!decide p) = true then A else B := by
  by_cases h : p
  · rw [if_neg (by simp [h])]; exact h2 h
  · rw [if_pos (by simp [h])]; exact h1 h
theorem w_rfl {A : Prop} (h : A) : V.non = V.non ∧ A := ⟨rfl, h⟩
theorem w_tr {A : Prop} (h : A) : True ∧ A := ⟨trivial, h⟩
theorem w_nyes {A B : Prop} (h : B) : if (!true) = true then A else B := h
theorem w_nno {A B : Prop} (h : A) : if (!false) = true then A else B := h
theorem w_T {A B : Prop} (h : A) : if True then A else B := by rw [if_pos trivial]; exact h
theorem w_F {A B : Prop} (h : B) : if False then A else B := by rw [if_neg not_false]; exact h
theorem w_yes {A B : Prop} (h : A) : if true = true then A else B := h
theorem w_no {A B : Prop} (h : B) : if false = true then A else B := h
theorem w_nil {QA : List V → Hp → Prop} (h : QA [] H) : tNil σ H QA := h
theorem w_cons {ta : TE} {tr : TA} {QA : List V → Hp → Prop} (h : ta σ H fun x H1 => tr σ H1 fun xs H2 => QA (x :: xs) H2) : tCons ta tr σ H QA := h
theorem w_cb {rc : List V → Hp → VK → Prop} {t : TA} (h : t σ H fun vs H1 => rc vs H1 Q) : tCB rc t σ H Q := h
theorem w_call {sp : Sp} {dvs : List V} {E : XK} {t : TA} (h : t σ H fun vs H1 => sp (vs ++ dvs) H1 Q E) : tCall sp dvs E t σ H Q := h
theorem w_lst {t : TA} (h : t σ H fun xs H1 => xs.length ≤ sizeLine ∧ ∀ p, H1 p = none → Q (.ref p) (upd H1 p (.lst xs))) : tLst t σ H Q := h
theorem w_tup {t : TA} (h : t σ H fun xs H1 => xs.length ≤ sizeLine ∧ ∀ p, H1 p = none → Q (.ref p) (upd H1 p (.tup xs))) : tTup t σ H Q := h
theorem w_ixL {K : PySem.W.Frag} {p : Addr} {xs : List V} {k : Int} (s : SqL K H p xs) (e : atI xs k = some v) (h : Q v H) : rIxL K (.ref p) (.int k) H Q := ⟨p, xs, k, v, rfl, rfl, s, e, h⟩
theorem w_sub {ti to : TE} {ts : TSet} {QG : L2.St → Hp → Prop} (h : to σ H fun o H1 => ti σ H1 fun i H2 => ts o i v H2 fun H3 => QG σ H3) : gSub to ti ts v σ H QG := h
theorem w_setL {p : Addr} {xs : List V} {k : Int} {j : Nat} {QH : Hp → Prop} (e : H p = some (.lst xs)) (ej : ixN xs.length k = some j) (h : QH (upd H p (.lst (xs.set j v)))) : rSetL (.ref p) (.int k) v H QH := ⟨p, xs, k, j, rfl, rfl, e, ej, h⟩
end

/-- `int` of an int or of a truth -/
def rInt1 : List V → Hp → VK → Prop := fun xs H Q => match xs with
  | [.int i] => Q (.int i) H
  | [.bl b] => Q (.int (if b then 1 else 0)) H
  | _ => False
theorem call_intA {X : Cx} : CallR X (.type "int") rInt1 := by
  intro pins s σ H xs us Q I r h
  refine call_int1 pins s σ H xs us Q I r ?_
  unfold rInt1 at h
  split at h
  · exact Or.inl ⟨_, rfl, h⟩
  · exact Or.inr ⟨_, rfl, h⟩
  · exact h.elim
theorem w_int {i : Int} {H : Hp} {Q : VK} (h : Q (.int i) H) : rInt1 [.int i] H Q := h
theorem w_intB {b : Bool} {H : Hp} {Q : VK} (h : Q (.int (if b then 1 else 0)) H) : rInt1 [.bl b] H Q := h
def rAbs : List V → Hp → VK → Prop := fun xs H Q => ∃ i, xs = [.int i] ∧ Q (.int (if i < 0 then -i else i)) H
theorem call_absA {X : Cx} : CallR X (.builtin "abs") rAbs := call_abs
theorem w_abs {i : Int} {H : Hp} {Q : VK} (h : Q (.int (if i < 0 then -i else i)) H) : rAbs [.int i] H Q := ⟨i, rfl, h⟩
def rLen (K : PySem.W.Frag) : List V → Hp → VK → Prop := fun xs H Q => ∃ x n, xs = [x] ∧ LenV K x H n ∧ Q (.int n) H
theorem call_lenA {X : Cx} : CallR X (.builtin "len") (rLen X.K) := call_len
theorem w_lenL {K : PySem.W.Frag} {H : Hp} {Q : VK} {p : Addr} {xs : List V} (s : SqL K H p xs) (h : Q (.int xs.length) H) : rLen K [.ref p] H Q := ⟨.ref p, xs.length, rfl, Or.inl ⟨xs, s, rfl⟩, h⟩

/-! ### the cloud: what a law draws from -/
/-- at c a list of the cells (at another place), how many were begun (n), what is left of a great one -/
def Cloud (K : PySem.W.Frag) (H : Hp) (c : Addr) (n : Nat) : Prop :=
  ∃ (l : Addr) (cells : List Int) (rest : Int), H c = some (.lst [.ref l, .int n, .int rest]) ∧ SqL K H l (cells.map V.int) ∧ l ≠ c
/-- all but c is as it was -/
def Ext (c : Addr) (H H' : Hp) : Prop := ∀ b o, b ≠ c → H b = some o → H' b = some o
theorem Ext.refl (c : Addr) (H : Hp) : Ext c H H := fun _ _ _ h => h
theorem Ext.trans {c : Addr} {H H1 H2 : Hp} (a : Ext c H H1) (b : Ext c H1 H2) : Ext c H H2 := fun x o n h => b x o n (a x o n h)
theorem Ext.upd {c : Addr} {H : Hp} {o : HO} : Ext c H (upd H c o) := fun b u n h => by rw [upd_ne n]; exact h
theorem Ext.new {c p : Addr} {H : Hp} {o : HO} (h : H p = none) : Ext c H (L2.upd H p o) := fun b u _ e => by rw [upd_ne (ne_of_none e h)]; exact e
theorem Ext.sqL {c a : Addr} {K : PySem.W.Frag} {H H' : Hp} {xs : List V} (e : Ext c H H') (n : a ≠ c) (h : SqL K H a xs) : SqL K H' a xs := by
  rcases h with (h | ⟨o, h⟩) | h
  · exact .inl (.inl (e _ _ n h))
  · exact .inl (.inr ⟨o, e _ _ n h⟩)
  · exact .inr h
theorem Ext.sqT {c a : Addr} {K : PySem.W.Frag} {H H' : Hp} {xs : List V} (e : Ext c H H') (n : a ≠ c) (h : SqT K H a xs) : SqT K H' a xs := by
  rcases h with (h | ⟨o, h⟩) | h
  · exact .inl (.inl (e _ _ n h))
  · exact .inl (.inr ⟨o, e _ _ n h⟩)
  · exact .inr h
/-- a draw: an int from 0 below many; one cell more was begun at most -/
def spDrop (K : PySem.W.Frag) : Sp := fun vs H Q _ => ∃ (c : Addr) (n : Nat) (many : Int), vs = [.ref c, .int many] ∧ Cloud K H c n ∧ n < 1000000 ∧ 0 < many ∧ many < 1073741824 ∧
  ∀ (r : Int) (n' : Nat) (H' : Hp), 0 ≤ r → r < many → n' ≤ n + 1 → Cloud K H' c n' → Ext c H H' → Q (.int r) H'
/-! ### arithmetic of great ints -/
def CDivA (_ j : Int) : Prop := j ≠ 0 ∧ j.natAbs.log2 < 9000
theorem op_fdivA {X : Cx} : OpR X (binaryOp .FloorDiv) (rI CDivA fun i j => .int (i.fdiv j)) := opI fun _ _ _ _ _ _ _ hc q => floordiv_int hc.1 q (.inl (PyProof.noPylong_of_log2 hc.2))
theorem log2_lt {n k : Nat} (h : n < 2 ^ k) (h0 : 0 < k) : n.log2 < k := PySem.Flt.log2_lt_of h0 h

/-! ### lists of ints as data -/
theorem dpAll_ints (K : PySem.W.Frag) (H : Hp) : ∀ ns : List Int, DpAll K H (ns.map V.int) (ns.map PyData.int)
  | [] => .nil
  | n :: ns => .cons (.int n) (dpAll_ints K H ns)
theorem canLay_ints : ∀ ns : List Int, PyData.canLayAll0 (ns.map PyData.int) = true
  | [] => by simp [PyData.canLayAll0]
  | n :: ns => by simp [PyData.canLayAll0, PyData.canLay0, canLay_ints ns]
theorem shaped_ints (ns : List Int) : SeqAt.shaped (.list (ns.map PyData.int)) = true := by
  have h1 : PyData.canLay0 (.list (ns.map PyData.int)) = true := by simp [PyData.canLay0, canLay_ints]
  have h2 : PyData.depth (.list (ns.map PyData.int)) ≤ 64 := by
    have := depthAll_ints ns
    simp only [PyData.depth]
    omega
  unfold SeqAt.shaped
  rw [h1, decide_eq_true h2]
  rfl
theorem shaped_nil : SeqAt.shaped (.list []) = true := shaped_ints []
/-- xs != [] for a list of ints -/
theorem w_neNil {K : PySem.W.Frag} {H : Hp} {Q : VK} {a p : Addr} {ns : List Int} (h1 : SqL K H a (ns.map V.int)) (h2 : SqL K H p []) (h : Q (.bl (!ns.isEmpty)) H) : rNeD K (.ref a) (.ref p) H Q := by
  refine ⟨_, _, .lst h1 (dpAll_ints K H ns), .lst h2 .nil, shaped_ints ns, shaped_nil, ?_⟩
  have e : PyData.eqv (.list (ns.map PyData.int)) (.list []) = ns.isEmpty := by
    cases ns with
    | nil => simp [PyData.eqv, PyData.eqvAll]
    | cons n ns => simp [PyData.eqv, PyData.eqvAll]
  rw [e]
  exact h
theorem atI_map {ns : List Int} {i : Int} (h0 : 0 ≤ i) (h1 : i < ns.length) : ∃ z, ns[i.toNat]? = some z ∧ atI (ns.map V.int) i = some (.int z) := by
  obtain ⟨j, rfl⟩ : ∃ j : Nat, i = (j : Int) := ⟨i.toNat, by omega⟩
  have hj : j < ns.length := by omega
  refine ⟨ns[j], by simp [hj], at_of rfl (by simp [hj])⟩
theorem sqL_new {K : PySem.W.Frag} {H : Hp} {a p : Addr} {xs : List V} {o : HO} (h : H p = none) (q : SqL K H a xs) : SqL K (upd H p o) a xs := by
  rcases q with (q | ⟨u, q⟩) | q
  · exact .inl (.inl (by rw [upd_ne (ne_of_none q h)]; exact q))
  · exact .inl (.inr ⟨u, by rw [upd_ne (ne_of_none q h)]; exact q⟩)
  · exact .inr q
theorem sqT_new {K : PySem.W.Frag} {H : Hp} {a p : Addr} {xs : List V} {o : HO} (h : H p = none) (q : SqT K H a xs) : SqT K (upd H p o) a xs := by
  rcases q with (q | ⟨u, q⟩) | q
  · exact .inl (.inl (by rw [upd_ne (ne_of_none q h)]; exact q))
  · exact .inl (.inr ⟨u, by rw [upd_ne (ne_of_none q h)]; exact q⟩)
  · exact .inr q
theorem sqL_ne {K : PySem.W.Frag} {H : Hp} {a p : Addr} {xs : List V} {o : HO} (n : a ≠ p) (q : SqL K H a xs) : SqL K (upd H p o) a xs := by
  rcases q with (q | ⟨u, q⟩) | q
  · exact .inl (.inl (by rw [upd_ne n]; exact q))
  · exact .inl (.inr ⟨u, by rw [upd_ne n]; exact q⟩)
  · exact .inr q
theorem sqT_ne {K : PySem.W.Frag} {H : Hp} {a p : Addr} {xs : List V} {o : HO} (n : a ≠ p) (q : SqT K H a xs) : SqT K (upd H p o) a xs := by
  rcases q with (q | ⟨u, q⟩) | q
  · exact .inl (.inl (by rw [upd_ne n]; exact q))
  · exact .inl (.inr ⟨u, by rw [upd_ne n]; exact q⟩)
  · exact .inr q
theorem w_made {n : Nat} {H : Hp} {R : Addr → Prop} (hn : n ≤ sizeLine) (h : ∀ p, H p = none → R p) : n ≤ sizeLine ∧ ∀ p, H p = none → R p := ⟨hn, h⟩
theorem rd_new {H : Hp} {a p : Addr} {o u : HO} (h : H p = none) (q : H a = some u) : upd H p o a = some u := by rw [upd_ne (ne_of_none q h)]; exact q
theorem rd_ne {H : Hp} {a p : Addr} {o u : HO} (n : a ≠ p) (q : H a = some u) : upd H p o a = some u := by rw [upd_ne n]; exact q
theorem mix2 {m n a b c : Int} (m0 : 0 ≤ m) (m1 : m < 2147483648) (n0 : 0 ≤ n) (n1 : n < 1000000) (a0 : 0 ≤ a) (a1 : a ≤ 10000) (b0 : 0 ≤ b) (b1 : b ≤ 1000000) (c0 : 0 ≤ c) (c1 : c ≤ 1000000) :
    CPow (m * (2 * n + a) + b * n * n + c) 3 := by
  refine ⟨by decide, by decide, ?_⟩
  have h1 : 0 ≤ m * (2 * n + a) := Int.mul_nonneg m0 (by omega)
  have h2 : m * (2 * n + a) ≤ 2147483648 * 2010000 := Int.mul_le_mul (by omega) (by omega) (by omega) (by omega)
  have h3 : 0 ≤ b * n := Int.mul_nonneg b0 n0
  have h4 : b * n ≤ 1000000 * 1000000 := Int.mul_le_mul b1 (by omega) n0 (by omega)
  have h5 : 0 ≤ b * n * n := Int.mul_nonneg h3 n0
  have h6 : b * n * n ≤ (1000000 * 1000000) * 1000000 := Int.mul_le_mul h4 (by omega) n0 (by omega)
  omega
/-! ### kinds of values -/
def isInt : V → Bool
  | .int _ => true
  | _ => false
def isIntB : V → Bool
  | .int _ => true
  | .bl _ => true
  | _ => false
def isBl : V → Bool
  | .bl _ => true
  | _ => false
def isStr : V → Bool
  | .str _ => true
  | _ => false
/-- a value of a plain kind: a reference is to a list, a tuple or a dict -/
def Kn (K : PySem.W.Frag) (H : Hp) : V → Prop
  | .ref a => ∃ T, (T = "list" ∨ T = "tuple" ∨ T = "dict") ∧ TyX K H (.ref a) (.type T)
  | .non => True
  | .bl _ => True
  | .int _ => True
  | .str _ => True
  | _ => False
/-- how a value of a plain kind answers to a built-in class -/
theorem kn_ty {K : PySem.W.Frag} {H : Hp} {v : V} (h : Kn K H v) : ∃ T, TyX K H v (.type T) ∧ (T = "list" ∨ T = "tuple" ∨ T = "dict" ∨ T = "NoneType" ∨ T = "bool" ∨ T = "int" ∨ T = "str") ∧
    (isInt v = (T == "int")) ∧ (isBl v = (T == "bool")) ∧ (isStr v = (T == "str")) := by
  cases v with
  | ref a =>
    obtain ⟨T, e, t⟩ := h
    rcases e with rfl | rfl | rfl
    · exact ⟨_, t, by simp, by simp [isInt], by simp [isBl], by simp [isStr]⟩
    · exact ⟨_, t, by simp, by simp [isInt], by simp [isBl], by simp [isStr]⟩
    · exact ⟨_, t, by simp, by simp [isInt], by simp [isBl], by simp [isStr]⟩
  | non => exact ⟨"NoneType", .base .non, by simp, by simp [isInt], by simp [isBl], by simp [isStr]⟩
  | bl b => exact ⟨"bool", .base (.bl b), by simp, by simp [isInt], by simp [isBl], by simp [isStr]⟩
  | int i => exact ⟨"int", .base (.int i), by simp, by simp [isInt], by simp [isBl], by simp [isStr]⟩
  | str x => exact ⟨"str", .base (.str x), by simp, by simp [isInt], by simp [isBl], by simp [isStr]⟩
  | byt _ => exact h.elim
  | flt _ => exact h.elim
  | ty _ => exact h.elim
theorem w_isInt {K : PySem.W.Frag} {H : Hp} {Q : VK} {v : V} (h : Kn K H v) (q : Q (.bl (isIntB v)) H) : rIsi K [v, .ty "int"] H Q := by
  obtain ⟨T, t, e, e1, e2, e3⟩ := kn_ty h
  refine ⟨v, .ty "int", .type T, .type "int", isIntB v, rfl, .ty "int", t, ?_, q⟩
  have q1 : isIntB v = (isInt v || isBl v) := by cases v <;> rfl
  rw [q1, e1, e2]
  rcases e with rfl | rfl | rfl | rfl | rfl | rfl | rfl <;> exact kit_ty (by decide +kernel)
theorem w_isBl {K : PySem.W.Frag} {H : Hp} {Q : VK} {v : V} (h : Kn K H v) (q : Q (.bl (isBl v)) H) : rIsi K [v, .ty "bool"] H Q := by
  obtain ⟨T, t, e, e1, e2, e3⟩ := kn_ty h
  refine ⟨v, .ty "bool", .type T, .type "bool", isBl v, rfl, .ty "bool", t, ?_, q⟩
  rw [e2]
  rcases e with rfl | rfl | rfl | rfl | rfl | rfl | rfl <;> exact kit_ty (by decide +kernel)
theorem w_isStr {K : PySem.W.Frag} {H : Hp} {Q : VK} {v : V} (h : Kn K H v) (q : Q (.bl (isStr v)) H) : rIsi K [v, .ty "str"] H Q := by
  obtain ⟨T, t, e, e1, e2, e3⟩ := kn_ty h
  refine ⟨v, .ty "str", .type T, .type "str", isStr v, rfl, .ty "str", t, ?_, q⟩
  rw [e3]
  rcases e with rfl | rfl | rfl | rfl | rfl | rfl | rfl <;> exact kit_ty (by decide +kernel)

/-! ### a text in a row of texts -/
theorem inV_strs (x : Str) : ∀ ss : List Str, inV (.str x) (ss.map V.str) = ss.contains x
  | [] => rfl
  | s :: ss => by
    have ih := inV_strs x ss
    unfold inV at ih ⊢
    rw [List.map_cons, List.any_cons, ih, List.contains_cons]
    congr 1
    show eqV (.str s) (.str x) = (x == s)
    by_cases h : x = s
    · subst h; simp [eqV]
    · have h2 : ¬ s = x := fun e => h e.symm
      show (s == x) = (x == s)
      rw [beq_eq_false_iff_ne.mpr h, beq_eq_false_iff_ne.mpr h2]
theorem flat_strs : ∀ ss : List Str, (ss.map V.str).all flatV = true
  | [] => rfl
  | s :: ss => by rw [List.map_cons, List.all_cons, flat_strs ss]; rfl
theorem w_inT {K : PySem.W.Frag} {H : Hp} {Q : VK} {p : Addr} {x : Str} {ss : List Str} (s : SqT K H p (ss.map V.str)) (q : Q (.bl (ss.contains x)) H) : rIn K false (.str x) (.ref p) H Q :=
  ⟨p, _, rfl, .inr s, rfl, flat_strs ss, by rw [inV_strs]; exact q⟩
theorem w_notInT {K : PySem.W.Frag} {H : Hp} {Q : VK} {p : Addr} {x : Str} {ss : List Str} (s : SqT K H p (ss.map V.str)) (q : Q (.bl (!ss.contains x)) H) : rIn K true (.str x) (.ref p) H Q :=
  ⟨p, _, rfl, .inr s, rfl, flat_strs ss, by rw [inV_strs]; exact q⟩

/-! ### defs that may be called by their names -/
/-- a def of the text as it stands behind the top, under its name -/
structure DefOk (K : PySem.W.Frag) (mg : Str → Option Value) (x : Str) (st : Stmt) (ps : List Str) : Prop where
  ex : ∃ (f : Addr) (fd : FuncData), Fun K x x st f fd ∧ mg x = some (.ref f) ∧ Binds K fd ps []
structure Can (P : Program) (w : World) (K : PySem.W.Frag) (mg : Str → Option Value) (base : Heap) (CX : CXT) (k : Nat) (x : Str) (ps : List Str) (sp : Sp) : Prop where
  ex : ∃ (f : Addr) (fd : FuncData), FnOk P w K mg base CX k f fd ps sp ∧ mg x = some (.ref f) ∧ PySem.W.keepIn K (.ref f) = true ∧ Binds K fd ps []
theorem DefOk.can {P : Program} {w : World} {K : PySem.W.Frag} {mg : Str → Option Value} {base : Heap} {CX : CXT} {k : Nat} {x : Str} {st : Stmt} {ps : List Str} {sp : Sp} (d : DefOk K mg x st ps)
    (h : ∀ f fd, Fun K x x st f fd → FnOk P w K mg base CX k f fd ps sp) : Can P w K mg base CX k x ps sp := by
  obtain ⟨f, fd, F, m, b⟩ := d.ex
  exact ⟨f, fd, h f fd F, m, F.kp, b⟩
section
variable {X : Cx} {CX : CXT} {k j : Nat} {x : Str} {ps : List Str} {sp : Sp} {E : XK} {p pos : Pos} {e : Expr} {es : List Expr} {t : TA}
theorem pe_can (c : Can X.prog X.w X.K X.mg X.base CX k x ps sp) (hr : Room j X.A) (hk : k ≤ j) (hx : Passes CX X E) (hg : Gl X x) (ha : PA X (e :: es) t) (hdb : (x == ("__debug__" : Str)) = false := by decide)
    (he : starEach (e :: es) X.env = (false, eval e X.env) :: starEach es X.env := by rfl) (hpl : (backTo pos (starEach es X.env)).any (·.1) = false := by rfl) :
    PE X (.Call (.Name x p) (e :: es) [] pos) (tCall sp [] E t) := by
  obtain ⟨f, fd, F, m, kp, b⟩ := c.ex
  exact pe_call F (hr.mono hk) hg m kp b .nil hx ha hdb he hpl
/-- a constant of the text -/
theorem pe_gc {X : Cx} {x : Str} {v : V} {pos : Pos} (hg : Gl X x) (h : ∃ u, X.mg x = some u ∧ RelV v u) (hd : (x == ("__debug__" : Str)) = false := by decide) : PE X (.Name x pos) (tC v) := by
  obtain ⟨u, hm, r⟩ := h
  exact pe_glob hg hm r hd
/-! ### a local name that holds a def -/
def tHeld (P : Program) (w : World) (K : PySem.W.Frag) (mg : Str → Option Value) (base : Heap) (k i : Nat) (t : TA) : TE := fun σ H Q => ∃ f sp, σ[i]? = some (some (.ref f)) ∧ Held P w K mg base k f sp ∧ t σ H fun vs H1 => sp vs H1 Q (fun _ _ _ => False)
theorem pe_held {X : Cx} {k i : Nat} {x : Str} {p pos : Pos} {e : Expr} {es : List Expr} {t : TA} (hr : Room k X.A) (hN : X.N[i]? = some x) (hv : Vis X.env.scope x) (ha : PA X (e :: es) t)
    (hdb : (x == ("__debug__" : Str)) = false := by decide) (hcd : (x == ("__classdict__" : Str)) = false := by decide)
    (he : starEach (e :: es) X.env = (false, eval e X.env) :: starEach es X.env := by rfl) (hpl : (backTo pos (starEach es X.env)).any (·.1) = false := by rfl) : PE X (.Call (.Name x p) (e :: es) [] pos) (tHeld X.prog X.w X.K X.mg X.base k i t) := by
  refine ⟨fun pins s σ H Q I h => ?_⟩
  obtain ⟨f, sp, hs, hS, ht⟩ := h
  exact (pe_callA (p := p) (pos := pos) (S := fun a => if a = f then some sp else none) (fun g sg e => by
    by_cases hg : g = f
    · subst hg; simp at e; subst e; exact hS
    · simp [hg] at e) hr hN hv ha hdb hcd he hpl).run pins s σ H Q I ⟨f, sp, hs, by simp, ht⟩
theorem w_held {P : Program} {w : World} {K : PySem.W.Frag} {mg : Str → Option Value} {base : Heap} {k i : Nat} {t : TA} {σ : L2.St} {H : Hp} {Q : VK} {f : Addr} {sp : Sp} (e : σ[i]? = some (some (.ref f))) (h : Held P w K mg base k f sp)
    (q : t σ H fun vs H1 => sp vs H1 Q (fun _ _ _ => False)) : tHeld P w K mg base k i t σ H Q := ⟨f, sp, e, h, q⟩
end
/-! ### what grows -/
def Grow (H H' : Hp) : Prop := ∀ b o, H b = some o → H' b = some o
theorem Grow.refl (H : Hp) : Grow H H := fun _ _ e => e
theorem Grow.trans {H H1 H2 : Hp} (a : Grow H H1) (b : Grow H1 H2) : Grow H H2 := fun x o e => b x o (a x o e)
theorem Grow.new {H : Hp} {p : Addr} {o : HO} (n : H p = none) : Grow H (upd H p o) := fun b u e => by rw [upd_ne (ne_of_none e n)]; exact e
theorem Grow.ext {c : Addr} {H H' : Hp} (g : Grow H H') : Ext c H H' := fun b o _ e => g b o e
theorem Grow.sqL {K : PySem.W.Frag} {H H' : Hp} {a : Addr} {xs : List V} (g : Grow H H') (h : SqL K H a xs) : SqL K H' a xs := by
  rcases h with (h | ⟨o, h⟩) | h
  · exact .inl (.inl (g _ _ h))
  · exact .inl (.inr ⟨o, g _ _ h⟩)
  · exact .inr h
theorem Grow.sqT {K : PySem.W.Frag} {H H' : Hp} {a : Addr} {xs : List V} (g : Grow H H') (h : SqT K H a xs) : SqT K H' a xs := by
  rcases h with (h | ⟨o, h⟩) | h
  · exact .inl (.inl (g _ _ h))
  · exact .inl (.inr ⟨o, g _ _ h⟩)
  · exact .inr h
theorem Cloud.grow {K : PySem.W.Frag} {H H' : Hp} {c : Addr} {n : Nat} (g : Grow H H') (h : Cloud K H c n) : Cloud K H' c n := by
  obtain ⟨l, cells, rest, h1, h2, h3⟩ := h
  exact ⟨l, cells, rest, g _ _ h1, g.sqL h2, h3⟩
theorem Cloud.new {K : PySem.W.Frag} {H : Hp} {c p : Addr} {n : Nat} {o : HO} (e : H p = none) (h : Cloud K H c n) : Cloud K (upd H p o) c n := h.grow (Grow.new e)
theorem Cloud.some {K : PySem.W.Frag} {H : Hp} {c : Addr} {n : Nat} (h : Cloud K H c n) : ∃ o, H c = some o := by
  obtain ⟨l, cells, rest, h1, _⟩ := h
  exact ⟨_, h1⟩
theorem Cloud.ne {K : PySem.W.Frag} {H : Hp} {c p : Addr} {n : Nat} (h : Cloud K H c n) (e : H p = none) : p ≠ c := by
  obtain ⟨o, q⟩ := h.some
  exact fun z => ne_of_none q e z.symm
/-! ### targets -/
section
variable {K : PySem.W.Frag} {σ : L2.St} {H : Hp} {QG : L2.St → Hp → Prop} {v : V} {vs : List V}
theorem w_gtup {n : Nat} {t : TGs} {a : Addr} (s : SqT K H a vs) (l : vs.length = n) (h : t vs σ H QG) : gTup K n t (.ref a) σ H QG := ⟨a, vs, rfl, s, l, h⟩
theorem w_gcons {t : TG} {u : TGs} (h : t v σ H fun σ' H' => u vs σ' H' QG) : gCons t u (v :: vs) σ H QG := ⟨v, vs, rfl, h⟩
theorem w_gnil (h : QG σ H) : gNil [] σ H QG := ⟨rfl, h⟩
end
theorem w_par {σ : L2.St} {H : Hp} {D : Ends} {i j : Nat} {ta : TA} (h : ta σ H fun vs H1 => ∃ v w, vs = [v, w] ∧ D.nx ((σ.set i (some v)).set j (some w)) H1) : tPar i j ta D σ H := h
theorem w_par2 {v u : V} {R : V → V → Prop} (h : R v u) : ∃ x y, [v, u] = [x, y] ∧ R x y := ⟨v, u, rfl, h⟩
theorem w_inX {K : PySem.W.Frag} {H : Hp} {Q : VK} {p : Addr} {x : V} {vs : List V} (s : SqT K H p vs) (f1 : flatV x = true) (f : vs.all flatV = true) (q : Q (.bl (inV x vs)) H) : rIn K false x (.ref p) H Q := ⟨p, vs, rfl, .inr s, f1, f, q⟩
theorem w_chain {r r' : R2} {ta tb tc : TE} {σ : L2.St} {H : Hp} {Q : VK} (h : ta σ H fun x H1 => tb σ H1 fun y H2 => r x y H2 fun z H3 => ∃ k, z = .bl k ∧ (if k = true then tc σ H3 fun w' H4 => r' y w' H4 Q else Q (.bl false) H3)) : tChain r r' ta tb tc σ H Q := h
theorem w_dnew {σ : L2.St} {H : Hp} {Q : VK} (h : ∀ p, H p = none → Q (.ref p) (upd H p (.dK []))) : tDNewK σ H Q := h
theorem w_callNB {n m : Nat} {sp : Sp} {gV : List V → List V → List V} {E : XK} {t tk : TA} {σ : L2.St} {H : Hp} {Q : VK} (h : t σ H fun vs H1 => tk σ H1 fun zs H2 => vs.length = n ∧ zs.length = m ∧ sp (gV vs zs) H2 Q E) : tCallN n m sp gV E t tk σ H Q := h
end FW

set_option maxRecDepth 100000
set_option maxHeartbeats 4000000
/-! fair weather: exceptions that are kept -/
namespace PySem.W
open PySem PySem.Spec PySem.Calls PyProof.Rows
section
variable {prog : Program} {w : World} {A : Around} {E : Value → Shared → Prop} {s : Shared} {K : Frag} {x D : Addr} {ox : Obj} {od : Option Obj}
theorem fw_findClass (dct : hasDictIn K D = true) (ha : findIn K (.ref D) "__class__" = some (some (.builtin "object.__class__"))) (hn : specialIn K (.builtin "object.__class__") "__get__" = some (some (.builtin "getset_descriptor.__get__")))
    (htk : takesIn K (.builtin "object.__class__") = some true) : findObj K D od "__class__" = some (.bind (.builtin "getset_descriptor.__get__") (.builtin "object.__class__")) := by
  obtain ⟨cd, hc, _⟩ := any_some dct
  unfold findObj
  rw [hc, Option.bind_some, ha, Option.bind_some]
  simp [hn, htk]
/-- the class of an own exception, asked by isinstance: whether it has a dict or not -/
theorem fw_class {Q : Option Value → Shared → Prop} (C : L2.ExcC K D) (X : K.In s.heap) (I : InstAt s.heap x ox D od) (h : Q (some (.ref D)) { s with toks := s.toks + 1 }) : wpAny (model prog w) A (getAttr? (.ref x) "__class__") Q E s := by
  have hf := fw_findClass (od := od) C.hd C.ha C.hn C.ht
  obtain ⟨hp, gs, dr, tk, os⟩ := s
  have l0 := I.type (M := model prog w)
  have l1 := looks_findIn (M := model prog w) X C.hg
  have l2 := looks_findIn (M := model prog w) X C.hk
  have l3 := looks_find (M := model prog w) X I hf
  have ls : Looks (model prog w) hp (isInstance (.ref x) (.type "BaseException")) true := l0.andThen (looks_subIn X C.hs)
  have b0 : (false && onTheHeap (Value.builtin "BaseException.__getattribute__")) = false := rfl
  have b2 : (Value.builtin "BaseException.__getattribute__" == Value.builtin "object.__getattribute__") = false := by decide +kernel
  have b1 : (onTheHeap (Value.ref D) && Value.builtin "BaseException.__getattribute__" == Value.builtin "object.__getattribute__") = false := by rw [b2]; rfl
  unfold getAttr? getAttrBy? getAttrBy
  refine wpAny_bind (wpAny_mkText (wpAny_bind (wpAny_attempt (wpAny_holding (wpAny_bind (l0.at (wpAny_bind (l1.at ?_))))))))
  show wpAny _ _ (if (onTheHeap (Value.ref D) && Value.builtin "BaseException.__getattribute__" == Value.builtin "object.__getattribute__") = true then _ else _) _ _ _
  rw [b1, if_neg Bool.false_ne_true]; unfold getAttrByItsOwn hookBefore
  refine wpAny_bind ?_
  rw [if_pos (show onTheHeap (Value.ref D) = true from rfl)]
  refine l2.at ?_
  refine wpAny_bind (wpAny_attempt (wpAny_holding ?_))
  unfold callGetattribute; rw [b0, if_neg Bool.false_ne_true]; unfold boundAndCalled
  rw [PySem.F.excAttr_ValueError.ga.bind (.ref x)]
  refine wpAny_bind (wpAny_pure ?_)
  show wpAny _ _ (call (.builtin "BaseException.__getattribute__") [.ref x, .str "__class__" tk]) _ _ _
  refine wpAny_call (codeAny_call_builtin PySem.F.excAttr_ValueError.ga.plain PySem.F.entry_bexc_ga ?_)
  refine @check_slot (model prog w) _ _ ⟨hp, gs, dr, tk + 1, os⟩ "BaseException.__getattribute__" "BaseException" "__getattribute__" (.ref x) [.str "__class__" tk] [] _ (by decide +kernel) (by decide +kernel) ls (PySem.F.args_bexc_ga (.ref x) (.str "__class__" tk)) ?_
  unfold Builtin.«object.__getattribute__»
  refine wpAny_bind (wpAny_of_eq (a := ((Value.ref x : Value), [Value.str "__class__" tk])) (by first | rfl | (simp only [slotArgs]; rfl)) ?_)
  refine wpAny_bind (wpAny_pure (wpAny_bind (l0.at (wpAny_bind (l3.at ?_)))))
  show wpAny _ _ (holding [Value.builtin "object.__class__"] (call (.builtin "getset_descriptor.__get__") [.builtin "object.__class__", .ref x, .ref D]) >>= ret) _ _ _
  refine wpAny_bind (wpAny_holding (wpAny_call (class_get (s := ⟨hp, gs, dr, tk + 1, os⟩) (ox := ox) (od := od) X I C.hm ?_)))
  refine wpAny_pure ?_
  show wpAny _ _ (handedOut (.ref D)) _ _ _
  rw [handedOut_of (v := .ref D) rfl]
  first
    | exact wpAny_pure (wpAny_pure h)
    | exact wpAny_pure h
    | exact wpAny_pure (wpAny_bind (wpAny_pure (wpAny_pure h)))
theorem fw_kitx (C : L2.ExcC K D) : KitX K (.ref x) (.ref D) (fun h => InstAt h x ox D od) where
  ty := fun _ _ _ I => I.type
  it := fun _ _ X _ => by
    obtain ⟨cd, hc, _⟩ := any_some C.hd
    unfold clsIn at hc; split at hc
    · rename_i ho
      intro A Q E s k q; unfold isType loadHead
      exact wpAny_bind (wpAny_loadPart (k _ _ (X _ _ ho)) (wpAny_pure q))
    · exact nomatch hc
  ne := fun h tp dd its n sl X htp => (handS_kitx_exc (x := x) (ox := ox) C.hg C.hk C.hs C.hd C.ha C.hn C.ht C.hm).ne h tp dd its n sl X htp
  ca := fun X I k => fw_class C X I k
end
end PySem.W

namespace FW
open PySem L2 PyProof.Rows
/-- an exception that is kept, at a: its class, its dict -/
def ExT (a : Addr) (cls : Value) (d : Option Addr) : HO := .ext fun h => ∃ (oe : Obj) (vs : Array Value), h.get? a = some oe ∧ Zc cls d oe ∧ oe.data = .fields vs
theorem exT_ok {P : Program} {w : World} {H : Hp} {h : Heap} {a : Addr} {cls : Value} {d : Option Addr} {oe : Obj} {vs : Array Value} (e : h.get? a = some oe) (z : Zc cls d oe) (f : oe.data = .fields vs) : ObjOk P w H h a (ExT a cls d) :=
  ⟨⟨oe, vs, e, z, f⟩, ⟨oe, e⟩, fun _ _ ⟨o, v, q, r⟩ k => ⟨o, v, k o q, r⟩⟩
theorem exT_at {P : Program} {w : World} {H : Hp} {h : Heap} {a : Addr} {cls : Value} {d : Option Addr} (ok : HOk P w H h) (e : H a = some (ExT a cls d)) : ∃ (oe : Obj) (vs : Array Value), h.get? a = some oe ∧ Zc cls d oe ∧ oe.data = .fields vs := by
  have x : ObjOk P w H h a (.ext fun h => ∃ (oe : Obj) (vs : Array Value), h.get? a = some oe ∧ Zc cls d oe ∧ oe.data = .fields vs) := ok a _ e
  exact x.1
section
variable {X : Cx} {pins : List (Addr × Obj)} {σ : L2.St} {H : Hp} {sI s' : Shared} {B : Heap} {a : Addr} {cls : Value} {d : Option Addr} {oe : Obj} {vs : Array Value}
/-- an exception has landed, and is kept from now on -/
theorem landT (I : Inv X pins σ H sI) (nb : ∀ b o, sI.heap.get? b = some o → b ∉ frs X.stack → B.get? b = some o) (ba : B.get? a = none) (na : H a = none) (nfr : a ∉ frs X.stack) (st : B.StaysIn s'.heap) (up : sI.heap.UpToSlots s'.heap) (os : s'.os = sI.os)
    (ag : AllBare s'.gens) (e : s'.heap.get? a = some oe) (z : Zc cls d oe) (f : oe.data = .fields vs) : Inv X pins σ (upd H a (ExT a cls d)) s' := by
  have gone : sI.heap.get? a = none := by
    cases q : sI.heap.get? a with
    | none => rfl
    | some o => have := nb a o q nfr; rw [ba] at this; exact nomatch this
  have ne : ∀ b o, sI.heap.get? b = some o → b ≠ a := fun b o q y => by rw [y, gone] at q; exact nomatch q
  have slot : ∀ b ∈ frs X.stack, ∀ o, sI.heap.get? b = some o → ∃ sl, s'.heap.get? b = some { o with slots := sl } := fun b hb o q => by
    obtain ⟨_, o', q', hd⟩ := I.stack.mem hb
    rw [q] at q'; cases q'
    exact up b o q hd
  refine I.call' (ch := []) os ⟨fun b o q _ hb _ => st b o (nb b o q hb), fun b o q _ hb _ => slot b hb o q, fun b o q n _ => by rw [upd_ne (ne b o q)]; exact n, fun b o q _ => ?_, fun b xs q => by rw [upd_ne (ne_of_none q na)]; exact q,
    fun b o u q => by rw [upd_ne (ne_of_none q na)]; exact q, fun b ps q => ⟨#[], by rw [upd_ne (ne_of_none q na), q]; simp⟩⟩ ?_ ag (fun _ y => nomatch y)
  · by_cases hb : b ∈ frs X.stack
    · obtain ⟨sl, y⟩ := slot b hb o q
      exact ⟨_, y⟩
    · exact ⟨o, st b o (nb b o q hb)⟩
  · exact HOk.laidN ((I.inGround nb).kept st) (fun _ _ y => y) na (exT_ok e z f)
/-- into a suite whose exception is kept -/
theorem toSuite (I : Inv X pins σ H sI) : Inv (X.suite a (X.pn ++ pins)) [] σ H sI :=
  ⟨I.ok.suite _ _, I.os, I.bare, I.base, I.loc, I.cell, I.free, I.freeC, fun p hp => by rw [List.append_nil] at hp; exact I.pin p hp, I.hok, I.len⟩
theorem ofSuite {pn' : List (Addr × Obj)} (I : Inv (X.suite a (X.pn ++ pins)) pn' σ H sI) (ok : X.Ok) : Inv X pins σ H sI :=
  ⟨ok, I.os, I.bare, I.base, I.loc, I.cell, I.free, I.freeC, fun p hp => I.pin p (List.mem_append_left _ hp), I.hok, I.len⟩
end
/-- what is wished of an exception by «except c as n: y = n»: it is kept; slot i is n's, slot j is y's -/
def wKeep (K : PySem.W.Frag) (c : Value) (n i j : Nat) (D : Ends) : WX := fun cls d σ H => PySem.W.exmOne K cls c = some true ∧ ∀ a, H a = none → σ.length = n → D.nx (((σ.set i (some (.ref a))).set j (some (.ref a))).set i none) (upd H a (ExT a cls d))
section
variable {X : Cx} {x n y : Str} {c : Value} {i j : Nat} {body : List Stmt} {np py pn' pa pos pos' : Pos} {tb : WX → TS}
theorem ps_try_keep (hs : X.stack = X.env :: X.outer) (hf : X.env.frame = some X.env.locals) (hN : X.N.Nodup) (hi : X.N[i]? = some n) (hln : X.env.kindOf n = some .local) (hj : X.N[j]? = some y) (hly : X.env.kindOf y = some .local) (hij : i ≠ j) (hc : Names X x c)
    (hb : ∀ (W : WX) (pn : List (Addr × Obj)) (xe : Value → Shared → Prop), Takes (X.tr pn xe) W → PassesOwn (model X.prog X.w) X.A X.env xe → PSs (X.tr pn xe) body (tb W))
    (hsw : swapsWith (.Name n pn') (some (.Name y py)) pa.line X.env = pure false := by rfl) (hdn : (n == ("__debug__" : Str)) = false := by decide) (hcn : (n == ("__classdict__" : Str)) = false := by decide) :
    PS X (.Try body [.ExceptHandler (some (.Name x np)) (some n) [.Assign [.Name y py] (.Name n pn') pa] pos'] [] [] pos) (fun D σ H => i < σ.length ∧ tb (wKeep X.K c X.N.length i j D) D σ H) := by
  refine ⟨fun pins s σ H D I h => ?_⟩
  obtain ⟨hlen, h⟩ := h
  have ok := I.ok
  have hfr : X.A.frames = some (X.env :: X.outer) := by rw [ok.frames, hs]
  refine wpAny_Try_except ?_
  refine wpAny_mono ((hb (wKeep X.K c X.N.length i j D) (X.pn ++ pins) _ (fun u s1 xx => ?c1) PassesOwn.looking).run [] s σ H D (I.toTry _) h) (fun f s1 hsp => ?flow) (fun e s1 he => he)
  case flow =>
    cases f with
    | next => obtain ⟨σ1, H1, J, q⟩ := hsp; exact wpAny_execs_nil ⟨σ1, H1, J.ofTry ok, q⟩
    | brk => obtain ⟨σ1, H1, J, q⟩ := hsp; exact ⟨σ1, H1, J.ofTry ok, q⟩
    | cont => obtain ⟨σ1, H1, J, q⟩ := hsp; exact ⟨σ1, H1, J.ofTry ok, q⟩
    | ret u => obtain ⟨v, σ1, H1, J, r, q⟩ := hsp; exact ⟨v, σ1, H1, J.ofTry ok, r, q⟩
  case c1 =>
    obtain ⟨a, B, sI, pins1, σ1, H1, cls, d, rfl, J1, nb, up, sky, na, os, ag, hm, hyes⟩ := xx
    have J : Inv X pins σ1 H1 sI := J1.ofTry ok
    have sky1 : Sky B (X.env :: X.outer) a (Zc cls d) X.env.locals s1.heap := by rw [← hs]; exact sky
    show wpAny (model X.prog X.w) X.A (noteFrame (.ref a) X.env) _ _ _
    refine Sky.land Zc.steady hfr hf sky1 fun h3 fl3 up3 => ?_
    obtain ⟨oe3, vs3, he3, hz3, hd3⟩ := fl3.there
    have notFr : a ∉ frs X.stack := fun hmem => by
      rw [hs] at hmem
      obtain ⟨_, o', e', hnf⟩ := fl3.2.2.1.mem hmem
      rw [he3] at e'; cases e'
      exact hnf _ hd3
    have J3 : Inv X pins σ1 (upd H1 a (ExT a cls d)) { s1 with heap := h3 } := landT J nb fl3.2.1 na notFr fl3.1 (up.trans up3) os ag he3 hz3 hd3
    have S3 : Inv (X.suite a (X.pn ++ pins)) [] σ1 (upd H1 a (ExT a cls d)) { s1 with heap := h3 } := toSuite J3
    refine wpAny_handleBy_cons (codeAny_handlers_test ?_) (by intro q; cases q)
    have lt : PySem.W.Looks (model X.prog X.w) h3 (typeOf (.ref a)) cls := fun A Q E s k q => wpAny_typeOf_ref (k _ _ he3) (by rw [hz3.1]; exact q)
    have lm := PySem.W.exm_one (M := model X.prog X.w) J3.kIn lt hm
    have test : ∀ {Q : Value → Shared → Prop} {E : Value → Shared → Prop}, Q c { s1 with heap := h3 } → wpAny (model X.prog X.w) (X.A.mark (some (.ref a))) (eval (.Name x np) X.env) Q E { s1 with heap := h3 } := fun {Q E} q => by
      obtain ⟨g1, g2, g3 | ⟨g3, g4, g5⟩⟩ := hc
      · exact ld_glob (X := X.suite a (X.pn ++ pins)) S3 g1 g3 q g2
      · exact ld_blt (X := X.suite a (X.pn ++ pins)) S3 g1 g3 g4 q g5 g2
    refine test (lm.here ?_)
    refine codeAny_handlers_suite_as (HandSPX.lands_againZ fl3 fun h4 fl4 up4 => ?_)
    obtain ⟨oe4, vs4, he4, hz4, hd4⟩ := fl4.there
    have J4 : Inv X pins σ1 (upd H1 a (ExT a cls d)) { s1 with heap := h4 } := landT J nb fl4.2.1 na notFr fl4.1 ((up.trans up3).trans up4) os ag he4 hz4 hd4
    refine store_ok (X := X.suite a (X.pn ++ pins)) (v := .ref a) (toSuite J4) hN hi (.inl hln) rfl (fun s5 S5 => ?_) (.inr hln)
    have suite : PSs (X.suite a (X.pn ++ pins)) [.Assign [.Name y py] (.Name n pn') pa] (tAsg (tVar i) (gName j)) :=
      pss_one (ps_set hN hj (.inl hly) (pe_var hi (.inl hln) hdn hcn) hsw (.inr hly))
    refine wpAny_mono (suite.run [] s5 _ _ { nx := fun σ6 H6 => D.nx (σ6.set i none) H6, rt := fun _ _ => False } S5 ?_) (fun f s6 hsp => ?_) (fun _ _ z => z.elim)
    · refine ⟨.ref a, ?_, ?_⟩
      · have : i < σ1.length := by rw [J.len]; rw [I.len] at hlen; exact hlen
        rw [List.getElem?_set_self this]
      · exact hyes a na J.len
    · cases f with
      | next =>
        obtain ⟨σ6, H6, S6, q6⟩ := hsp
        exact gone_ok (ofSuite S6 ok) hN hi hln fun s7 J7 => ⟨_, _, J7, q6⟩
      | brk => obtain ⟨σ6, H6, S6, q6⟩ := hsp; exact q6.elim
      | cont => obtain ⟨σ6, H6, S6, q6⟩ := hsp; exact q6.elim
      | ret u => obtain ⟨v6, σ6, H6, S6, r6, q6⟩ := hsp; exact q6.elim
end

/-- isinstance(e, c), e an exception that is kept -/
def rIsX (K : PySem.W.Frag) : List V → Hp → VK → Prop := fun xs H Q => ∃ (a D : Addr) (d : Option Addr) (c : V) (cv : Value) (b : Bool), xs = [.ref a, c] ∧ H a = some (ExT a (.ref D) d) ∧ ExcC K D ∧
  (d = none ∨ ∃ (dd : Addr) (fs : List (Str × V)), d = some dd ∧ H dd = some (.xd fs)) ∧ ClsV c cv ∧ PySem.W.kitOne K (.ref D) cv = some b ∧ Q (.bl b) H
theorem inst_of {X : Cx} {pins : List (Addr × Obj)} {σ : L2.St} {H : Hp} {s : Shared} {a D : Addr} {d : Option Addr} (I : Inv X pins σ H s) (e : H a = some (ExT a (.ref D) d)) (hd : d = none ∨ ∃ (dd : Addr) (fs : List (Str × V)), d = some dd ∧ H dd = some (.xd fs)) :
    ∃ (ox : Obj) (od : Option Obj), PySem.W.InstAt s.heap a ox D od := by
  obtain ⟨oe, vs, h1, h2, h3⟩ := exT_at I.hok e
  obtain ⟨oc, ob, odt, osl⟩ := oe
  obtain ⟨z1, z2⟩ := h2
  dsimp only at z1 z2 h3
  subst z1 z2 h3
  rcases hd with rfl | ⟨dd, fs, rfl, hx⟩
  · exact ⟨_, none, h1, rfl, rfl, trivial⟩
  · obtain ⟨mA, ⟨o, es, ep, ho, _⟩, _⟩ := (show ObjOk X.prog X.w H s.heap dd (.xd fs) from I.hok dd _ hx)
    exact ⟨_, some o, h1, rfl, rfl, ho⟩
theorem call_isX {X : Cx} : CallR X (.builtin "isinstance") (rIsX X.K) := by
  intro pins s σ H xs us Q I r h
  obtain ⟨a, D, d, c, cv, b, rfl, e, C, hd, k, q1, q⟩ := h
  obtain ⟨u1, u2, rfl, r1, r2⟩ := vals2 r
  cases (show u1 = Value.ref a from r1)
  have e2 := k.eq r2
  subst e2
  obtain ⟨ox, od, J⟩ := inst_of I e hd
  exact PySem.W.kia_one (PySem.W.fw_kitx C) I.kIn J q1 (fun z => nomatch z) fun tk => ⟨.bl b, H, I.tok tk, rfl, q⟩
/-- isinstance of a plain value, or of an exception that is kept -/
def rIsA (K : PySem.W.Frag) : List V → Hp → VK → Prop := fun xs H Q => rIsi K xs H Q ∨ rIsX K xs H Q
theorem call_isA {X : Cx} : CallR X (.builtin "isinstance") (rIsA X.K) := by
  intro pins s σ H xs us Q I r h
  rcases h with h | h
  · exact call_isi pins s σ H xs us Q I r h
  · exact call_isX pins s σ H xs us Q I r h
theorem w_isIntA {K : PySem.W.Frag} {H : Hp} {Q : VK} {v : V} (h : Kn K H v) (q : Q (.bl (isIntB v)) H) : rIsA K [v, .ty "int"] H Q := Or.inl (w_isInt h q)
theorem w_isBlA {K : PySem.W.Frag} {H : Hp} {Q : VK} {v : V} (h : Kn K H v) (q : Q (.bl (isBl v)) H) : rIsA K [v, .ty "bool"] H Q := Or.inl (w_isBl h q)
theorem w_isStrA {K : PySem.W.Frag} {H : Hp} {Q : VK} {v : V} (h : Kn K H v) (q : Q (.bl (isStr v)) H) : rIsA K [v, .ty "str"] H Q := Or.inl (w_isStr h q)
/-- e.f, e an exception that is kept -/
def tXt (K : PySem.W.Frag) (f : Str) (te : TE) : TE := fun σ H Q => te σ H fun x H1 => ∃ (a C dd : Addr) (fs : List (Str × V)) (v : V), x = .ref a ∧ H1 a = some (ExT a (.ref C) (some dd)) ∧ H1 dd = some (.xd fs) ∧ XfC K C ∧
  PySem.W.findIn K (.ref C) f = some none ∧ fs.lookup f = some v ∧ Q v H1
theorem pe_xt {X : Cx} {e : Expr} {te : TE} {pos : Pos} {f : Str} (he : PE X e te) (hb : attributeBase e f X.env (eval e X.env) = eval e X.env := by rfl) : PE X (.Attribute e f pos) (tXt X.K f te) := by
  refine ⟨fun pins s σ H Q I h => attr_of hb (thn (he.run pins s σ H _ I h) fun u s1 ⟨x, H1, I1, rx, a, C, dd, fs, v, ex, ea, ed, T, hno, hl, q⟩ => ?_)⟩
  subst ex
  obtain rfl : u = Value.ref a := rx
  obtain ⟨oe, vs, h1, h2, h3⟩ := exT_at I1.hok ea
  obtain ⟨mA, hns, hr⟩ := (show ObjOk X.prog X.w H1 s1.heap dd (.xd fs) from I1.hok dd _ ed)
  obtain ⟨od, ho, l⟩ := lookIn_ns hns
  obtain ⟨z, hz, rz⟩ := RelO.some_of (v := v) (o := mA f) (by rw [← hl]; exact hr f)
  have J : PySem.W.InstAt s1.heap a oe C (some od) := ⟨h1, h2.1, by unfold PySem.W.notCls; rw [h3] <;> rfl, by rw [h2.2]; exact ho⟩
  exact HandSPX.exc_get I1.kIn J T.ga T.gg T.exC (PySem.W.findObj_own T.hdC hno rfl (by rw [l, hz])) (handed_of rz) ⟨v, H1, I1.tok _, rz, q⟩

/-! ### an own exception of one field, made and raised -/
/-- its __init__: self.f = v -/
def spInit1 (K : PySem.W.Frag) (C : Addr) (f : Str) : Sp := fun vs H Q _ => ∃ (a : Addr) (v : V), vs = [.ref a, v] ∧ OexC K C ∧ PySem.W.findIn K (.ref C) f = some none ∧ H a = some (exo a C none) ∧
  ∀ dx, H dx = none → dx ≠ a → Q .non (upd (upd H dx (exd dx [(f, v)])) a (exo a C (some dx)))
/-- what the text says of such a class -/
structure Exn (P : Program) (w : World) (K : PySem.W.Frag) (mg : Str → Option Value) (base : Heap) (cn f : Str) (C : Addr) : Prop where
  oex : OexC K C
  gC : mg cn = some (.ref C)
  no : PySem.W.findIn K (.ref C) f = some none
  xf : XfC K C
  exc : ExcC K C
  init : ∃ (fI : Addr) (fd : FuncData) (ps : List Str), PySem.W.findIn K (.ref C) "__init__" = some (some (.ref fI)) ∧ PySem.W.typeIn K (.ref fI) = some (.type "function") ∧ FnOk P w K mg base CX0 1 fI fd ps (spInit1 K C f) ∧ Binds K fd ps []
theorem del_upd {H : Hp} {a d : Addr} {o1 o2 o3 o4 : HO} (n : H a = none) (hne : d ≠ a) : upd (del (upd (upd (upd H a o1) d o2) a o3) a) d o4 = upd H d o4 := by
  funext b
  by_cases h1 : b = d
  · subst h1; rw [upd_same, upd_same]
  · rw [upd_ne h1, upd_ne h1]
    by_cases h2 : b = a
    · subst h2; rw [del_same, n]
    · rw [del_ne h2, upd_ne h2, upd_ne h1, upd_ne h2]
def rMk1 (K : PySem.W.Frag) (C : Addr) (f : Str) (Q : XK) : List V → Hp → Prop := fun vs H1 => vs.length ≤ 1000 ∧ ∀ a, H1 a = none → spInit1 K C f (.ref a :: (vs ++ [])) (upd H1 a (exo a C none))
  (fun v H2 => v = .non ∧ ∃ (d : Addr) (fs : List (Str × V)), H2 a = some (exo a C (some d)) ∧ H2 d = some (exd d fs) ∧ H1 d = none ∧ Q (.ref C) (some d) (upd (del H2 a) d (.xd fs))) (fun _ _ _ => False)
theorem w_mk1 {K : PySem.W.Frag} {C : Addr} {f : Str} {Q : XK} {v : V} {H1 : Hp} (T : OexC K C) (no : PySem.W.findIn K (.ref C) f = some none) (q : ∀ d, H1 d = none → Q (.ref C) (some d) (upd H1 d (.xd [(f, v)]))) : rMk1 K C f Q [v] H1 := by
  refine ⟨by simp, fun a na => ⟨a, v, rfl, T, no, upd_same, fun dx n1 n2 => ⟨rfl, dx, [(f, v)], upd_same, ?_, ?_, ?_⟩⟩⟩
  · rw [upd_ne n2, upd_same]
  · rw [upd_ne n2] at n1; exact n1
  · rw [del_upd na n2]; rw [upd_ne n2] at n1; exact q dx n1
def tRaise1 (K : PySem.W.Frag) (C : Addr) (f : Str) (W : WX) (ta : TA) : TS := fun _ σ H => ta σ H (rMk1 K C f fun cls d H' => W cls d σ H')
theorem ps_raise1 {X : Cx} {W : WX} {cn f : Str} {C : Addr} {e : Expr} {ta : TA} {p pos pos2 : Pos} (T : Exn X.prog X.w X.K X.mg X.base cn f C) (hc : X.calm = true) (hr : Room 2 X.A) (tk : Takes X W) (ha : PA X [e] ta) (hg : Gl X cn)
    (hdb : (cn == ("__debug__" : Str)) = false := by decide) (he : starEach (e :: []) X.env = (false, eval e X.env) :: starEach [] X.env := by rfl) (hpl : (backTo pos (starEach [] X.env)).any (·.1) = false := by rfl) :
    PS X (.Raise (some (.Call (.Name cn p) [e] [] pos)) none pos2) (tRaise1 X.K C f W ta) := by
  obtain ⟨fI, fd, ps, iC, tI, F, b⟩ := T.init
  exact ps_raise hc tk (pmk_oex (p := p) (dvs := []) (ds := []) T.oex iC tI F hr b .nil (fun _ _ _ _ _ _ _ z => z.elim) hg T.gC ha hdb he hpl)
theorem w_raise1 {K : PySem.W.Frag} {C : Addr} {f : Str} {W : WX} {ta : TA} {σ : L2.St} {H : Hp} {D : Ends} (h : ta σ H (rMk1 K C f fun cls d H' => W cls d σ H')) : tRaise1 K C f W ta D σ H := h
end FW

set_option maxRecDepth 100000
set_option maxHeartbeats 4000000
/-! fair weather: repr of what a law makes; defs that are promised where no repr is under way -/
namespace FW
open PySem L2 PyProof.Rows
/-- what repr shows of a value -/
def rShow (K : PySem.W.Frag) : List V → Hp → VK → Prop := fun xs H Q =>
  (∃ i, xs = [.int i] ∧ i.natAbs.log2 < 1920 ∧ Q (.str (PyData.shown (.int i))) H) ∨
  (∃ (a : Addr) (d : PyData), xs = [.ref a] ∧ Dp K H (.ref a) d ∧ d.showable = true ∧ d.hasDict = false ∧ d.depth ≤ 60 ∧ d.shown.length ≤ sizeLine ∧ Q (.str d.shown) H)
theorem call_show {X : Cx} (hg : X.A.guards = some []) (hu : X.A.units + 64 < cLine) : CallR X (.builtin "repr") (rShow X.K) := by
  intro pins s σ H xs us Q I r h
  rcases h with ⟨i, rfl, hz, q⟩ | ⟨a, d, rfl, hd, h1, h2, h3, h4, q⟩
  · exact SkE.call_repr_int pins s σ H [.int i] us Q I r ⟨i, rfl, hz, q⟩
  · obtain ⟨u, rfl, e⟩ := vals1 r
    obtain rfl : u = Value.ref a := e
    obtain ⟨as, rd⟩ := Dp.reads I d (.ref a) (.ref a) hd rfl
    exact repr_of_reads' rd h1 (PyData.noDict_hsm h2) hg (by omega) (fun _ _ e => e) (fun h' u tk hk => ⟨.str d.shown, H, I.kept hk, ⟨u, rfl⟩, q⟩) h4
/-- a def's promise, where no repr is under way -/
structure FnG (P : Program) (w : World) (K : PySem.W.Frag) (mg : Str → Option Value) (base : Heap) (CX : CXT) (k : Nat) (f : Addr) (fd : FuncData) (ps : List Str) (sp : Sp) : Prop where
  size : ∀ vs H Q E, sp vs H Q E → vs.length = ps.length
  goes : ∀ (A : Around) (outer : List Env) (s : Shared) (H : Hp) (args : Args) (us : List Value) (vs : List V) (Q : VK) (E : XK), A.guards = some [] → Room k A → Env0 P w K mg base A outer s H → BindsTo s fd args (ps.zip us) → Vals vs us →
    sp vs H Q E → codeAny (model P w) A (.call (.ref f) args) (CR CX outer P w H s Q E) s
section
variable {P : Program} {w : World} {K : PySem.W.Frag} {mg : Str → Option Value} {base : Heap} {CX : CXT}
theorem FnG.of {k : Nat} {f : Addr} {fd : FuncData} {ps : List Str} {sp : Sp} (F : FnOk P w K mg base CX k f fd ps sp) : FnG P w K mg base CX k f fd ps sp :=
  ⟨F.len, fun A outer s H args us vs Q E _ hr e0 hb hv hs => F.run A outer s H args us vs Q E hr e0 hb hv hs⟩
theorem guards_in {A : Around} {env : Env} (h : A.guards = some []) : (A.deeper env).guards = some [] := by
  exact h
theorem fun_okG {x qual : Str} {st : Stmt} {f : Addr} {fd : FuncData} {N ps : List Str} {k : Nat} {sp : Sp} (F : Fun K x qual st f fd) (S : FnScope N ps (defScope st)) (size : ∀ vs H Q E, sp vs H Q E → vs.length = ps.length)
    (walk : ∀ (cdv : Value) (A : Around) (outer : List Env) (s : Shared) (H : Hp) (vs : List V) (Q : VK) (E : XK), (A.deeper (envOfC qual (defScope st) s.heap.objs.size f cdv)).guards = some [] → Room k (A.deeper (envOfC qual (defScope st) s.heap.objs.size f cdv)) →
      (∀ oc od kV doc pm an ct osl, K.lookup f = some ⟨oc, od, .func (PySem.W.fnOf x qual (defArgs st) (defBody st) (defScope st) .none kV doc pm an cdv ct), osl⟩ → sp vs H Q E →
      ∃ t, PSs (cxOf CX P w K mg base N qual (defScope st) f cdv A outer s H E) (defBody st) t ∧ t { nx := fun _ H' => Q .non H', rt := Q } (L2.start N vs) H)) : FnG P w K mg base CX (k + 1) f fd ps sp := by
  obtain ⟨oc, od, kV, doc, pm, an, cdv, ct, osl, rfl, lk, hcd⟩ := F.ex
  exact ⟨size, fun A outer s H args us vs Q E hG hr e0 hb hv hs => LamX.run_ofS lk hcd S hr e0 hb hv (size _ _ _ _ hs) fun hr' => walk cdv A outer s H vs Q E (guards_in hG) hr' oc od kV doc pm an ct osl lk hs⟩
/-- a def under its name that is so promised -/
structure CanG (P : Program) (w : World) (K : PySem.W.Frag) (mg : Str → Option Value) (base : Heap) (CX : CXT) (k : Nat) (x : Str) (ps : List Str) (sp : Sp) : Prop where
  at_ : ∃ (f : Addr) (fd : FuncData), FnG P w K mg base CX k f fd ps sp ∧ mg x = some (.ref f) ∧ PySem.W.keepIn K (.ref f) = true ∧ Binds K fd ps []
theorem CanG.of {k : Nat} {x : Str} {ps : List Str} {sp : Sp} (c : Can P w K mg base CX k x ps sp) : CanG P w K mg base CX k x ps sp := by
  obtain ⟨f, fd, F, m, kp, b⟩ := c.ex
  exact ⟨f, fd, .of F, m, kp, b⟩
theorem canG_of {k : Nat} {x : Str} {st : Stmt} {ps : List Str} {sp : Sp} (d : DefOk K mg x st ps) (h : ∀ f fd, Fun K x x st f fd → FnG P w K mg base CX k f fd ps sp) : CanG P w K mg base CX k x ps sp := by
  obtain ⟨f, fd, F, m, b⟩ := d.ex
  exact ⟨f, fd, h f fd F, m, F.kp, b⟩
end
section
variable {X : Cx} {CX : CXT} {k j : Nat} {x : Str} {ps : List Str} {sp : Sp} {E : XK} {p pos : Pos} {e : Expr} {es : List Expr} {t : TA}
theorem pe_canG (c : CanG X.prog X.w X.K X.mg X.base CX k x ps sp) (hG : X.A.guards = some []) (hr : Room j X.A) (hk : k ≤ j) (hx : Passes CX X E) (hg : Gl X x) (ha : PA X (e :: es) t) (hdb : (x == ("__debug__" : Str)) = false := by decide)
    (he : starEach (e :: es) X.env = (false, eval e X.env) :: starEach es X.env := by rfl) (hpl : (backTo pos (starEach es X.env)).any (·.1) = false := by rfl) :
    PE X (.Call (.Name x p) (e :: es) [] pos) (tCall sp [] E t) := by
  obtain ⟨f, fd, F, m, kp, b⟩ := c.at_
  refine ⟨fun pins s σ H Q I h => wpAny_Call_Name_kw (ld_glob I hg m (PySem.W.callWith_K (h₀ := X.base) I.ok.mod.kin kp (thn (ha.run pos pins s σ H _ I h) fun us s1 y => ?_) he hpl) hdb)⟩
  obtain ⟨vs, H1, J, r, q⟩ := y
  rw [List.append_nil] at q
  have n : us.length = ps.length := by rw [← r.length]; exact F.size _ _ _ _ q
  have bind := b s1 us J.kIn (by rw [List.append_nil]; exact n)
  rw [List.append_nil] at bind
  refine ⟨J.kIn, wpAny_call (codeAny_mono (F.goes X.A X.stack s1 H1 ⟨us, []⟩ us vs Q E hG (hr.mono hk) J.env0 bind r q) fun z s2 hz => ?_)⟩
  match z, hz with
  | .error err, hz => exact hx pins σ H1 s1 err s2 J hz
  | .ok (.ret u), hz => exact J.after hz
  | .ok .next, hz => exact (show False from hz).elim
  | .ok .brk, hz => exact (show False from hz).elim
  | .ok .cont, hz => exact (show False from hz).elim
end
end FW

set_option maxRecDepth 100000
set_option maxHeartbeats 4000000
/-! fair weather: from the promise of a law's def to the row, where no repr is under way -/
namespace FW
open PySem L2 PyProof.Rows LamX
section
variable {P : Program} {w : World} {K : PySem.W.Frag} {mg mb : Str → Option Value} {a : Addr} {cs : List (Addr × Addr)} {vs : List Value} {ns : List Int} {s : Shared}
/-- what stands behind the top, when the law is called -/
structure Ready (K : PySem.W.Frag) (mg mb : Str → Option Value) (a : Addr) (cs : List (Addr × Addr)) (vs : List Value) (ns : List Int) (s : Shared) : Prop where
  kin : K.In s.heap
  glo : s.heap.Ns mainGlobals mg
  blt : s.heap.Ns builtinsNs mb
  same : ∀ x : Str, x ≠ "__name__" → mb x = bootBuiltins x
  lim : s.heap.NoLimit
  gens : s.gens = #[]
  tabs : ∀ p ∈ cs, s.heap.get? p.2 = some { cls := .none, data := .fields #[] }
  off : ∀ p ∈ cs, K.lookup p.2 = none
  heads : ∀ p ∈ cs, PySem.W.CodeHd s.heap p.1 p.2
  bmain : ∃ (bm : Addr) (ob : Obj), mg "__builtins__" = some (.ref bm) ∧ bm ≠ builtinsNs ∧ s.heap.get? bm = some ob ∧ ob.cls = .type "module" ∧ ob.dict = some builtinsNs ∧ ob.data = .plain
  list : s.heap.get? a = some { cls := .type "list", data := .seq vs.toArray }
  nums : IntsAre vs ns
  size : ns.length ≤ sizeLine
/-- what an abstract heap may track then -/
structure Tracks (K : PySem.W.Frag) (a : Addr) (cs : List (Addr × Addr)) (H : Hp) : Prop where
  all : ∀ b u, H b = some u → (b = a ∧ K.lookup a = none ∧ ∃ o xs, u = .frz o (.lst xs)) ∨ ∃ p ∈ cs, b = p.2 ∧ u = .tbl #[]
  tab : ∀ p ∈ cs, H p.2 = some (.tbl #[])
variable {H : Hp}
theorem Ready.lone (R : Ready K mg mb a cs vs ns s) {p : Addr × Addr} (hp : p ∈ cs) : p.2 ≠ a := fun z => by
  have q := R.tabs p hp
  rw [z, R.list] at q
  cases q
/-- an object that is no list and no table is not tracked -/
theorem Ready.other (R : Ready K mg mb a cs vs ns s) (T : Tracks K a cs H) {b : Addr} {o : Obj} (e : s.heap.get? b = some o) (h1 : ∀ us n, o.data ≠ .seq us n) (h2 : o.data ≠ .fields #[]) : H b = none := by
  match q : H b with
  | none => rfl
  | some u =>
    rcases T.all b u q with ⟨rfl, _⟩ | ⟨p, hp, rfl, _⟩
    · rw [R.list] at e; cases e; exact (h1 _ _ rfl).elim
    · rw [R.tabs p hp] at e; cases e; exact (h2 rfl).elim
theorem Ready.under (R : Ready K mg mb a cs vs ns s) (T : Tracks K a cs H) {b : Addr} {m : Str → Option Value} (h : s.heap.Ns b m) : (hidT s.heap H).Ns b m := by
  obtain ⟨o, es, ep, e, d, r⟩ := h
  refine ⟨o, es, ep, hidT_get e (R.other T e (fun us n z => ?_) (fun z => ?_)), d, r⟩ <;> (rw [d] at z; cases z)
theorem Ready.kbase (R : Ready K mg mb a cs vs ns s) (T : Tracks K a cs H) : K.In (hidT s.heap H) := by
  intro b o e
  refine hidT_get (R.kin b o e) ?_
  match q : H b with
  | none => rfl
  | some u =>
    rcases T.all b u q with ⟨rfl, n, _⟩ | ⟨p, hp, rfl, _⟩
    · rw [n] at e; cases e
    · rw [R.off p hp] at e; cases e
theorem Ready.tabB (R : Ready K mg mb a cs vs ns s) (T : Tracks K a cs H) {p : Addr × Addr} (hp : p ∈ cs) : TabB (hidT s.heap H) mg p.1 p.2 := by
  have tb := R.tabs p hp
  constructor
  · obtain ⟨o, us, file, tf, flags, tg, inF, text, tt, e, r1, r2, r3, rest⟩ := R.heads p hp
    refine ⟨o, us, file, tf, flags, tg, inF, text, tt, hidT_get e (R.other T e (fun _ _ z => ?_) (fun z => ?_)), r1, r2, r3, rest⟩ <;> (rw [r2] at z; cases z)
    simp at r3
  · obtain ⟨bm, ob, b1, b2, b3, b4, b5, b6⟩ := R.bmain
    have plain : H bm = none := R.other T b3 (fun _ _ z => by rw [b6] at z; cases z) (fun z => by rw [b6] at z; cases z)
    refine ⟨bm, ob, b1, b2, fun q => ?_, fun q => ?_, hidT_get b3 plain, b4, b5, b6⟩
    · obtain ⟨o, es, ep, e, d, _⟩ := R.glo
      rw [q, e] at b3; cases b3
      rw [d] at b6; cases b6
    · rw [q, tb] at b3; cases b3; cases b6
  · intro z
    obtain ⟨o, es, ep, e, d, _⟩ := R.glo
    rw [z, tb] at e; cases e; cases d
theorem Ready.env (R : Ready K mg mb a cs vs ns s) (T : Tracks K a cs H) (ok : HOk P w H s.heap) : Env0 P w K mg (hidT s.heap H) callerA [] s H where
  frames := rfl
  mod := ⟨R.kbase T, R.under T R.glo, ⟨mb, R.under T R.blt, R.same⟩, by obtain ⟨mc, h1, h2⟩ := R.lim; exact ⟨mc, R.under T h1, h2⟩⟩
  bs := fun b o e => of_hidT e
  bsz := Nat.le_of_eq (hidT_size _ _)
  funs := trivial
  frf := fun b hb => nomatch (show b ∈ ([] : List Addr) from hb)
  hok := ok
  bare := .of_eq R.gens
/-- the law's call, from such a heap -/
theorem Ready.call (R : Ready K mg mb a cs vs ns s) (T : Tracks K a cs H) (ok : HOk P w H s.heap) (sq : SqL K H a (ns.map V.int)) {CX : CXT} {k : Nat} {fa : Addr} {fd : FuncData} {x : Str} {sp : Sp} (hr : Room k callerA)
    (F : ∀ base : Heap, K.In base → base.Ns mainGlobals mg → (∀ p ∈ cs, TabB base mg p.1 p.2) → FnG P w K mg base CX k fa fd [x] sp) (bind : ∀ (s : Shared) (u : Value), BindsTo s fd ⟨[u], []⟩ [(x, u)])
    (hsp : sp [.ref a] H (fun v _ => v = .bl true) fun _ _ _ => False) (hCX : ∀ H e s', CX [] H s (fun _ _ _ => False) e s' → False) :
    codeAny (model P w) callerA (.call (.ref fa) ⟨[.ref a], []⟩) (fun r s' => r = .ok (.ret (.bool true)) ∧ OldK s.heap s'.heap ∧ s'.os = s.os ∧ AllBare s'.gens) s := by
  have G := F _ (R.kbase T) (R.under T R.glo) (fun p hp => R.tabB T hp)
  refine codeAny_mono (G.goes callerA [] s H ⟨[.ref a], []⟩ [.ref a] [.ref a] (fun v _ => v = .bl true) (fun _ _ _ => False) rfl hr (R.env T ok) (bind s (.ref a)) (.cons rfl .nil) hsp) fun z s' hz => ?_
  match z, hz with
  | .error err, hz => exact (hCX H err s' hz).elim
  | .ok .next, hz => exact (show False from hz).elim
  | .ok .brk, hz => exact (show False from hz).elim
  | .ok .cont, hz => exact (show False from hz).elim
  | .ok (.ret u), hz =>
    obtain ⟨v, H', os, bare, un, ok', rv, rfl⟩ := hz
    obtain rfl : u = Value.bool true := rv
    have old : ∀ b o, (∀ p ∈ cs, p.2 ≠ b) → s.heap.get? b = some o → s'.heap.get? b = some o := fun b o nb e => by
      match q : H b with
      | none => exact un.keep b o e q (fun z => nomatch (show b ∈ ([] : List Addr) from z)) (by simp)
      | some u =>
        rcases T.all b u q with ⟨rfl, _, ob, xs, rfl⟩ | ⟨p, hp, e2, _⟩
        · have e1 := (ok b _ q).1
          have e2 := (ok' b _ (un.frzs b ob _ q)).1
          rw [e] at e1; cases e1
          exact e2
        · exact (nb p hp e2.symm).elim
    have more : ∀ p ∈ cs, ∃ m : Array Value, s'.heap.get? p.2 = some { cls := .none, data := .fields m } := fun p hp => by
      obtain ⟨m, q⟩ := un.tbls p.2 #[] (T.tab p hp)
      exact ⟨_, ok' p.2 _ q⟩
    refine ⟨rfl, ⟨fun b o e => ?_, fun b o e => ?_⟩, os, bare⟩
    · by_cases hb : ∃ p ∈ cs, p.2 = b
      · obtain ⟨p, hp, rfl⟩ := hb
        obtain ⟨m, hm⟩ := more p hp
        have tb := R.tabs p hp
        rw [tb] at e; cases e
        exact .inr (.inl ⟨((R.heads p hp).tab tb).isCodeTable, rfl, #[], m, rfl, by rw [Array.empty_append]; exact hm⟩)
      · exact .inl (old b o (fun p hp z => hb ⟨p, hp, z⟩) e)
    · by_cases hb : ∃ p ∈ cs, p.2 = b
      · obtain ⟨p, hp, rfl⟩ := hb
        obtain ⟨m, hm⟩ := more p hp
        exact ⟨_, hm⟩
      · exact ⟨o, old b o (fun p hp z => hb ⟨p, hp, z⟩) e⟩
open Classical in
/-- the heap that tracks the tables, and the script where the text's part of the heap does not hold it -/
noncomputable def H0 (K : PySem.W.Frag) (a : Addr) (cs : List (Addr × Addr)) (vs : List Value) (ns : List Int) : Hp := fun b =>
  if ∃ p ∈ cs, p.2 = b then some (.tbl #[]) else if b = a ∧ K.lookup a = none then some (.frz { cls := .type "list", data := .seq vs.toArray } (.lst (ns.map V.int))) else none
theorem h0_tab {b : Addr} (h : ∃ p ∈ cs, p.2 = b) : H0 K a cs vs ns b = some (.tbl #[]) := by unfold H0; exact if_pos h
theorem h0_list (h : ¬ ∃ p ∈ cs, p.2 = a) (n : K.lookup a = none) : H0 K a cs vs ns a = some (.frz { cls := .type "list", data := .seq vs.toArray } (.lst (ns.map V.int))) := by
  unfold H0; rw [if_neg h]; exact if_pos ⟨rfl, n⟩
theorem Ready.tracks (R : Ready K mg mb a cs vs ns s) : Tracks K a cs (H0 K a cs vs ns) := by
  refine ⟨fun b u e => ?_, fun p hp => h0_tab ⟨p, hp, rfl⟩⟩
  unfold H0 at e
  split at e
  · rename_i h; obtain ⟨p, hp, e2⟩ := h; cases e
    exact .inr ⟨p, hp, e2.symm, rfl⟩
  · split at e
    · rename_i h; cases e
      exact .inl ⟨h.1, h.2, _, _, rfl⟩
    · cases e
theorem Ready.ok0 (R : Ready K mg mb a cs vs ns s) : HOk P w (H0 K a cs vs ns) s.heap := by
  intro b u e
  unfold H0 at e
  split at e
  · rename_i h; obtain ⟨p, hp, rfl⟩ := h; cases e
    exact R.tabs p hp
  · split at e
    · rename_i h; cases e
      obtain ⟨rfl, _⟩ := h
      exact ⟨R.list, by rw [List.length_map]; exact R.size, vs, _, vals_ints R.nums, R.list⟩
    · cases e
theorem Ready.sq0 (R : Ready K mg mb a cs vs ns s) : SqL K (H0 K a cs vs ns) a (ns.map V.int) := by
  have no : ¬ ∃ p ∈ cs, p.2 = a := fun ⟨p, hp, z⟩ => R.lone hp z
  match q : K.lookup a with
  | none => exact .inl (.inr ⟨_, h0_list no q⟩)
  | some o =>
    have e := R.kin a o q
    rw [R.list] at e; cases e
    exact .inr ⟨_, vs.toArray, _, q, rfl, rfl, rfl, by rw [List.size_toArray, R.nums.length]; exact R.size, by simpa using vals_ints R.nums⟩
end
/-- what is known of a law's promise behind the top -/
structure LawG (l : PySem.W.OpenLaw) (w : World) (K : PySem.W.Frag) (k n : Nat) (x : Str) (mg : Str → Option Value) (fa : Addr) (h : Heap) : Prop where
  ex : ∃ (fd : FuncData) (cs : List (Addr × Addr)) (sp : Sp), (∀ p ∈ cs, h.get? p.2 = some { cls := .none, data := .fields #[] }) ∧ (∀ p ∈ cs, K.lookup p.2 = none) ∧ (∀ p ∈ cs, PySem.W.CodeHd h p.1 p.2) ∧ (∀ (s : Shared) (u : Value), BindsTo s fd ⟨[u], []⟩ [(x, u)]) ∧
    (∀ (H : Hp) (a : Addr) (ns : List Int), ns.length ≤ n → (∀ z ∈ ns, Builtin.Int.intBits z ≤ 1048576) → (∀ p ∈ cs, H p.2 = some (.tbl #[])) → SqL K H a (ns.map V.int) → sp [.ref a] H (fun v _ => v = .bl true) fun _ _ _ => False) ∧
    ∀ base : Heap, K.In base → base.Ns mainGlobals mg → (∀ p ∈ cs, TabB base mg p.1 p.2) → FnG l.prog w K mg base L2.CX0 k fa fd [x] sp
theorem walkG {l : PySem.W.OpenLaw} {n k : Nat} {q : Program} {loose : List Str} {XP : (Str → Option Value) → Heap → Prop} {YP : World → Heap → Prop} {d : DefRec} {x : Str} (hn : l.most = some n) (hn2 : n ≤ sizeLine) (hdf : d.params.defaults = []) (hr : Room k callerA)
    (F : ∀ (w : World) (mg : Str → Option Value) (fa : Addr) (h : Heap), YP w h → h.Ns mainGlobals mg → mg d.name = some (.ref fa) → ∃ K : PySem.W.Frag, K.In h ∧ LawG l w K k n x mg fa h) : PySem.W.WalkO q loose XP YP l.row.toRowW d [] (fun f vs => PySem.call f vs) := by
  refine Att.attach_callB hn hdf fun w s₀ s mg mb fa o pm cd doc a vs ns G Y ho hd hcd hmg hobj hints hlen hbits hg => ?_
  obtain ⟨K, KX, ⟨fd, cs, sp, hT, nT, C, hb, hsp, hF⟩⟩ := F w mg fa s.heap Y G.T.g hmg
  have R : Ready K mg mb a cs vs ns s := ⟨KX, G.T.g, G.T.b, G.T.builtins, G.T.nolimit, hg, hT, nT, C, G.T.bmain, hobj, hints, Nat.le_trans hlen hn2⟩
  exact R.call R.tracks R.ok0 R.sq0 hr hF hb (hsp _ a ns hlen hbits R.tracks.tab R.sq0) fun H e s' z => z
end FW

set_option maxRecDepth 100000
set_option maxHeartbeats 4000000
/-! fair weather: what the laws have in common -/
namespace FW
open PySem L2 PyProof.Rows
/-! ### kinds of values, carried on -/
theorem TyX.grow {K : PySem.W.Frag} {c : Addr} {H H' : Hp} {a : Addr} {t : Value} (e : Ext c H H') (n : a ≠ c) (h : TyX K H (.ref a) t) : TyX K H' (.ref a) t := by
  cases h with
  | base b =>
    refine .base ?_
    cases b with
    | lst h => exact .lst (e _ _ n h)
    | frz h => exact .frz (e _ _ n h)
    | tup h => exact .tup (e _ _ n h)
    | dK h => exact .dK (e _ _ n h)
    | dT h => exact .dT (e _ _ n h)
    | ins h a1 a2 a3 a4 a5 => exact .ins (e _ _ n h) a1 a2 a3 a4 a5
  | set h => exact .set (e _ _ n h)
  | kList h k => exact .kList h k
  | kTuple h k => exact .kTuple h k
  | kDict h k => exact .kDict h k
  | fTuple h => exact .fTuple (e _ _ n h)
  | fDict h => exact .fDict (e _ _ n h)
theorem Kn.ext {K : PySem.W.Frag} {c : Addr} {H H' : Hp} {v : V} (e : Ext c H H') (n : v ≠ .ref c) (h : Kn K H v) : Kn K H' v := by
  cases v with
  | ref a =>
    obtain ⟨T, hT, t⟩ := h
    exact ⟨T, hT, TyX.grow e (fun z => n (by rw [z])) t⟩
  | _ => exact h
theorem kn_lst {K : PySem.W.Frag} {H : Hp} {p : Addr} {xs : List V} (e : H p = some (.lst xs)) : Kn K H (.ref p) := ⟨"list", .inl rfl, .base (.lst e)⟩
theorem kn_tup {K : PySem.W.Frag} {H : Hp} {p : Addr} {xs : List V} (e : H p = some (.tup xs)) : Kn K H (.ref p) := ⟨"tuple", .inr (.inl rfl), .base (.tup e)⟩
theorem kn_dK {K : PySem.W.Frag} {H : Hp} {p : Addr} {xs : List (Key × V)} (e : H p = some (.dK xs)) : Kn K H (.ref p) := ⟨"dict", .inr (.inr rfl), .base (.dK e)⟩
/-! ### a def whose code object is known -/
structure DefOkC (K : PySem.W.Frag) (mg : Str → Option Value) (x : Str) (st : Stmt) (ps : List Str) (c : Addr) : Prop where
  ex : ∃ (f : Addr) (fd : FuncData), Fun K x x st f fd ∧ mg x = some (.ref f) ∧ Binds K fd ps [] ∧ fd.code = .ref c
section
variable {P : Program} {w : World} {K : PySem.W.Frag} {mg : Str → Option Value} {base : Heap} {CX : CXT} {k : Nat} {x : Str} {st : Stmt} {ps N : List Str} {sp : Sp} {c : Addr}
theorem DefOkC.can (d : DefOkC K mg x st ps c) (h : ∀ f fd, Fun K x x st f fd → fd.code = .ref c → FnOk P w K mg base CX k f fd ps sp) : Can P w K mg base CX k x ps sp := by
  obtain ⟨f, fd, F, m, b, e⟩ := d.ex
  exact ⟨f, fd, h f fd F e, m, F.kp, b⟩
theorem fun_okC {f : Addr} {fd : FuncData} (F : Fun K x x st f fd) (hc : fd.code = .ref c) (S : FnScope N ps (defScope st)) (len : ∀ vs H Q E, sp vs H Q E → vs.length = ps.length)
    (walk : ∀ (A : Around) (outer : List Env) (s : Shared) (H : Hp) (vs : List V) (Q : VK) (E : XK), Room k (A.deeper (envOfC x (defScope st) s.heap.objs.size f (.ref c))) → sp vs H Q E →
      ∃ t, PSs (cxOf CX P w K mg base N x (defScope st) f (.ref c) A outer s H E) (defBody st) t ∧ t { nx := fun _ H' => Q .non H', rt := Q } (L2.start N vs) H) : FnOk P w K mg base CX (k + 1) f fd ps sp := by
  obtain ⟨oc, od, kV, doc, pm, an, cdv, ct, osl, rfl, lk, hcd⟩ := F.ex
  obtain rfl : cdv = .ref c := hc
  exact fn_of lk hcd S len walk
end
/-! ### what a lambda leaves as it was, tables of code objects -/
section
variable {K : PySem.W.Frag} {H H' : Hp} {c : Addr} {n : Nat} {T : List (Addr × Str)}
theorem ExtN.sqL {a : Addr} {xs : List V} (e : LamX.ExtN H H') (h : SqL K H a xs) : SqL K H' a xs := by
  rcases h with (h | ⟨o, h⟩) | h
  · exact .inl (.inl (e _ _ h nofun))
  · exact .inl (.inr ⟨o, e _ _ h nofun⟩)
  · exact .inr h
theorem ExtN.cloud (e : LamX.ExtN H H') (h : Cloud K H c n) : Cloud K H' c n := by
  obtain ⟨l, cells, rest, h1, h2, h3⟩ := h
  exact ⟨l, cells, rest, e _ _ h1 nofun, ExtN.sqL e h2, h3⟩
theorem ExtN.kn {v : V} (e : LamX.ExtN H H') (h : Kn K H v) : Kn K H' v := by
  cases v with
  | ref a =>
    obtain ⟨S, hS, t⟩ := h
    refine ⟨S, hS, ?_⟩
    cases t with
    | base b =>
      refine .base ?_
      cases b with
      | lst h => exact .lst (e _ _ h nofun)
      | frz h => exact .frz (e _ _ h nofun)
      | tup h => exact .tup (e _ _ h nofun)
      | dK h => exact .dK (e _ _ h nofun)
      | dT h => exact .dT (e _ _ h nofun)
    | set h => exact .set (e _ _ h nofun)
    | kList h k => exact .kList h k
    | kTuple h k => exact .kTuple h k
    | kDict h k => exact .kDict h k
    | fTuple h => exact .fTuple (e _ _ h nofun)
    | fDict h => exact .fDict (e _ _ h nofun)
  | _ => exact h
theorem tabs_ext (t : LamX.Tabs T H) (h : Cloud K H c n) (e : Ext c H H') : LamX.Tabs T H' := by
  obtain ⟨l, cells, rest, h1, _, _⟩ := h
  intro p hp
  obtain ⟨ps, t1, t2, t3⟩ := t p hp
  refine ⟨ps, e _ _ (fun z => by rw [z, h1] at t1; cases t1) t1, t2, fun pos cv hcv => ?_⟩
  obtain ⟨d, e1, e2⟩ := t3 pos cv hcv
  exact ⟨d, e1, e _ _ (fun z => by rw [z, h1] at e2; exact nomatch (show HO.lst _ = HO.ext _ from Option.some.inj e2)) e2⟩
end
/-- one value of two, by a test -/
theorem w_ifM {c : Bool} {Q : VK} {H : Hp} {x y : V} {A B : Prop} (ha : Q x H → A) (hb : Q y H → B) (h : Q (if c = true then x else y) H) : if c = true then A else B := by
  cases c with
  | true => exact ha h
  | false => exact hb h
theorem w_ifCC {c : Bool} {Q : VK} {σ : L2.St} {H : Hp} {x y : V} (h : Q (if c = true then x else y) H) : if c = true then tC x σ H Q else tC y σ H Q := by
  cases c with
  | true => exact h
  | false => exact h
theorem w_ifVC {c : Bool} {Q : VK} {σ : L2.St} {H : Hp} {i : Nat} {x y : V} (e : σ[i]? = some (some x)) (h : Q (if c = true then x else y) H) : if c = true then tVar i σ H Q else tC y σ H Q := by
  cases c with
  | true => exact ⟨x, e, h⟩
  | false => exact h
theorem Kn.grow {K : PySem.W.Frag} {H H' : Hp} {v : V} (g : Grow H H') (h : Kn K H v) : Kn K H' v := ExtN.kn (LamX.ExtN.of g) h
theorem w_neSelf {x : V} {H : Hp} {Q : VK} (s : scal x x = true) (q : Q (.bl false) H) : rNe x x H Q := ⟨s, by simp only [decide_true, Bool.not_true]; exact q⟩
theorem w_eqSelf {x : V} {H : Hp} {Q : VK} (s : scal x x = true) (q : Q (.bl true) H) : rEq x x H Q := ⟨s, by simp only [decide_true]; exact q⟩
/-! ### what repr shows of rows -/
theorem text_le (b : Nat) : ∀ (ts : List Str) (k : Nat) (acc : Str), (∀ t ∈ ts, t.length ≤ b) → (textFrom k acc ts).length ≤ acc.length + (b + 2) * ts.length
  | [], k, acc, _ => by show acc.length ≤ _; omega
  | t :: r, k, acc, h => by
    have ih := text_le b r (k + 1) (acc ++ (if k > 0 then ", " else "" : String) ++ t) (fun x hx => h x (List.mem_cons_of_mem _ hx))
    have ht := h t (List.mem_cons_self ..)
    have hs : ((if k > 0 then ", " else "" : String) : Str).length ≤ 2 := by split <;> decide
    show (textFrom (k + 1) (acc ++ (if k > 0 then ", " else "" : String) ++ t) r).length ≤ _
    rw [Str.length_append, Str.length_append] at ih
    rw [List.length_cons, Nat.mul_add]
    omega
theorem shownAll_ints : ∀ ns : List Int, PyData.shownAll (ns.map PyData.int) = ns.map fun n => PyData.shown (.int n)
  | [] => rfl
  | n :: ns => by show _ :: PyData.shownAll (ns.map PyData.int) = _; rw [shownAll_ints ns]; rfl
theorem showable_ints : ∀ ns : List Int, (∀ n ∈ ns, n.natAbs.log2 < 1920) → PyData.showableAll (ns.map PyData.int) = true
  | [], _ => rfl
  | n :: ns, h => by
    show (PyData.showable (.int n) && PyData.showableAll (ns.map PyData.int)) = true
    rw [showable_ints ns fun m hm => h m (List.mem_cons_of_mem _ hm), Bool.and_true]
    exact decide_eq_true (h n (List.mem_cons_self ..))
theorem noDict_ints : ∀ ns : List Int, PyData.hasDictAll (ns.map PyData.int) = false
  | [] => rfl
  | n :: ns => by show (PyData.hasDict (.int n) || PyData.hasDictAll (ns.map PyData.int)) = false; rw [noDict_ints ns]; rfl
theorem shown_ints {ns : List Int} (h : ∀ n ∈ ns, n.natAbs.log2 < 1920) (hl : ns.length ≤ 1000) : (PyData.shown (.list (ns.map PyData.int))).length ≤ sizeLine := by
  show (listText (PyData.shownAll (ns.map PyData.int))).length ≤ _
  rw [shownAll_ints, sizeLine_eq]
  unfold listText
  rw [Str.length_append]
  have z := text_le 1921 (ns.map fun n => PyData.shown (.int n)) 0 "[" (fun t ht => by
    obtain ⟨n, hn, rfl⟩ := List.mem_map.mp ht
    exact int_text_len_1921 (h n hn))
  rw [List.length_map] at z
  have e1 : (("[" : String) : Str).length = 1 := by decide
  have e2 : (("]" : String) : Str).length = 1 := by decide
  rw [e1] at z
  rw [e2]
  omega
theorem w_showI {K : PySem.W.Frag} {i : Int} {H : Hp} {Q : VK} (h : i.natAbs.log2 < 1920) (q : Q (.str (PyData.shown (.int i))) H) : rShow K [.int i] H Q := .inl ⟨i, rfl, h, q⟩
theorem w_showN {K : PySem.W.Frag} {a : Addr} {ns : List Int} {H : Hp} {Q : VK} (sq : SqL K H a (ns.map V.int)) (h : ∀ n ∈ ns, n.natAbs.log2 < 1920) (hl : ns.length ≤ 1000) (q : Q (.str (PyData.shown (.list (ns.map PyData.int)))) H) : rShow K [.ref a] H Q :=
  .inr ⟨a, .list (ns.map PyData.int), rfl, .lst sq (dpAll_ints K H ns), showable_ints ns h, noDict_ints ns, by have := depthAll_ints ns; simp only [PyData.depth]; omega, shown_ints h hl, q⟩
theorem dpAll_strs (K : PySem.W.Frag) (H : Hp) : ∀ ss : List Str, DpAll K H (ss.map V.str) (ss.map PyData.str)
  | [] => .nil
  | s :: ss => .cons (.str s) (dpAll_strs K H ss)
theorem w_showS {K : PySem.W.Frag} {a : Addr} {ss : List Str} {H : Hp} {Q : VK} (sq : SqT K H a (ss.map V.str)) (h : (PyData.tuple (ss.map PyData.str)).showable = true ∧ (PyData.tuple (ss.map PyData.str)).hasDict = false ∧ (PyData.tuple (ss.map PyData.str)).depth ≤ 60 ∧ (PyData.tuple (ss.map PyData.str)).shown.length ≤ sizeLine)
    (q : Q (.str (PyData.shown (.tuple (ss.map PyData.str)))) H) : rShow K [.ref a] H Q := .inr ⟨a, .tuple (ss.map PyData.str), rfl, .tup sq (dpAll_strs K H ss), h.1, h.2.1, h.2.2.1, h.2.2.2, q⟩
/-! ### calls by keywords alone -/
structure CanW (P : Program) (w : World) (K : PySem.W.Frag) (mg : Str → Option Value) (base : Heap) (CX : CXT) (k : Nat) (x : Str) (ks : List Str) (gV : List V → List V → List V) (sp : Sp) : Prop where
  at_ : ∃ (f : Addr) (fd : FuncData) (ps : List Str) (g : List Value → List Value → List Value), FnOk P w K mg base CX k f fd ps sp ∧ mg x = some (.ref f) ∧ PySem.W.keepIn K (.ref f) = true ∧ KBn K fd ps 0 ks g gV
theorem canW_of {P : Program} {w : World} {K : PySem.W.Frag} {mg : Str → Option Value} {base : Heap} {CX : CXT} {k : Nat} {x : Str} {st : Stmt} {ps ks : List Str} {sp : Sp} (π : {α : Type} → List α → List α) (d : DefOk K mg x st ps) (h : ∀ f fd, Fun K x x st f fd → FnOk P w K mg base CX k f fd ps sp)
    (rel : ∀ {zs : List V} {ws : List Value}, Vals zs ws → Vals (π zs) (π ws))
    (bind : ∀ (kV doc pm : Value) (an : Option Addr) (cdv ct : Value) (ws : List Value), ws.length = ks.length → bindArgs (PySem.W.fnOf x x (defArgs st) (defBody st) (defScope st) .none kV doc pm an cdv ct) ⟨[], ks.zip ws⟩ = pure (ps.zip (π ws))) :
    CanW P w K mg base CX k x ks (fun _ zs => π zs) sp := by
  obtain ⟨f, fd, F, m, _⟩ := d.ex
  have G := h f fd F
  have kp := F.kp
  obtain ⟨oc, od, kV, doc, pm, an, cdv, ct, osl, rfl, lk, hcd⟩ := F.ex
  refine ⟨f, _, ps, fun _ ws => π ws, G, m, kp, ⟨fun s us ws _ l1 l2 => ?_, fun _ r => rel r⟩⟩
  cases us with
  | nil => exact .of_eq (bind kV doc pm an cdv ct ws l2)
  | cons _ _ => cases l1
theorem pe_canW {X : Cx} {CX : CXT} {k j : Nat} {x : Str} {ks : List Str} {gV : List V → List V → List V} {sp : Sp} {E : XK} {p pos : Pos} {kws : List Keyword} {tk : TA} (c : CanW X.prog X.w X.K X.mg X.base CX k x ks gV sp) (hr : Room j X.A) (hk : k ≤ j) (hx : Passes CX X E) (hg : Gl X x) (hkw : PK X kws tk)
    (hall : (backToKw pos (keywordEach kws X.env)).all (·.1.isSome) = true := by rfl) (hks : (backToKw pos (keywordEach kws X.env)).filterMap (·.1) = ks := by rfl) (hdb : (x == ("__debug__" : Str)) = false := by decide)
    (hpl : ((backTo pos (starEach [] X.env)).any (·.1) || (backToKw pos (keywordEach kws X.env)).any (·.1.isNone)) = false := by rfl) : PE X (.Call (.Name x p) [] kws pos) (tCallN 0 ks.length sp gV E tNil tk) := by
  obtain ⟨f, fd, ps, g, F, m, kp, b⟩ := c.at_
  refine ⟨fun pins s σ H Q I h => wpAny_Call_Name_kw (ld_glob I hg m (PySem.W.callWith_KW0 (h₀ := X.base) I.ok.mod.kin kp hall (thn (hkw.run pos pins s σ H _ I h) fun ws s2 y => ?_) hpl) hdb)⟩
  obtain ⟨zs, H2, J, rz, l1, l2, q⟩ := y
  refine ⟨J.kIn, ?_⟩
  rw [hks]
  exact run_fnN (us := []) (vs := []) F (hr.mono hk) b hx J .nil rz l1 l2 q
theorem w_callN {n m : Nat} {sp : Sp} {gV : List V → List V → List V} {E : XK} {t tk : TA} {σ : L2.St} {H : Hp} {Q : VK} (h : t σ H fun vs H1 => tk σ H1 fun zs H2 => vs.length = n ∧ zs.length = m ∧ sp (gV vs zs) H2 Q E) : tCallN n m sp gV E t tk σ H Q := h
/-- one way or its opposite -/
theorem w_negV {c : Bool} {Q : VK} {σ : L2.St} {H : Hp} {i : Nat} {a : Int} (e : σ[i]? = some (some (.int a))) (h : Q (.int (if c = true then -a else a)) H) : if c = true then tUn (rU fun i => .int (-i)) (tVar i) σ H Q else tVar i σ H Q := by
  cases c with
  | true => exact ⟨_, e, a, rfl, h⟩
  | false => exact ⟨_, e, h⟩
/-! ### comprehensions: a value made of each item, the heap growing -/
section
variable {K : PySem.W.Frag} {te : TE} {i : Nat} {σ : L2.St} {H1 : Hp} {Q : VK} {a : Addr}
theorem pe_lc1 {X : Cx} {x : Str} {i : Nat} {elt tg iter : Expr} {ifs : List Expr} {scope : Scope} {pos : Pos} {wi : TI} {g : TG} {tt : TT} {te : TE} (hc : X.calm = true) (hN : X.N.Nodup) (hi : PI X tg iter wi) (ok : BlkOk X.N X.env.scope scope [(x, i)])
    (hg : ∀ (s : Shared) (H : Hp) (C : Addr) (cl : List (Str × Addr)) (fp : List Addr), PG (X.blk s H scope (compEnvC scope cl C X.env) fp) tg g) (ht : ∀ (s : Shared) (H : Hp) (C : Addr) (cl : List (Str × Addr)) (fp : List Addr), PTs (X.blk s H scope (compEnvC scope cl C X.env) fp) ifs tt)
    (he : ∀ (s : Shared) (H : Hp) (C : Addr) (cl : List (Str × Addr)) (fp : List Addr), PE (X.blk s H scope (compEnvC scope cl C X.env) fp) elt te) (hs : ∀ x, foldedSetIterable iter X.env x = pure x := by intro _; rfl) : PE X (.ListComp elt [⟨tg, iter, ifs, 0⟩] scope pos) (tLc wi g tt te [i]) :=
  pe_lc (own := [(x, i)]) hc hN hi ok hg ht he hs
theorem ps_setLc1 {X : Cx} {k i : Nat} {x y : Str} {py : Pos} {elt tg iter : Expr} {ifs : List Expr} {scope : Scope} {pos spos : Pos} {wi : TI} {g : TG} {tt : TT} {te : TE} (hc : X.calm = true) (hN : X.N.Nodup) (hy : X.N[i]? = some y) (hyl : X.env.scope.names.lookup y = some .local)
    (hsw : swapsWith (.ListComp elt [⟨tg, iter, ifs, 0⟩] scope pos) (some (.Name y py)) spos.line X.env = pure true) (hi : PI X tg iter wi) (ok : BlkOk X.N X.env.scope scope [(x, k)])
    (hg : ∀ (s : Shared) (H : Hp) (C : Addr) (cl : List (Str × Addr)) (fp : List Addr), PG (X.blk s H scope (compEnvC scope cl C X.env) fp) tg g) (ht : ∀ (s : Shared) (H : Hp) (C : Addr) (cl : List (Str × Addr)) (fp : List Addr), PTs (X.blk s H scope (compEnvC scope cl C X.env) fp) ifs tt)
    (he : ∀ (s : Shared) (H : Hp) (C : Addr) (cl : List (Str × Addr)) (fp : List Addr), PE (X.blk s H scope (compEnvC scope cl C X.env) fp) elt te) (hs : ∀ x, foldedSetIterable iter X.env x = pure x := by intro _; rfl) :
    PS X (.Assign [.Name y py] (.ListComp elt [⟨tg, iter, ifs, 0⟩] scope pos) spos) (tAsg (tLc wi g tt te [k]) (gName i)) := ps_setLc (own := [(x, k)]) hc hN hy hyl hsw hi ok hg ht he hs
/-- a turn: of the j-th item the j-th value is made -/
def Turns (te : TE) (i : Nat) (σ : L2.St) (H1 : Hp) (xs ys : List V) : Prop := ∀ (j : Nat) (x y : V) (H' : Hp) (R : VK), xs[j]? = some x → ys[j]? = some y → Grow H1 H' → (∀ H2, Grow H' H2 → R y H2) → te ((wipe σ [i]).set i (some x)) H' R
theorem lc_turn {xs ys : List V} {D : Addr} (hw : ∀ x, wipe ((wipe σ [i]).set i (some x)) [i] = wipe σ [i]) (hl : ys.length = xs.length) (hs : xs.length < sizeLine) (turn : Turns te i σ H1 xs ys) (nD : H1 D = none)
    (j : Nat) (x : V) (H' : Hp) (ex : xs[j]? = some x) (p : H' D = some (.lst (ys.take j)) ∧ Grow H1 H') :
    gName i x (wipe σ [i]) H' fun σ2 H2 => wipe σ2 [i] = wipe σ [i] ∧ tYes σ2 H2 fun b H3 => if b = true then te σ2 H3 fun y H4 => ∃ acc, H4 D = some (.lst acc) ∧ acc.length < sizeLine ∧
      (upd H4 D (.lst (acc ++ [y])) D = some (.lst (ys.take (j + 1))) ∧ Grow H1 (upd H4 D (.lst (acc ++ [y])))) else (H3 D = some (.lst (ys.take (j + 1))) ∧ Grow H1 H3) := by
  refine ⟨hw x, ?_⟩
  unfold tYes
  refine w_yes ?_
  have hj : j < ys.length := by rw [hl]; exact (List.getElem?_eq_some_iff.mp ex).1
  refine turn j x ys[j] H' _ ex (by simp [hj]) p.2 fun H2 g => ⟨ys.take j, g _ _ p.1, by rw [List.length_take]; omega, ?_, fun b o e => ?_⟩
  · rw [upd_same, List.take_succ_eq_append_getElem hj]
  · rw [upd_ne (ne_of_none e nD)]; exact g _ _ (p.2 _ _ e)
theorem lcL {Qd : Addr → Hp → Prop} {xs ys : List V} (hw : ∀ x, wipe ((wipe σ [i]).set i (some x)) [i] = wipe σ [i]) (hl : ys.length = xs.length) (hs : xs.length < sizeLine) (sq : SqL K H1 a xs) (turn : Turns te i σ H1 xs ys)
    (done : ∀ D H', H1 D = none → H' D = some (.lst ys) → Grow H1 H' → Qd D H') (D : Addr) (nD : H1 D = none) :
    ∃ W : Nat → Nat → Hp → Prop, (∃ m, W 0 m (upd H1 D (.lst []))) ∧ ∀ j m H, W j m H →
      ((Itl K a).stop j H ∧ Qd D H) ∨ ((Itl K a).go j H ∧ ∃ Nx : Hp → Prop, (∀ H', Nx H' → ∃ m', m' < m ∧ W (j + 1) m' H') ∧ ∀ x H', (Itl K a).yld j H x H' → gName i x (wipe σ [i]) H' fun σ2 H2 => wipe σ2 [i] = wipe σ [i] ∧ tYes σ2 H2 fun b H3 =>
        if b = true then te σ2 H3 fun y H4 => ∃ acc, H4 D = some (.lst acc) ∧ acc.length < sizeLine ∧ Nx (upd H4 D (.lst (acc ++ [y]))) else Nx H3) :=
  lc_list (xs := xs) (fun j H' => H' D = some (.lst (ys.take j)) ∧ Grow H1 H') ⟨upd_same, Grow.new nD⟩ (fun j H' _ p => p.2.sqL sq) (lc_turn hw hl hs turn nD) (fun H' p => done D H' nD (by rw [← hl, List.take_length] at p; exact p.1) p.2)
theorem lcT {Qd : Addr → Hp → Prop} {xs ys : List V} (hw : ∀ x, wipe ((wipe σ [i]).set i (some x)) [i] = wipe σ [i]) (hl : ys.length = xs.length) (hs : xs.length < sizeLine) (sq : SqT K H1 a xs) (turn : Turns te i σ H1 xs ys)
    (done : ∀ D H', H1 D = none → H' D = some (.lst ys) → Grow H1 H' → Qd D H') (D : Addr) (nD : H1 D = none) :
    ∃ W : Nat → Nat → Hp → Prop, (∃ m, W 0 m (upd H1 D (.lst []))) ∧ ∀ j m H, W j m H →
      ((Itt K a).stop j H ∧ Qd D H) ∨ ((Itt K a).go j H ∧ ∃ Nx : Hp → Prop, (∀ H', Nx H' → ∃ m', m' < m ∧ W (j + 1) m' H') ∧ ∀ x H', (Itt K a).yld j H x H' → gName i x (wipe σ [i]) H' fun σ2 H2 => wipe σ2 [i] = wipe σ [i] ∧ tYes σ2 H2 fun b H3 =>
        if b = true then te σ2 H3 fun y H4 => ∃ acc, H4 D = some (.lst acc) ∧ acc.length < sizeLine ∧ Nx (upd H4 D (.lst (acc ++ [y]))) else Nx H3) :=
  lc_tup (xs := xs) (fun j H' => H' D = some (.lst (ys.take j)) ∧ Grow H1 H') ⟨upd_same, Grow.new nD⟩ (fun j H' _ p => p.2.sqT sq) (lc_turn hw hl hs turn nD) (fun H' p => done D H' nD (by rw [← hl, List.take_length] at p; exact p.1) p.2)
end
/-- a part of a list of ints -/
theorem cut_ints (ns : List Int) (lo hi : Option Int) : ∃ ms : List Int, cutV (ns.map V.int) lo hi = ms.map V.int ∧ ms.length ≤ ns.length := by
  refine ⟨(ns.drop (HT.sIx (ns.map V.int).length 0 lo)).take (HT.sIx (ns.map V.int).length (ns.map V.int).length hi - HT.sIx (ns.map V.int).length 0 lo), ?_, ?_⟩
  · unfold cutV
    rw [List.map_take, List.map_drop]
  · rw [List.length_take, List.length_drop]; omega
/-! ### promises that all laws have -/
/-- the cloud of a script -/
def spBegin (K : PySem.W.Frag) : Sp := fun vs H Q _ => ∃ (a : Addr) (ns : List Int), vs = [.ref a] ∧ SqL K H a (ns.map V.int) ∧ ns.length ≤ 63 ∧ ∀ c H', H c = none → Grow H H' → Cloud K H' c 0 → Q (.ref c) H'
/-- one of some -/
def spOneOf (K : PySem.W.Frag) : Sp := fun vs H Q _ => ∃ (c : Addr) (n : Nat) (p : Addr) (xs : List V), vs = [.ref c, .ref p] ∧ Cloud K H c n ∧ n < 999990 ∧ SqL K H p xs ∧ p ≠ c ∧ 0 < xs.length ∧ xs.length < 1000000 ∧
  ∀ (x : V) (n' : Nat) (H' : Hp), x ∈ xs → n' ≤ n + 1 → Cloud K H' c n' → Ext c H H' → Q x H'
end FW

set_option maxRecDepth 100000
set_option maxHeartbeats 4000000
/-! fair weather: a lambda with one parameter that has a default, handed to a def -/
namespace FW
open PySem PySem.Spec PyProof.Rows L2 LamX
/-- its names: one parameter p, captured ones, globals; N: the names of the def that makes it -/
structure LamP (N : List Str) (sc scope : Scope) (p : Str) : Prop where
  kind : scope.kind = .function
  co : scope.isCoroutine = false
  gen : scope.isGenerator = false
  par : scope.names.lookup p = some .local
  nocell : ∀ z ∈ scope.names, z.2 ≠ .cell
  apart : ∀ z ∈ scope.names, z.2 = .local → z.1 ∉ N
  up : ∀ z ∈ scope.names, z.2 = .free → sc.names.lookup z.1 = some .cell ∨ sc.names.lookup z.1 = some .free
def lamPB (N : List Str) (sc scope : Scope) (p : Str) : Bool :=
  decide (scope.kind = .function) && (!scope.isCoroutine && (!scope.isGenerator && (decide (scope.names.lookup p = some .local) && scope.names.all fun z =>
    !decide (z.2 = .cell) && ((!decide (z.2 = .local) || !decide (z.1 ∈ N)) && (!decide (z.2 = .free) || (decide (sc.names.lookup z.1 = some .cell) || decide (sc.names.lookup z.1 = some .free)))))))
theorem lamP_by {N : List Str} {sc scope : Scope} {p : Str} (h : lamPB N sc scope p = true) : LamP N sc scope p := by
  unfold lamPB at h
  simp only [Bool.and_eq_true, Bool.or_eq_true, Bool.not_eq_true', decide_eq_true_eq, decide_eq_false_iff_not, List.all_eq_true] at h
  obtain ⟨k1, k2, k3, k4, k5⟩ := h
  refine ⟨k1, k2, k3, k4, fun z hz => (k5 z hz).1, fun z hz e => ?_, fun z hz e => ?_⟩
  · rcases (k5 z hz).2.1 with q | q
    · exact absurd e q
    · exact q
  · rcases (k5 z hz).2.2 with q | q
    · exact absurd e q
    · exact q
section
variable {X : Cx} {pins : List (Addr × Obj)} {σ : L2.St} {H HZ : Hp} {s s1 : Shared} {scope : Scope} {p : Str}
theorem LamP.cells (L : LamP X.N X.env.scope scope p) (ok : X.Ok) : ∀ z ∈ scope.names, z.2 = .free → ∃ c, X.env.cells.lookup z.1 = some c := fun z hz e => by
  rcases L.up z hz e with q | q
  · exact ok.has _ (.inl q)
  · exact ok.has _ (.inr q)
/-- its body begins -/
theorem startP {A : Around} {outer : List Env} {E : XK} {f c' : Addr} {g : Heap} {tk : Nat} {u : Value} (I : Inv X pins σ H s) (L : LamP X.N X.env.scope scope p) (en : Env0 X.prog X.w X.K X.mg X.base A outer s1 HZ) (calm : A.handled = none)
    (un : Un (frs X.stack) [] H HZ s.heap s1.heap) (ns : g.Ns s1.heap.objs.size fun y => ([(p, u)] : List (Str × Value)).reverse.lookup y) (kp : ∀ b o, s1.heap.get? b = some o → g.get? b = some o) :
    Inv (lamCx X A outer s1 HZ E scope f c') [] σ HZ { s1 with heap := g, toks := tk } := by
  have has := L.cells I.ok
  have mine : ∀ {y c}, (cloFrom X.env.cells scope.names []).lookup y = some c → X.env.cells.lookup y = some c := fun {y c} e => by
    rcases cloFrom_mem (PySem.mem_of_lookup e) with hm | ⟨m1, m2⟩
    · cases hm
    · obtain ⟨d, hd⟩ := has _ m1 rfl
      have hd' : X.env.cells.lookup y = some d := hd
      obtain rfl : c = d := by rw [m2, hd'] <;> rfl
      exact hd'
  have there : ∀ {y}, scope.names.lookup y = some .free → ∃ c, (cloFrom X.env.cells scope.names []).lookup y = some c := fun {y} hl =>
    mem_lookup (cloFrom_has (cells := X.env.cells) (acc := []) (show (y, NameKind.free) ∈ scope.names from PySem.mem_of_lookup hl))
  have still : ∀ {c : Addr} {v : Option Value}, H c = none → s.heap.IsCell c v → g.IsCell c v := fun {c v} n ⟨o, ho, hv⟩ => by
    obtain ⟨sl, q⟩ := un.any ho n (by simp)
    exact ⟨_, kp _ _ q, hv⟩
  have none_ : ∀ b : Addr, b ∉ (lamCx X A outer s1 HZ E scope f c').ex := fun b z => absurd (show b ∈ ([] : List Addr) from z) (by simp)
  have okL : (lamCx X A outer s1 HZ E scope f c').Ok := by
    refine ⟨en.mod, L.kind, rfl, rfl, Nat.le_refl _, ?i1, ?i2, ?i3, fun _ => calm, Around.frames_deeper en.frames, .inr ⟨rfl, rfl⟩, ?i4, en.bs, en.bsz, ?i5, ?i6, en.funs, en.frf⟩
    case i1 => exact fun y z c e1 e2 => I.ok.inj y z c (mine e1) (mine e2)
    case i2 =>
      intro y hy
      rcases (show scope.names.lookup y = some .cell ∨ scope.names.lookup y = some .free from hy) with q | q
      · exact absurd rfl (L.nocell _ (PySem.mem_of_lookup q))
      · exact there q
    case i3 => exact fun y c z _ => nomatch (show false = true from z)
    case i4 => exact fun b z => absurd z (none_ b)
    case i5 => exact fun b _ _ => none_ b
    case i6 => exact fun b z => absurd z (none_ b)
  refine ⟨okL, rfl, en.bare, Un.kept kp, ⟨_, ns, ?j1⟩, ?j2, en.hok.fresh (Nat.le_refl _), ?j3, ?j4, en.hok.kept kp, I.len⟩
  case j1 =>
    intro i y v e1 e2 e3
    rcases (show Vis scope y from e3) with q | q | q
    · exact absurd (List.mem_of_getElem? (show X.N[i]? = some y from e1)) (L.apart _ (PySem.mem_of_lookup q) rfl)
    · exact absurd rfl (L.nocell _ (PySem.mem_of_lookup q))
    · obtain ⟨m, hn, hl⟩ := I.loc
      have up := L.up _ (PySem.mem_of_lookup q) rfl
      obtain ⟨u', r, w'⟩ := hl i y v e1 e2 (up.elim (fun k => .inr (.inl k)) (fun k => .inr (.inr k)))
      obtain ⟨d, hd⟩ := there q
      refine ⟨u', r, .inr ⟨.inr q, d, hd, ?_⟩⟩
      have md := mine hd
      rcases w' with ⟨kl, _⟩ | ⟨_, d2, ed, hc⟩
      · have kl' : X.env.scope.names.lookup y = some .local := kl
        rcases up with k | k <;> rw [show X.env.scope.names.lookup y = _ from k] at kl' <;> cases kl'
      · rw [md] at ed; cases ed
        exact still (I.freeC y _ md) hc
  case j2 =>
    intro y c e
    obtain ⟨v, hv⟩ := I.cell y c (mine e)
    exact ⟨v, still (I.freeC y c (mine e)) hv⟩
  case j3 =>
    intro y c e
    obtain ⟨v, o, ho, hv⟩ := I.cell y c (mine e)
    exact un.free c o ho (I.freeC y c (mine e)) (by simp)
  case j4 => exact fun q hq => absurd (show q ∈ ([] : List (Addr × Obj)) ++ [] from hq) (by simp)
end
abbrev lamPF (q : Str) (params : Arguments) (body : Expr) (scope : Scope) (cl : List (Str × Addr)) (t : Addr) (doc pm cv ct : Value) : FuncData := PySem.W.kdv_fn "<lambda>" q params (.expr body) scope cl (.ref t) doc pm cv ct
section
variable {X : Cx} {pins : List (Addr × Obj)} {σ : L2.St} {H : Hp} {s : Shared}
/-- it is made: a tuple of its default, a code object that is new or found in the table, the def itself -/
theorem makeP {T : List (Addr × Str)} {c P : Addr} {params : Arguments} {body d0 : Expr} {v0 : V} {scope : Scope} {pos : Pos} {Q : Value → Shared → Prop} (I : Inv X pins σ H s) (TB : TabB X.base X.mg c P) (hcode : X.env.code = .ref c)
    (hm : (P, X.env.qual ++ "<lambda>") ∈ T) (hu : ∀ b ∈ T, b.1 = P → b.2 = X.env.qual ++ "<lambda>") (hT : Tabs T H) (hd : params.defaults = [d0]) (hk : params.kw_defaults = []) (he : PE X d0 (tC v0)) (cells : ∀ z ∈ scope.names, z.2 = .free → ∃ c, X.env.cells.lookup z.1 = some c)
    (go : ∀ (f t c' : Addr) (u pm ctv doc : Value) (H1 : Hp) (s' : Shared), Inv X pins σ H1 s' → ExtN H H1 → Tabs T H1 →
      s'.heap.get? f = some ⟨.type "function", none, .func (lamPF (X.env.qual ++ "<lambda>") params body scope (cloFrom X.env.cells scope.names []) t doc pm (.ref c') ctv), #[]⟩ → s'.heap.get? t = some (PySem.W.kdv_tup [u]) →
      H1 f = none → f ∉ frs X.stack → H1 t = none → t ∉ frs X.stack → H1 c' = some (CodeO c' (X.env.qual ++ "<lambda>")) → Q (.ref f) s') :
    wpAny (model X.prog X.w) X.A (eval (.Lambda params body scope pos) X.env) Q X.xe s := by
  obtain ⟨ps, hP, ht, ha⟩ := hT _ hm
  refine PySem.W.kdv_lam (by rw [hd]; rfl) hk ?_
  rw [hd]
  refine PySem.W.kdv_all1 (thn (he.run pins s σ H (fun _ K1 => K1 = H) I rfl) fun u sa ⟨va, Ha, Ia, _, ea⟩ => ?_)
  subst ea
  refine PySem.W.kdv_all0 ?_
  rw [makeFunction_eq]
  simp only [List.zip_nil_right, List.filterMap_nil, List.isEmpty_nil, List.isEmpty_cons, if_true, pure_bind, Bool.false_eq_true, if_false]
  refine wpAny_bind (wpAny_newTextTuple ?_)
  have nt : Ha sa.heap.objs.size = none := Ia.hok.fresh (Nat.le_refl _)
  have off : ∀ f, sa.heap.objs.size ≤ f → f ∉ frs X.stack := fun f hf z => by
    rcases List.mem_cons.mp (Ia.stkSub _ z) with e | e
    · have lt := Ia.lt
      rw [← e] at lt
      exact Nat.lt_irrefl _ (Nat.lt_of_lt_of_le lt hf)
    · exact Ia.nofs hf e
  have offt := off _ (Nat.le_refl _)
  have Ib : Inv X pins σ Ha { sa with heap := sa.heap.push (PySem.W.kdv_tup [u]) } := Ia.kept fun b o e => Heap.get?_push_of_some _ e
  have tt : (sa.heap.push (PySem.W.kdv_tup [u])).get? sa.heap.objs.size = some (PySem.W.kdv_tup [u]) := Heap.get?_push_size _ rfl
  have grown : sa.heap.objs.size ≤ (sa.heap.push (PySem.W.kdv_tup [u])).objs.size := by rw [Heap.size_push]; omega
  have less : sa.heap.objs.size < (sa.heap.push (PySem.W.kdv_tup [u])).objs.size := by rw [Heap.size_push]; omega
  revert tt Ib grown less
  generalize sa.heap.push (PySem.W.kdv_tup [u]) = hb
  intro Ib tt grown less
  generalize hsb : ({ sa with heap := hb } : Shared) = sb at Ib ⊢
  have hbs : sb.heap = hb := by rw [← hsb]
  rw [← hbs] at tt grown less
  have bt : sb.heap.BuiltinsAt X.mg P := TB.bm.keeps Ib.bk
  have pt : sb.heap.get? P = some { cls := .none, data := .fields ps } := Ib.hok P _ hP
  cases found : codeAmong pos ps.toList with
  | none =>
    refine PySem.W.kdv_makeTail (mg := X.mg) (c := c) (P := P) (ps := ps) (closure_ok cells) Ib.ok.glob (Ib.mod.glob.keeps Ib.bk) hcode (TB.code.keeps Ib.bk) pt ht found TB.gP bt fun c' ctv doc hc tk keep ge lt rec_ tab => ?_
    obtain ⟨c2, oc, vs, tq, ec, hoc, hdc, hv⟩ := rec_
    cases ec
    have szs : sb.heap.objs.size ≤ hc.objs.size := Nat.le_trans ge (Nat.le_of_lt lt)
    have nC : Ha c' = none := Ib.hok.fresh ge
    have If := inv_table (t' := tk) (more := #[rawInt pos.line, rawInt pos.col, .ref c']) (h' := hc.push (PySem.W.kdv_obj "<lambda>" (X.env.qual ++ "<lambda>") params (.expr body) scope (cloFrom X.env.cells scope.names []) (.ref sa.heap.objs.size) doc ((X.mg "__name__").getD .none) c' ctv)) Ib hP
      (fun b o nb e => Heap.get?_push_of_some _ (keep b o nb e)) (Heap.get?_push_of_some _ tab) ge ⟨oc, vs, tq, Heap.get?_push_of_some _ hoc, hdc, hv⟩
    have eN : ExtN Ha (upd (upd Ha P (.tbl (ps ++ #[rawInt pos.line, rawInt pos.col, .ref c']))) c' (CodeO c' (X.env.qual ++ "<lambda>"))) := fun b o e n => by
      have n1 : b ≠ c' := ne_of_none e nC
      have n2 : b ≠ P := fun z => n ps (Option.some.inj (e.symm.trans (by rw [z]; exact hP)))
      rw [upd_ne n1, upd_ne n2]
      exact e
    have asL : (ps ++ #[rawInt pos.line, rawInt pos.col, .ref c']).toList = ps.toList ++ [rawInt pos.line, rawInt pos.col, .ref c'] := by simp
    have tP : sa.heap.objs.size ≠ P := fun z => by rw [← z, nt] at hP; cases hP
    have tC' : sa.heap.objs.size ≠ c' := Nat.ne_of_lt (Nat.lt_of_lt_of_le less ge)
    refine go hc.objs.size sa.heap.objs.size c' u ((X.mg "__name__").getD .none) ctv doc _ _ If eN ?t1 (Heap.get?_push_size _ rfl) (Heap.get?_push_of_some _ (keep _ _ tP tt)) ?t2 (off _ (Nat.le_trans grown szs)) ?t3 offt upd_same
    case t1 =>
      intro b hb'
      by_cases same : b.1 = P
      · rw [hu b hb' same, same]
        refine ⟨_, by rw [upd_ne (ne_of_none hP nC), upd_same], by rw [asL]; exact PySem.TriplesOk_snoc _ _ _ _ ht, fun pq cv hcv => ?_⟩
        rw [asL] at hcv
        rcases among_app _ ht hcv with z | z
        · obtain ⟨c0, e1, e2⟩ := ha pq cv z
          exact ⟨c0, e1, eN _ _ e2 codeO_ne⟩
        · exact ⟨c', z, upd_same⟩
      · obtain ⟨qs, a1, a2, a3⟩ := hT b hb'
        refine ⟨qs, ?_, a2, fun pq cv hcv => ?_⟩
        · rw [upd_ne (ne_of_none a1 nC), upd_ne same]; exact a1
        · obtain ⟨c0, e1, e2⟩ := a3 pq cv hcv
          exact ⟨c0, e1, eN _ _ e2 codeO_ne⟩
    case t2 =>
      have m1 : hc.objs.size ≠ c' := Nat.ne_of_gt lt
      have m2 : hc.objs.size ≠ P := Nat.ne_of_gt (Nat.lt_of_lt_of_le (Heap.lt_size pt) szs)
      rw [upd_ne m1, upd_ne m2]
      exact Ib.hok.fresh szs
    case t3 =>
      rw [upd_ne tC', upd_ne tP]
      exact nt
  | some cv =>
    obtain ⟨c', ec, hco⟩ := ha pos cv found
    subst ec
    refine PySem.W.kdv_makeTailHit (mg := X.mg) (c := c) (P := P) (ps := ps) (closure_ok cells) Ib.ok.glob (Ib.mod.glob.keeps Ib.bk) hcode (TB.code.keeps Ib.bk) pt ht found bt fun ctv doc hc tk keep szs => ?_
    have If : Inv X pins σ Ha { sb with heap := hc.push ⟨.type "function", none, .func (lamPF (X.env.qual ++ "<lambda>") params body scope (cloFrom X.env.cells scope.names []) sa.heap.objs.size doc ((X.mg "__name__").getD .none) (.ref c') ctv), #[]⟩, toks := tk } :=
      Ib.kept fun b o e => Heap.get?_push_of_some _ (keep b o e)
    exact go hc.objs.size sa.heap.objs.size c' u ((X.mg "__name__").getD .none) ctv doc Ha _ If (ExtN.refl Ha) hT (Heap.get?_push_size _ rfl) (Heap.get?_push_of_some _ (keep _ _ tt)) (Ib.hok.fresh szs) (off _ (Nat.le_trans grown szs)) nt offt hco
end
section
variable {X : Cx} {pins : List (Addr × Obj)} {σ : L2.St} {H : Hp} {s : Shared}
/-- it is called, in the def that got it -/
theorem actP {CXg : CXT} {Eg : XK} {Ng : List Str} {qg : Str} {sg : Scope} {g f t c' : Addr} {cdg pm ctv doc u : Value} {params : Arguments} {body : Expr} {scope : Scope} {k i : Nat} {a p : Str} {pn : List (Addr × Obj)} {xe : Value → Shared → Prop} {W : WX} {E : XK} {tb : TE} {q1 q2 : Pos}
    (I : Inv X pins σ H s) (L : LamP X.N X.env.scope scope p) (hf : s.heap.get? f = some ⟨.type "function", none, .func (lamPF (X.env.qual ++ "<lambda>") params body scope (cloFrom X.env.cells scope.names []) t doc pm (.ref c') ctv), #[]⟩)
    (ht : s.heap.get? t = some (PySem.W.kdv_tup [u])) (nf : H f = none) (rf : f ∉ frs X.stack) (nt : H t = none) (rt : t ∉ frs X.stack)
    (bind : ∀ z : Shared, z.heap.get? t = some (PySem.W.kdv_tup [u]) → BindsTo z (lamPF (X.env.qual ++ "<lambda>") params body scope (cloFrom X.env.cells scope.names []) t doc pm (.ref c') ctv) ⟨[], []⟩ [(p, u)])
    (tk : Takes ((cxOf CXg X.prog X.w X.K X.mg X.base Ng qg sg g cdg X.A X.stack s H Eg).tr pn xe) W) (hW : ∀ cls d σ' H', E cls d H' → W cls d σ' H') (hr : Room (k + 1) (X.A.deeper (envOfC qg sg s.heap.objs.size g cdg)))
    (inner : ∀ (A : Around) (outer : List Env) (s : Shared) (H : Hp), Room k (A.deeper (lamEnv X scope s.heap.objs.size f c')) → PE (lamCx X A outer s H E scope f c') body tb)
    (hN : Ng[i]? = some a) (hv : Vis sg a) (hd : (a == ("__debug__" : Str)) = false := by decide) (hcd : (a == ("__classdict__" : Str)) = false := by decide) :
    PE ((cxOf CXg X.prog X.w X.K X.mg X.base Ng qg sg g cdg X.A X.stack s H Eg).tr pn xe) (.Call (.Name a q1) [] [] q2)
      (fun σZ HZ Q => σZ[i]? = some (some (.ref f)) ∧ HZ c' = some (CodeO c' (X.env.qual ++ "<lambda>")) ∧ tb σ HZ Q) := by
  refine ⟨fun pinsZ sZ σZ HZ Q IZ ⟨hs, hc, hq⟩ => ?_⟩
  refine wpAny_Call_Name_kw (thn ((pe_var (pos := q1) (i := i) hN hv hd hcd).run pinsZ sZ σZ HZ (fun v K1 => v = .ref f ∧ K1 = HZ) IZ ⟨.ref f, hs, rfl, rfl⟩) fun uf sa ⟨v, Ha, Ia, ra, ev, eH⟩ => ?_)
  subst ev eH
  obtain rfl : uf = Value.ref f := ra
  have nob : ∀ b : Addr, b ∉ ([] : List Addr) := fun b z => nomatch z
  have fa := Ia.base.keep f _ hf nf rf (nob f)
  have ta := Ia.base.keep t _ ht nt rt (nob t)
  refine PySem.W.callWith_F0 ⟨_, _, _, _, fa⟩ ?_
  have un : Un (frs X.stack) [] H Ha s.heap sa.heap := Ia.base
  obtain ⟨⟨oc, vs, tq, hoc, hdc, hvc⟩, _, _⟩ := Ia.hok c' _ hc
  have runs : codeAny (model X.prog X.w) (X.A.deeper (envOfC qg sg s.heap.objs.size g cdg)) (.call (.ref f) ⟨[], []⟩) (CR (L2.CX X.prog X.w) (envOfC qg sg s.heap.objs.size g cdg :: X.stack) X.prog X.w Ha sa Q E) sa := by
    refine PySem.W.kla_callFunE hr.depth fa rfl L.co L.gen rfl ⟨c', oc, vs, tq, rfl, hoc, hdc, hvc⟩ (bind sa ta _ _ _ _ ?_)
    refine wpAny_newFunctionEnv L.nocell ?b1 (fun hz ns sb => ⟨Ia.nolimit.fresh _ sb, ?b2⟩) L.kind
    case b1 =>
      intro y hy
      rw [List.mem_singleton.mp hy]
      exact L.par
    case b2 =>
      show codeAny _ _ (.expr body (lamEnv X scope sa.heap.objs.size f c')) _ _
      have kp : ∀ b o, sa.heap.get? b = some o → hz.get? b = some o := fun b o e => sb.extBut b o (Nat.ne_of_lt (Heap.lt_size e)) (Heap.get?_push_of_some _ e)
      have J : Inv (lamCx X (X.A.deeper (envOfC qg sg s.heap.objs.size g cdg)) (envOfC qg sg s.heap.objs.size g cdg :: X.stack) sa Ha E scope f c') [] σ Ha { sa with heap := hz, toks := sa.toks + ([(p, u)] : List (Str × Value)).length } :=
        startP I L Ia.env0 hr.hd un ns kp
      refine PySem.W.kla_codeExpr (wpAny_mono ((inner _ _ sa Ha (hr.deeper _)).run [] _ _ Ha Q J hq) ?b3 fun _ _ z => z)
      case b3 => exact fun v s' ⟨w', H', J', rv, q⟩ => ⟨w', H', J'.os, J'.bare, J'.base, J'.hok, rv, q⟩
  have out : Passes (L2.CX X.prog X.w) ((cxOf CXg X.prog X.w X.K X.mg X.base Ng qg sg g cdg X.A X.stack s H Eg).tr pn xe) E := passes_call tk hW
  refine wpAny_call (codeAny_mono runs fun r s' z => ?_)
  match r, z with
  | .error e, z => exact out pinsZ σZ Ha sa e s' Ia z
  | .ok (.ret _), z => exact Ia.after z
  | .ok .next, z => exact z.elim
  | .ok .brk, z => exact z.elim
  | .ok .cont, z => exact z.elim
/-- x(lambda p=d: body) -/
theorem pe_lamcallP {T : List (Addr × Str)} {TT : (XK → Hp → VK → Prop) → Hp → VK → Prop} {x a p : Str} {g c P : Addr} {k : Nat} {pg : Arguments} {bg : List Stmt} {sg : Scope} {dV kV doc pm cdv ct oc : Value} {an od : Option Addr} {osl : Array (Option Value)} {Ng : List Str}
    {params : Arguments} {body d0 : Expr} {v0 : V} {scope : Scope} {t : XK → TE} {q1 q2 q3 : Pos} (hg : Gl X x) (hm : X.mg x = some (.ref g)) (hk : PySem.W.keepIn X.K (.ref g) = true)
    (lk : X.K.lookup g = some ⟨oc, od, .func (PySem.W.fnOf x x pg bg sg dV kV doc pm an cdv ct), osl⟩) (hcg : PySem.W.codeIn X.K cdv x = true) (hb : L2.Binds X.K (PySem.W.fnOf x x pg bg sg dV kV doc pm an cdv ct) [a] []) (Sg : FnScope Ng [a] sg) (hNg : Ng[0]? = some a) (hva : Vis sg a)
    (hG : GivesTo X Ng x sg g cdv bg a (X.env.qual ++ "<lambda>") TT) (TB : TabB X.base X.mg c P) (hcode : X.env.code = .ref c) (hmT : (P, X.env.qual ++ "<lambda>") ∈ T) (hu : ∀ b ∈ T, b.1 = P → b.2 = X.env.qual ++ "<lambda>") (hr : Room (k + 2) X.A)
    (L : LamP X.N X.env.scope scope p) (hd : params.defaults = [d0]) (hkd : params.kw_defaults = []) (he : PE X d0 (tC v0))
    (bind : ∀ (q : Str) (cl : List (Str × Addr)) (t : Addr) (u doc pm cv ctv : Value) (z : Shared), z.heap.get? t = some (PySem.W.kdv_tup [u]) → BindsTo z (lamPF q params body scope cl t doc pm cv ctv) ⟨[], []⟩ [(p, u)])
    (inner : ∀ (A : Around) (outer : List Env) (s : Shared) (H : Hp) (E : XK) (f c' : Addr), Room k (A.deeper (lamEnv X scope s.heap.objs.size f c')) → PE (lamCx X A outer s H E scope f c') body (t E))
    (n1 : (x == ("__debug__" : Str)) = false := by decide) (n2 : (a == ("__debug__" : Str)) = false := by decide) (n3 : (a == ("__classdict__" : Str)) = false := by decide) :
    PE X (.Call (.Name x q1) [.Lambda params body scope q2] [] q3) (tLam T TT t) := by
  refine ⟨fun pins s σ H Q I ⟨hT, h⟩ => ?_⟩
  refine wpAny_Call_Name_kw (ld_glob I hg hm (PySem.W.callWith_K (h₀ := X.base) I.ok.mod.kin hk ?_ (by rfl) (by rfl)) n1)
  show wpAny _ _ (spliced ((false, eval (.Lambda params body scope q2) X.env) :: backTo q3 (starEach [] X.env))) _ _ s
  refine Calls.spliced_cons (makeP I TB hcode hmT hu hT hd hkd he (L.cells I.ok) fun f t1 c' u pm' ctv doc' H1 s' J eN T1 hf ht nf rf nt rt hco => ?_)
  refine Calls.spliced_nil ⟨J.kIn, ?_⟩
  have runs : codeAny (model X.prog X.w) X.A (.call (.ref g) ⟨[.ref f], []⟩) (CR C8.CX0 X.stack X.prog X.w H1 s' Q C8.E0) s' := by
    refine run_ofS (N := Ng) (ps := [a]) (us := [.ref f]) (vs := [.ref f]) lk hcg Sg hr J.env0 (hb s' [.ref f] J.kIn rfl) (.cons rfl .nil) rfl fun hr' => ?_
    obtain ⟨td, hp, hq⟩ := hG f c' s' H1 Q (fun E H' Q' => t E σ H' Q') (fun W pn xe E p1 p2 tk hW => actP (i := 0) J L hf ht nf rf nt rt (fun z => bind _ _ _ _ _ _ _ _ z) tk hW hr' (fun A outer s H hr2 => inner A outer s H E f c' hr2) hNg hva n2 n3) hco (h H1 eN T1)
    exact ⟨td, hp.nox, hq⟩
  refine wpAny_call (codeAny_mono runs fun r s2 z => ?_)
  match r, z with
  | .error e, z => exact (show False from z).elim
  | .ok (.ret _), z => exact J.after z
  | .ok .next, z => exact z.elim
  | .ok .brk, z => exact z.elim
  | .ok .cont, z => exact z.elim
end
end FW

set_option maxRecDepth 100000
set_option maxHeartbeats 4000000
/-! fair weather: isinstance of rows of classes, repr of rows with nothing in them, comprehensions over ranges, draws in them -/
namespace FW
open PySem L2 PyProof.Rows
/-! ### isinstance(e, (c1, ..)) -/
/-- e an exception that is kept -/
def rIsXT (K : PySem.W.Frag) : List V → Hp → VK → Prop := fun xs H Q => ∃ (a tp D : Addr) (d : Option Addr) (cs : List V) (us : List Value) (b : Bool), xs = [.ref a, .ref tp] ∧ H tp = some (.tup cs) ∧ Paired ClsV cs us ∧ H a = some (ExT a (.ref D) d) ∧ ExcC K D ∧
  (d = none ∨ ∃ (dd : Addr) (fs : List (Str × V)), d = some dd ∧ H dd = some (.xd fs)) ∧ PySem.W.kitAny K (.ref D) us = some b ∧ Q (.bl b) H
theorem call_isXT {X : Cx} : CallR X (.builtin "isinstance") (rIsXT X.K) := by
  intro pins s σ H xs us Q I r h
  obtain ⟨a, tp, D, d, cs, ws, b, rfl, hT, pc, e, C, hd, q1, q⟩ := h
  obtain ⟨u1, u2, rfl, r1, r2⟩ := vals2 r
  cases (show u1 = Value.ref a from r1)
  cases (show u2 = Value.ref tp from r2)
  obtain ⟨ox, od, J⟩ := inst_of I e hd
  obtain ⟨_, its, rv, ob, k1, k2, n, k3⟩ := (show ObjOk X.prog X.w H s.heap tp (.tup cs) from I.hok tp _ hT)
  obtain rfl := ClsV.all pc rv
  obtain ⟨oc, odd, dt, sl⟩ := ob
  simp only at k2 k3
  subst k2 k3
  exact PySem.W.kia_tup (PySem.W.fw_kitx C) I.kIn J k1 q1 (fun z => nomatch z) fun tk => ⟨.bl b, H, I.tok tk, rfl, q⟩
def rIsAT (K : PySem.W.Frag) : List V → Hp → VK → Prop := fun xs H Q => rIsiT K xs H Q ∨ rIsXT K xs H Q
theorem call_isAT {X : Cx} : CallR X (.builtin "isinstance") (rIsAT X.K) := by
  intro pins s σ H xs us Q I r h
  rcases h with h | h
  · exact call_isiT pins s σ H xs us Q I r h
  · exact call_isXT pins s σ H xs us Q I r h
/-! ### repr where there may be nothing -/
def rShowA (K : PySem.W.Frag) : List V → Hp → VK → Prop := fun xs H Q => rShow K xs H Q ∨ (xs = [.non] ∧ Q (.str "None") H) ∨ ∃ b, xs = [.bl b] ∧ Q (.str (if b = true then "True" else "False")) H
theorem call_showA {X : Cx} (hg : X.A.guards = some []) (hu : X.A.units + 64 < cLine) : CallR X (.builtin "repr") (rShowA X.K) := by
  intro pins s σ H xs us Q I r h
  rcases h with h | ⟨rfl, q⟩ | ⟨b, rfl, q⟩
  · exact call_show hg hu pins s σ H xs us Q I r h
  · obtain ⟨u, rfl, e⟩ := vals1 r
    obtain rfl : u = Value.none := e
    exact PySem.P.repr_of_none ⟨.str _, H, I.tok _, ⟨_, rfl⟩, q⟩
  · obtain ⟨u, rfl, e⟩ := vals1 r
    obtain rfl : u = Value.bool b := e
    refine PySem.P.repr_of_bool ⟨.str _, H, I.tok _, ⟨_, rfl⟩, ?_⟩
    cases b <;> exact q
def vo : Option Int → V
  | none => .non
  | some n => .int n
def po : Option Int → PyData
  | none => .none
  | some n => .int n
theorem dpAll_os (K : PySem.W.Frag) (H : Hp) : ∀ os : List (Option Int), DpAll K H (os.map vo) (os.map po)
  | [] => .nil
  | none :: os => .cons .non (dpAll_os K H os)
  | some n :: os => .cons (.int n) (dpAll_os K H os)
theorem os_depth : ∀ os : List (Option Int), PyData.depthAll (os.map po) = 0
  | [] => rfl
  | none :: os => by simp only [List.map, po, PyData.depthAll, PyData.depth, os_depth os, Nat.max_self]
  | some n :: os => by simp only [List.map, po, PyData.depthAll, PyData.depth, os_depth os, Nat.max_self]
theorem os_noDict : ∀ os : List (Option Int), PyData.hasDictAll (os.map po) = false
  | [] => rfl
  | none :: os => by show (PyData.hasDict .none || PyData.hasDictAll (os.map po)) = false; rw [os_noDict os]; rfl
  | some n :: os => by show (PyData.hasDict (.int n) || PyData.hasDictAll (os.map po)) = false; rw [os_noDict os]; rfl
/-- small ones -/
def SmO (o : Option Int) : Prop := ∀ n, o = some n → n.natAbs.log2 < 1920
theorem os_show : ∀ os : List (Option Int), (∀ o ∈ os, SmO o) → PyData.showableAll (os.map po) = true
  | [], _ => rfl
  | none :: os, h => by
    show (PyData.showable .none && PyData.showableAll (os.map po)) = true
    rw [os_show os fun m hm => h m (List.mem_cons_of_mem _ hm), Bool.and_true]; rfl
  | some n :: os, h => by
    show (PyData.showable (.int n) && PyData.showableAll (os.map po)) = true
    rw [os_show os fun m hm => h m (List.mem_cons_of_mem _ hm), Bool.and_true]
    exact decide_eq_true (h _ (List.mem_cons_self ..) n rfl)
theorem os_shownAll : ∀ os : List (Option Int), PyData.shownAll (os.map po) = os.map fun o => PyData.shown (po o)
  | [] => rfl
  | o :: os => by show _ :: PyData.shownAll (os.map po) = _; rw [os_shownAll os]; rfl
theorem os_text {o : Option Int} (h : SmO o) : (PyData.shown (po o)).length ≤ 1921 := by
  cases o with
  | none => decide
  | some n => exact int_text_len_1921 (h n rfl)
theorem os_shown {os : List (Option Int)} (h : ∀ o ∈ os, SmO o) (hl : os.length ≤ 1000) : (PyData.shown (.list (os.map po))).length ≤ sizeLine := by
  show (listText (PyData.shownAll (os.map po))).length ≤ _
  rw [os_shownAll, sizeLine_eq]
  unfold listText
  rw [Str.length_append]
  have z := text_le 1921 (os.map fun o => PyData.shown (po o)) 0 "[" (fun t ht => by
    obtain ⟨o, ho, rfl⟩ := List.mem_map.mp ht
    exact os_text (h o ho))
  rw [List.length_map] at z
  have a1 : (("[" : String) : Str).length = 1 := by decide
  have a2 : (("]" : String) : Str).length = 1 := by decide
  rw [a1] at z
  rw [a2]
  omega
theorem w_showO {K : PySem.W.Frag} {a : Addr} {os : List (Option Int)} {H : Hp} {Q : VK} (sq : SqL K H a (os.map vo)) (h : ∀ o ∈ os, SmO o) (hl : os.length ≤ 1000) (q : Q (.str (PyData.shown (.list (os.map po)))) H) : rShow K [.ref a] H Q :=
  .inr ⟨a, .list (os.map po), rfl, .lst sq (dpAll_os K H os), os_show os h, os_noDict os, by have := os_depth os; simp only [PyData.depth]; omega, os_shown h hl, q⟩
theorem w_showo {K : PySem.W.Frag} {o : Option Int} {H : Hp} {Q : VK} (h : SmO o) (q : Q (.str (PyData.shown (po o))) H) : rShowA K [vo o] H Q := by
  cases o with
  | none => exact .inr (.inl ⟨rfl, q⟩)
  | some n => exact .inl (.inl ⟨n, rfl, h n rfl, q⟩)
/-! ### comprehensions over a range -/
section
variable {te : TE} {i : Nat} {σ : L2.St} {H1 : Hp}
/-- a turn: of the number j the j-th value is made -/
def TurnsR (te : TE) (i : Nat) (σ : L2.St) (H1 : Hp) (n : Nat) (ys : List V) : Prop := ∀ (j : Nat) (y : V) (H' : Hp) (R : VK), j < n → ys[j]? = some y → Grow H1 H' → (∀ H2, Grow H' H2 → R y H2) → te ((wipe σ [i]).set i (some (.int (0 + (j : Int))))) H' R
theorem lcR {Qd : Addr → Hp → Prop} {n : Nat} {ys : List V} (hw : ∀ x, wipe ((wipe σ [i]).set i (some x)) [i] = wipe σ [i]) (hl : ys.length = n) (hs : n < sizeLine) (turn : TurnsR te i σ H1 n ys)
    (done : ∀ D H', H1 D = none → H' D = some (.lst ys) → Grow H1 H' → Qd D H') (D : Addr) (nD : H1 D = none) :
    ∃ W : Nat → Nat → Hp → Prop, (∃ m, W 0 m (upd H1 D (.lst []))) ∧ ∀ j m H, W j m H →
      ((Itr 0 n).stop j H ∧ Qd D H) ∨ ((Itr 0 n).go j H ∧ ∃ Nx : Hp → Prop, (∀ H', Nx H' → ∃ m', m' < m ∧ W (j + 1) m' H') ∧ ∀ x H', (Itr 0 n).yld j H x H' → gName i x (wipe σ [i]) H' fun σ2 H2 => wipe σ2 [i] = wipe σ [i] ∧ tYes σ2 H2 fun b H3 =>
        if b = true then te σ2 H3 fun y H4 => ∃ acc, H4 D = some (.lst acc) ∧ acc.length < sizeLine ∧ Nx (upd H4 D (.lst (acc ++ [y]))) else Nx H3) := by
  refine lc_range (lo := 0) (n := n) (fun j H' => H' D = some (.lst (ys.take j)) ∧ Grow H1 H') ⟨upd_same, Grow.new nD⟩ (fun j H' hj p => ?_) (fun H' p => done D H' nD (by rw [← hl, List.take_length] at p; exact p.1) p.2)
  refine ⟨hw _, ?_⟩
  unfold tYes
  refine w_yes ?_
  have hj' : j < ys.length := by rw [hl]; exact hj
  refine turn j ys[j] H' _ hj (by simp [hj']) p.2 fun H2 g => ⟨ys.take j, g _ _ p.1, by rw [List.length_take]; omega, ?_, fun b o e => ?_⟩
  · rw [upd_same, List.take_succ_eq_append_getElem hj']
  · rw [upd_ne (ne_of_none e nD)]; exact g _ _ (p.2 _ _ e)
end
/-! ### draws, the place of the cells being told -/
def spDropL (K : PySem.W.Frag) : Sp := fun vs H Q _ => ∃ (c l : Addr) (n : Nat) (cells : List Int) (rest many : Int), vs = [.ref c, .int many] ∧ H c = some (.lst [.ref l, .int n, .int rest]) ∧ SqL K H l (cells.map V.int) ∧ l ≠ c ∧ n < 1000000 ∧ 0 < many ∧ many < 1073741824 ∧
  ∀ (r rest' : Int) (n' : Nat) (H' : Hp), 0 ≤ r → r < many → n' ≤ n + 1 → H' c = some (.lst [.ref l, .int n', .int rest']) → Ext c H H' → Q (.int r) H'
theorem dropL {K : PySem.W.Frag} (vs : List V) (H : Hp) (Q : VK) (E : XK) (h : spDrop K vs H Q E) : spDropL K vs H Q E := by
  obtain ⟨c, n, many, rfl, ⟨l, cells, rest, h1, h2, h3⟩, hn, m0, m1, k⟩ := h
  exact ⟨c, l, n, cells, rest, many, rfl, h1, h2, h3, hn, m0, m1, fun r rest' n' H' r0 r1 hn' hc he => k r n' H' r0 r1 hn' ⟨l, cells, rest', hc, he.sqL h3 h2, h3⟩ he⟩
/-- [draw(many) for _ in range(n)] -/
theorem lcDraw {K : PySem.W.Frag} {te : TE} {i : Nat} {σ : L2.St} {H1 : Hp} {Qd : Addr → Hp → Prop} {n n0 : Nat} {c : Addr} {many : Int} {E : XK} (hw : ∀ x, wipe ((wipe σ [i]).set i (some x)) [i] = wipe σ [i]) (hs : n < 100000) (hn0 : n0 < 850000) (m0 : 0 < many) (m1 : many < 1073741824)
    (hte : ∀ (x : V) (H : Hp) (R : VK), spDropL K [.ref c, .int many] H R E → te ((wipe σ [i]).set i (some x)) H R) (hc : Cloud K H1 c n0)
    (done : ∀ D H' (ns : List Int) (m : Nat), H1 D = none → H' D = some (.lst (ns.map V.int)) → ns.length = n → (∀ z ∈ ns, 0 ≤ z ∧ z < many) → Cloud K H' c m → m ≤ n0 + n → Ext c H1 H' → Qd D H') (D : Addr) (nD : H1 D = none) :
    ∃ W : Nat → Nat → Hp → Prop, (∃ m, W 0 m (upd H1 D (.lst []))) ∧ ∀ j m H, W j m H →
      ((Itr 0 n).stop j H ∧ Qd D H) ∨ ((Itr 0 n).go j H ∧ ∃ Nx : Hp → Prop, (∀ H', Nx H' → ∃ m', m' < m ∧ W (j + 1) m' H') ∧ ∀ x H', (Itr 0 n).yld j H x H' → gName i x (wipe σ [i]) H' fun σ2 H2 => wipe σ2 [i] = wipe σ [i] ∧ tYes σ2 H2 fun b H3 =>
        if b = true then te σ2 H3 fun y H4 => ∃ acc, H4 D = some (.lst acc) ∧ acc.length < sizeLine ∧ Nx (upd H4 D (.lst (acc ++ [y]))) else Nx H3) := by
  obtain ⟨l, cells, rest, h1, h2, h3⟩ := hc
  have cD : D ≠ c := Ne.symm (ne_of_none h1 nD)
  refine lc_range (lo := 0) (n := n) (fun j H' => ∃ (ns : List Int) (m : Nat) (r : Int), H' D = some (.lst (ns.map V.int)) ∧ ns.length = j ∧ (∀ z ∈ ns, 0 ≤ z ∧ z < many) ∧ H' c = some (.lst [.ref l, .int m, .int r]) ∧ m ≤ n0 + j ∧ Ext c H1 H')
    ⟨[], n0, rest, upd_same, rfl, (fun z hz => nomatch hz), (by rw [upd_ne (Ne.symm cD)]; exact h1), by omega, Ext.new nD⟩ (fun j H' hj p => ?_) (fun H' p => ?_)
  · obtain ⟨ns, m, r, p1, p2, p3, p4, p5, p6⟩ := p
    refine ⟨hw _, ?_⟩
    unfold tYes
    refine w_yes (hte _ H' _ ⟨c, l, m, cells, r, many, rfl, p4, p6.sqL h3 h2, h3, by omega, m0, m1, fun z r' m' H4 z0 z1 hm' hc' he' => ?_⟩)
    refine ⟨ns.map V.int, he' _ _ cD p1, by rw [List.length_map, sizeLine_eq]; omega, ns ++ [z], m', r', ?_, ?_, ?_, ?_, by omega, ?_⟩
    · rw [upd_same, List.map_append]; rfl
    · rw [List.length_append]; simp [p2]
    · intro y hy
      rcases List.mem_append.mp hy with hy | hy
      · exact p3 y hy
      · rw [List.mem_singleton.mp hy]; exact ⟨z0, z1⟩
    · rw [upd_ne (Ne.symm cD)]; exact hc'
    · intro b o nb e
      rw [upd_ne (ne_of_none e nD)]
      exact he' _ _ nb (p6 _ _ nb e)
  · obtain ⟨ns, m, r, p1, p2, p3, p4, p5, p6⟩ := p
    exact done D H' ns m nD p1 p2 p3 ⟨l, cells, r, p4, p6.sqL h3 h2, h3⟩ p5 p6
end FW

set_option maxRecDepth 100000
set_option maxHeartbeats 4000000
/-! fair weather: own classes -/
namespace FW
open PySem L2 PyProof.Rows
/-- a method of the text, under its class -/
structure MethOk (K : PySem.W.Frag) (C : Addr) (m qual : Str) (st : Stmt) (ps : List Str) : Prop where
  ex : ∃ (f : Addr) (fd : FuncData), Meth K C m f ∧ Fun K m qual st f fd ∧ Binds K fd ps []
structure CanM (P : Program) (w : World) (K : PySem.W.Frag) (mg : Str → Option Value) (base : Heap) (CX : CXT) (k : Nat) (C : Addr) (m : Str) (ps : List Str) (sp : Sp) : Prop where
  ex : ∃ (f : Addr) (fd : FuncData), Meth K C m f ∧ FnOk P w K mg base CX k f fd ps sp ∧ Binds K fd ps []
structure CanMW (P : Program) (w : World) (K : PySem.W.Frag) (mg : Str → Option Value) (base : Heap) (CX : CXT) (k : Nat) (C : Addr) (m : Str) (ks : List Str) (gV : List V → List V → List V) (sp : Sp) : Prop where
  ex : ∃ (f : Addr) (fd : FuncData) (ps : List Str) (g : List Value → List Value → List Value), Meth K C m f ∧ FnOk P w K mg base CX k f fd ps sp ∧ KBn K fd ps 1 ks g gV
section
variable {P : Program} {w : World} {K : PySem.W.Frag} {mg : Str → Option Value} {base : Heap} {CX : CXT} {k : Nat} {C : Addr} {m qual : Str} {st : Stmt} {ps : List Str} {sp : Sp}
theorem MethOk.can (d : MethOk K C m qual st ps) (h : ∀ f fd, Fun K m qual st f fd → FnOk P w K mg base CX k f fd ps sp) : CanM P w K mg base CX k C m ps sp := by
  obtain ⟨f, fd, M, F, b⟩ := d.ex
  exact ⟨f, fd, M, h f fd F, b⟩
/-- by one keyword -/
theorem MethOk.canW {y : Str} (d : MethOk K C m qual st ["self", y]) (h : ∀ f fd, Fun K m qual st f fd → FnOk P w K mg base CX k f fd ["self", y] sp)
    (bind : ∀ (kV doc pm : Value) (an : Option Addr) (cdv ct a b : Value), bindArgs (PySem.W.fnOf m qual (defArgs st) (defBody st) (defScope st) .none kV doc pm an cdv ct) ⟨[a], [(y, b)]⟩ = pure ([(("self" : Str), a), (y, b)] : List (Str × Value))) :
    CanMW P w K mg base CX k C m [y] (fun vs zs => vs ++ zs) sp := by
  obtain ⟨f, fd, M, F, _⟩ := d.ex
  have G := h f fd F
  obtain ⟨oc, od, kV, doc, pm, an, cdv, ct, osl, rfl, lk, hcd⟩ := F.ex
  refine ⟨f, _, ["self", y], fun us ws => us ++ ws, M, G, ⟨fun s us ws _ l1 l2 => ?_, fun r z => r.append z⟩⟩
  match us, ws, l1, l2 with
  | [a], [b], _, _ => exact .of_eq (bind kV doc pm an cdv ct a b)
end
section
variable {X : Cx} {CX : CXT} {k j : Nat} {C : Addr} {m : Str} {ps ks : List Str} {sp : Sp} {gV : List V → List V → List V} {E : XK} {o e : Expr} {es : List Expr} {kws : List Keyword} {apos pos : Pos} {to : TE} {ta tk : TA}
theorem pe_methC {pl : Sem Bool} (cl : Cls X.K C) (c : CanM X.prog X.w X.K X.mg X.base CX k C m ps sp) (hr : Room j X.A) (hk : k ≤ j) (hx : Passes CX X E) (ho : PE X o to) (ha : PA X (e :: es) ta)
    (hst : starEach (e :: es) X.env = (false, eval e X.env) :: starEach es X.env := by rfl) (hpl : (backTo pos (starEach es X.env)).any (·.1) = false := by rfl)
    (ht : eval (.Call (.Attribute o m apos) (e :: es) [] pos) X.env = (do let ov ← eval o X.env; standAt apos.atName; let (f, first) ← holding [ov] (getMethod ov m pl); callWith pos f first (backTo pos (starEach (e :: es) X.env)) (backToKw pos (keywordEach [] X.env))) := by rfl) :
    PE X (.Call (.Attribute o m apos) (e :: es) [] pos) (tMeth C m sp [] E to ta) := by
  obtain ⟨f, fd, M, F, b⟩ := c.ex
  exact pe_meth (pl := pl) ho cl M F (hr.mono hk) b .nil hx ha hst hpl ht
def tMethW (C : Addr) (m : Str) (n : Nat) (sp : Sp) (gV : List V → List V → List V) (E : XK) (to : TE) (tk : TA) : TE := fun σ H Q => to σ H fun x H1 => ∃ a dx fs, x = .ref a ∧ H1 a = some (.ins C dx fs) ∧ fs.lookup m = none ∧ tk σ H1 fun zs H2 => zs.length = n ∧ sp (gV [.ref a] zs) H2 Q E
/-- o.m(k=e) -/
theorem pe_methW {pl : Sem Bool} (cl : Cls X.K C) (c : CanMW X.prog X.w X.K X.mg X.base CX k C m ks gV sp) (hr : Room j X.A) (hk : k ≤ j) (hx : Passes CX X E) (ho : PE X o to) (ha : PK X kws tk)
    (hall : (backToKw pos (keywordEach kws X.env)).all (·.1.isSome) = true := by rfl) (hks : (backToKw pos (keywordEach kws X.env)).filterMap (·.1) = ks := by rfl)
    (hpl : ((backTo pos (starEach [] X.env)).any (·.1) || (backToKw pos (keywordEach kws X.env)).any (·.1.isNone)) = false := by rfl)
    (ht : eval (.Call (.Attribute o m apos) [] kws pos) X.env = (do let ov ← eval o X.env; standAt apos.atName; let (f, first) ← holding [ov] (getMethod ov m pl); callWith pos f first (backTo pos (starEach [] X.env)) (backToKw pos (keywordEach kws X.env))) := by rfl) :
    PE X (.Call (.Attribute o m apos) [] kws pos) (tMethW C m ks.length sp gV E to tk) := by
  obtain ⟨f, fd, ps, g, M, F, b⟩ := c.ex
  refine ⟨fun pins s σ H Q I h => ?_⟩
  refine PySem.W.methodCall_KW (pl := pl) (thn (ho.run pins s σ H _ I h) fun u s1 ⟨x, H1, I1, rx, a, dx, fs, ex, ea, l, q⟩ => ?_) ht
  subst ex
  obtain rfl : u = Value.ref a := rx
  refine getmeth_ok I1 ea cl M l ?_
  refine PySem.W.callWith_KW0 (first := [.ref a]) (h₀ := X.base) I.ok.mod.kin M.kp hall (thn (ha.run pos pins s1 σ H1 _ I1 q) fun ws s2 y => ?_) hpl
  obtain ⟨zs, H2, J, rz, l2, q2⟩ := y
  refine ⟨J.kIn, ?_⟩
  rw [hks]
  exact run_fnN (us := [.ref a]) (vs := [.ref a]) F (hr.mono hk) b hx J (.cons rfl .nil) rz rfl l2 q2
end
section
variable {K : PySem.W.Frag} {σ : L2.St} {H : Hp} {Q : VK} {D : Ends} {a C dx : Addr} {fs : List (Str × V)} {f m : Str} {v : V} {to tv : TE} {ta tk : TA} {sp : Sp} {E : XK} {i : Nat}
/-! ### readings -/
theorem w_fld (e : H a = some (.ins C dx fs)) (c : Cls K C) (n : NoAttr K C f) (l : fs.lookup f = some v) (hv : σ[i]? = some (some (.ref a))) (q : Q v H) : tFld K (tVar i) f σ H Q := ⟨.ref a, hv, a, C, dx, fs, v, rfl, e, c, n, l, q⟩
theorem w_setF (c : Cls K C) (n : NoAttr K C f) (hv : σ[i]? = some (some (.ref a))) (h : tv σ H fun y H1 => ∃ dx fs, H1 a = some (.ins C dx fs) ∧ fs.length < 1000 ∧ D.nx σ (upd H1 a (.ins C dx (putF f y fs)))) (mono : ∀ {R R' : VK}, (∀ x H', R x H' → R' x H') → tv σ H R → tv σ H R') : sFld K (tVar i) tv f D σ H :=
  mono (fun y H1 ⟨dx, fs, e, l, q⟩ => ⟨.ref a, hv, a, C, dx, fs, rfl, e, c, n, l, q⟩) h
end
end FW

set_option maxRecDepth 100000
set_option maxHeartbeats 4000000
/-! fair weather: «except c as n: y = e» ahead of other handlers -/
namespace FW
open PySem L2 PyProof.Rows
/-- what is wished of an exception by «except c as n: y = e», e told by te: it is kept; slot i is n's, slot j is y's -/
def wKeepE (K : PySem.W.Frag) (c : Value) (n i j : Nat) (te : TE) (D : Ends) : WX := fun cls d σ H => PySem.W.exmOne K cls c = some true ∧ ∀ a, H a = none → σ.length = n → te (σ.set i (some (.ref a))) (upd H a (ExT a cls d)) fun v H' => D.nx (((σ.set i (some (.ref a))).set j (some v)).set i none) H'
section
variable {X : Cx} {x n y : Str} {c : Value} {i j : Nat} {body : List Stmt} {np py pn' pa pos pos' : Pos} {tb : WX → TS}
theorem ps_try_keepE {ev : Expr} {te : TE} {hds : List ExceptHandler} (hs : X.stack = X.env :: X.outer) (hf : X.env.frame = some X.env.locals) (hN : X.N.Nodup) (hi : X.N[i]? = some n) (hln : X.env.kindOf n = some .local) (hj : X.N[j]? = some y) (hly : X.env.kindOf y = some .local) (hij : i ≠ j) (hc : Names X x c)
    (hb : ∀ (W : WX) (pn : List (Addr × Obj)) (xe : Value → Shared → Prop), Takes (X.tr pn xe) W → PassesOwn (model X.prog X.w) X.A X.env xe → PSs (X.tr pn xe) body (tb W))
    (hev : ∀ (a : Addr) (pn : List (Addr × Obj)), PE (X.suite a pn) ev te) (hsw : swapsWith ev (some (.Name y py)) pa.line X.env = pure false := by rfl) :
    PS X (.Try body (.ExceptHandler (some (.Name x np)) (some n) [.Assign [.Name y py] ev pa] pos' :: hds) [] [] pos) (fun D σ H => i < σ.length ∧ tb (wKeepE X.K c X.N.length i j te D) D σ H) := by
  refine ⟨fun pins s σ H D I h => ?_⟩
  obtain ⟨hlen, h⟩ := h
  have ok := I.ok
  have hfr : X.A.frames = some (X.env :: X.outer) := by rw [ok.frames, hs]
  refine wpAny_Try_except ?_
  refine wpAny_mono ((hb (wKeepE X.K c X.N.length i j te D) (X.pn ++ pins) _ (fun u s1 xx => ?c1) PassesOwn.looking).run [] s σ H D (I.toTry _) h) (fun f s1 hsp => ?flow) (fun e s1 he => he)
  case flow =>
    cases f with
    | next => obtain ⟨σ1, H1, J, q⟩ := hsp; exact wpAny_execs_nil ⟨σ1, H1, J.ofTry ok, q⟩
    | brk => obtain ⟨σ1, H1, J, q⟩ := hsp; exact ⟨σ1, H1, J.ofTry ok, q⟩
    | cont => obtain ⟨σ1, H1, J, q⟩ := hsp; exact ⟨σ1, H1, J.ofTry ok, q⟩
    | ret u => obtain ⟨v, σ1, H1, J, r, q⟩ := hsp; exact ⟨v, σ1, H1, J.ofTry ok, r, q⟩
  case c1 =>
    obtain ⟨a, B, sI, pins1, σ1, H1, cls, d, rfl, J1, nb, up, sky, na, os, ag, hm, hyes⟩ := xx
    have J : Inv X pins σ1 H1 sI := J1.ofTry ok
    have sky1 : Sky B (X.env :: X.outer) a (Zc cls d) X.env.locals s1.heap := by rw [← hs]; exact sky
    show wpAny (model X.prog X.w) X.A (noteFrame (.ref a) X.env) _ _ _
    refine Sky.land Zc.steady hfr hf sky1 fun h3 fl3 up3 => ?_
    obtain ⟨oe3, vs3, he3, hz3, hd3⟩ := fl3.there
    have notFr : a ∉ frs X.stack := fun hmem => by
      rw [hs] at hmem
      obtain ⟨_, o', e', hnf⟩ := fl3.2.2.1.mem hmem
      rw [he3] at e'; cases e'
      exact hnf _ hd3
    have J3 : Inv X pins σ1 (upd H1 a (ExT a cls d)) { s1 with heap := h3 } := landT J nb fl3.2.1 na notFr fl3.1 (up.trans up3) os ag he3 hz3 hd3
    have S3 : Inv (X.suite a (X.pn ++ pins)) [] σ1 (upd H1 a (ExT a cls d)) { s1 with heap := h3 } := toSuite J3
    refine wpAny_handleBy_cons (codeAny_handlers_test ?_) (by intro q; cases q)
    have lt : PySem.W.Looks (model X.prog X.w) h3 (typeOf (.ref a)) cls := fun A Q E s k q => wpAny_typeOf_ref (k _ _ he3) (by rw [hz3.1]; exact q)
    have lm := PySem.W.exm_one (M := model X.prog X.w) J3.kIn lt hm
    have test : ∀ {Q : Value → Shared → Prop} {E : Value → Shared → Prop}, Q c { s1 with heap := h3 } → wpAny (model X.prog X.w) (X.A.mark (some (.ref a))) (eval (.Name x np) X.env) Q E { s1 with heap := h3 } := fun {Q E} q => by
      obtain ⟨g1, g2, g3 | ⟨g3, g4, g5⟩⟩ := hc
      · exact ld_glob (X := X.suite a (X.pn ++ pins)) S3 g1 g3 q g2
      · exact ld_blt (X := X.suite a (X.pn ++ pins)) S3 g1 g3 g4 q g5 g2
    refine test (lm.here ?_)
    refine codeAny_handlers_suite_as (HandSPX.lands_againZ fl3 fun h4 fl4 up4 => ?_)
    obtain ⟨oe4, vs4, he4, hz4, hd4⟩ := fl4.there
    have J4 : Inv X pins σ1 (upd H1 a (ExT a cls d)) { s1 with heap := h4 } := landT J nb fl4.2.1 na notFr fl4.1 ((up.trans up3).trans up4) os ag he4 hz4 hd4
    refine store_ok (X := X.suite a (X.pn ++ pins)) (v := .ref a) (toSuite J4) hN hi (.inl hln) rfl (fun s5 S5 => ?_) (.inr hln)
    have suite : PSs (X.suite a (X.pn ++ pins)) [.Assign [.Name y py] ev pa] (tAsg te (gName j)) :=
      pss_one (ps_set hN hj (.inl hly) (hev a _) hsw (.inr hly))
    refine wpAny_mono (suite.run [] s5 _ _ { nx := fun σ6 H6 => D.nx (σ6.set i none) H6, rt := fun _ _ => False } S5 ?_) (fun f s6 hsp => ?_) (fun _ _ z => z.elim)
    · exact hyes a na J.len
    · cases f with
      | next =>
        obtain ⟨σ6, H6, S6, q6⟩ := hsp
        exact gone_ok (ofSuite S6 ok) hN hi hln fun s7 J7 => ⟨_, _, J7, q6⟩
      | brk => obtain ⟨σ6, H6, S6, q6⟩ := hsp; exact q6.elim
      | cont => obtain ⟨σ6, H6, S6, q6⟩ := hsp; exact q6.elim
      | ret u => obtain ⟨v6, σ6, H6, S6, r6, q6⟩ := hsp; exact q6.elim
end

end FW

set_option maxRecDepth 100000
set_option maxHeartbeats 4000000
/-! fair weather: how long what repr shows of tuples is; what stays but for one object -/
namespace FW
open PySem L2 PyProof.Rows
theorem piled_le (b : Nat) : ∀ ts : List Str, (∀ t ∈ ts, t.length ≤ b) → piled ts ≤ (b + 2) * ts.length
  | [], _ => by simp [piled]
  | t :: r, h => by
    have ih := piled_le b r fun x hx => h x (List.mem_cons_of_mem _ hx)
    have ht := h t (List.mem_cons_self ..)
    have hp : piled (t :: r) = t.length + 2 + piled r := by unfold piled; rw [List.map_cons, List.sum_cons]
    rw [hp, List.length_cons, Nat.mul_add]
    omega
theorem tuple_le {b : Nat} {ts : List Str} (h : ∀ t ∈ ts, t.length ≤ b) : (tupleText ts).length ≤ (b + 2) * ts.length + 4 := by
  have p := piled_le b ts h
  have z : (Str.join ", " ts).length ≤ piled ts := by
    cases ts with
    | nil => simp [Str.join, piled]; decide
    | cons t r => have := join_length_add (t :: r) (by simp); omega
  unfold tupleText
  rw [Str.length_append, Str.length_append]
  have a1 : (("(" : Str)).length = 1 := by decide
  have a2 : ((if ts.length == 1 then ",)" else ")" : String) : Str).length ≤ 2 := by split <;> decide
  rw [a1]
  omega
/-- tables of code objects stay where another object is changed -/
theorem tabs_extAt {T : List (Addr × Str)} {H H' : Hp} {x : Addr} {o : HO} (t : LamX.Tabs T H) (hx : H x = some o) (n1 : ∀ ps, o ≠ .tbl ps) (n2 : ∀ φ, o ≠ .ext φ) (e : Ext x H H') : LamX.Tabs T H' := by
  intro p hp
  obtain ⟨ps, t1, t2, t3⟩ := t p hp
  refine ⟨ps, e _ _ (fun z => n1 ps (by rw [z, hx] at t1; exact Option.some.inj t1)) t1, t2, fun pos cv hcv => ?_⟩
  obtain ⟨d, e1, e2⟩ := t3 pos cv hcv
  refine ⟨d, e1, e _ _ (fun z => ?_) e2⟩
  rw [z, hx] at e2
  exact n2 _ (Option.some.inj e2)
/-! ### what a law draws from, seen from a heap at its beginning -/
structure Pen (H0 : Hp) (c l : Addr) (n : Nat) (H : Hp) : Prop where
  cl : ∃ rest : Int, H c = some (.lst [.ref l, .int n, .int rest])
  ex : Ext c H0 H
structure Ink (K : PySem.W.Frag) (H0 : Hp) (c l : Addr) (cells : List Int) : Prop where
  sq : SqL K H0 l (cells.map V.int)
  ne : l ≠ c
  at_ : ∃ o, H0 c = some o
  nt : ∀ b ps, H0 b ≠ some (.tbl ps)
theorem Pen.grow {H0 H H' : Hp} {c l : Addr} {n : Nat} (p : Pen H0 c l n H) (g : Grow H H') : Pen H0 c l n H' := by
  obtain ⟨⟨r, h⟩, e⟩ := p
  exact ⟨⟨r, g _ _ h⟩, fun b o nb q => g _ _ (e b o nb q)⟩
theorem Pen.extN {H0 H H' : Hp} {c l : Addr} {n : Nat} (p : Pen H0 c l n H) (g : LamX.ExtN H H') (t : ∀ b ps, H0 b ≠ some (.tbl ps)) : Pen H0 c l n H' := by
  obtain ⟨⟨r, h⟩, e⟩ := p
  exact ⟨⟨r, g _ _ h nofun⟩, fun b o nb q => g _ _ (e b o nb q) (fun ps z => t b ps (by rw [q, z]))⟩
theorem Pen.at_new {H0 H H' : Hp} {c l x : Addr} {n : Nat} (p : Pen H0 c l n H) (hx : H0 x = none) (xc : c ≠ x) (g : Ext x H H') : Pen H0 c l n H' := by
  obtain ⟨⟨r, h⟩, e⟩ := p
  exact ⟨⟨r, g _ _ xc h⟩, fun b o nb q => g _ _ (ne_of_none q hx) (e b o nb q)⟩
theorem Pen.draw {H0 H H' : Hp} {c l : Addr} {n n' : Nat} {rest : Int} (p : Pen H0 c l n H) (h : H' c = some (.lst [.ref l, .int n', .int rest])) (g : Ext c H H') : Pen H0 c l n' H' := ⟨⟨rest, h⟩, p.ex.trans g⟩
theorem Pen.sq {K : PySem.W.Frag} {H0 H : Hp} {c l : Addr} {n : Nat} {cells : List Int} (p : Pen H0 c l n H) (i : Ink K H0 c l cells) : SqL K H l (cells.map V.int) := p.ex.sqL i.ne i.sq
theorem Pen.cloud {K : PySem.W.Frag} {H0 H : Hp} {c l : Addr} {n : Nat} {cells : List Int} (p : Pen H0 c l n H) (i : Ink K H0 c l cells) : Cloud K H c n := by
  obtain ⟨r, h⟩ := p.cl
  exact ⟨l, cells, r, h, p.sq i, i.ne⟩
theorem Pen.ne {H0 H : Hp} {c l x : Addr} {n : Nat} (p : Pen H0 c l n H) (hx : H x = none) : x ≠ c := by
  obtain ⟨r, h⟩ := p.cl
  exact Ne.symm (ne_of_none h hx)
theorem Ink.ne' {K : PySem.W.Frag} {H0 : Hp} {c l x : Addr} {cells : List Int} (i : Ink K H0 c l cells) (hx : H0 x = none) : c ≠ x := by
  obtain ⟨o, h⟩ := i.at_
  exact ne_of_none h hx
/-- a place that is free later was free at first -/
theorem Pen.free {K : PySem.W.Frag} {H0 H : Hp} {c l x : Addr} {n : Nat} {cells : List Int} (p : Pen H0 c l n H) (i : Ink K H0 c l cells) (hx : H x = none) : H0 x = none := by
  match z : H0 x with
  | none => rfl
  | some o => rw [p.ex x o (p.ne hx) z] at hx; cases hx
theorem pen_of {K : PySem.W.Frag} {H : Hp} {c : Addr} {n : Nat} (h : Cloud K H c n) : ∃ H0 l cells, Ink K H0 c l cells ∧ Pen H0 c l n H := by
  obtain ⟨l, cells, rest, h1, h2, h3⟩ := h
  have self : ∀ H0 : Hp, H0 c = H c → (∀ b, b ≠ c → H0 b = none ∨ H0 b = H b) → Pen H0 c l n H := fun H0 e1 e2 => ⟨⟨rest, h1⟩, fun b o nb q => by
    rcases e2 b nb with z | z
    · rw [z] at q; cases q
    · rw [← z]; exact q⟩
  rcases h2 with h2 | h2
  · refine ⟨fun b => if b = c then H c else if b = l then H l else none, l, cells, ⟨.inl ?_, h3, ⟨_, by rw [if_pos rfl]; exact h1⟩, fun b ps e => ?_⟩, self _ (if_pos rfl) fun b nb => ?_⟩
    · have e : (if l = c then H c else if l = l then H l else none) = H l := by rw [if_neg h3, if_pos rfl]
      rcases h2 with z | ⟨o, z⟩
      · exact .inl (e.trans z)
      · exact .inr ⟨o, e.trans z⟩
    · by_cases hb : b = c
      · simp only [hb, if_true, h1] at e; cases e
      · by_cases hl : b = l
        · simp only [if_neg hb, hl, if_neg h3, if_true] at e
          rcases h2 with z | ⟨o, z⟩ <;> (rw [z] at e; cases e)
        · simp only [if_neg hb, if_neg hl] at e; cases e
    · simp only [if_neg nb]
      by_cases hl : b = l
      · rw [if_pos hl, hl]; exact .inr rfl
      · rw [if_neg hl]; exact .inl rfl
  · refine ⟨fun b => if b = c then H c else none, l, cells, ⟨.inr h2, h3, ⟨_, by rw [if_pos rfl]; exact h1⟩, fun b ps e => ?_⟩, self _ (if_pos rfl) fun b nb => ?_⟩
    · by_cases hb : b = c
      · simp only [hb, if_true, h1] at e; cases e
      · simp only [if_neg hb] at e; cases e
    · simp only [if_neg nb]; exact .inl trivial
/-- a draw, so seen -/
def spDraw (K : PySem.W.Frag) (H0 : Hp) (c l : Addr) (cells : List Int) : Sp := fun vs H Q _ => ∃ (n : Nat) (many : Int), vs = [.ref c, .int many] ∧ Ink K H0 c l cells ∧ Pen H0 c l n H ∧ n < 1000000 ∧ 0 < many ∧ many < 1073741824 ∧
  ∀ (r : Int) (n' : Nat) (H' : Hp), 0 ≤ r → r < many → n' ≤ n + 1 → Pen H0 c l n' H' → Ext c H H' → Q (.int r) H'
theorem drawL {K : PySem.W.Frag} {H0 : Hp} {c l : Addr} {cells : List Int} (vs : List V) (H : Hp) (Q : VK) (E : XK) (h : spDraw K H0 c l cells vs H Q E) : spDropL K vs H Q E := by
  obtain ⟨n, many, rfl, i, p, hn, m0, m1, k⟩ := h
  obtain ⟨rest, hc⟩ := p.cl
  exact ⟨c, l, n, cells, rest, many, rfl, hc, p.sq i, i.ne, hn, m0, m1, fun r rest' n' H' r0 r1 hn' hc' he => k r n' H' r0 r1 hn' (p.draw hc' he) he⟩
/-- one of some, so seen -/
def spOneL (K : PySem.W.Frag) (H0 : Hp) (c l : Addr) (cells : List Int) : Sp := fun vs H Q _ => ∃ (n : Nat) (p : Addr) (xs : List V), vs = [.ref c, .ref p] ∧ Ink K H0 c l cells ∧ Pen H0 c l n H ∧ n < 999990 ∧ SqL K H p xs ∧ p ≠ c ∧ 0 < xs.length ∧ xs.length < 1000000 ∧
  ∀ (x : V) (n' : Nat) (H' : Hp), x ∈ xs → n' ≤ n + 1 → Pen H0 c l n' H' → Ext c H H' → Q x H'
end FW

set_option maxRecDepth 100000
set_option maxHeartbeats 4000000
/-! fair weather: what stands behind the top, by names -/
namespace FW
open PySem L2 PyProof.Rows
/-- a def of the top, no defaults -/
def dTop (x : Str) (st : Stmt) : He.DefD := ⟨(x, none), x, x, defArgs st, defBody st, defScope st, [], []⟩
/-- a method of a class of the top -/
def dIn (c m : Str) (st : Stmt) : He.DefD := ⟨(c, some m), m, c ++ "." ++ m, defArgs st, defBody st, defScope st, [], []⟩
theorem fun_of {K : PySem.W.Frag} {x qual : Str} {st : Stmt} {f : Addr} {fd : FuncData} (F : FunD K x qual (defArgs st) (defBody st) (defScope st) [] [] f fd) : Fun K x qual st f fd := by
  obtain ⟨oc, od, dV, kV, doc, pm, an, cdv, ct, osl, rfl, lk, hcd, hD, hK⟩ := F.ex
  have e : dV = .none := by
    rcases hD with ⟨_, e⟩ | ⟨e, _⟩
    · exact e
    · exact absurd rfl e
  subst e
  exact ⟨⟨oc, od, kV, doc, pm, an, cdv, ct, osl, rfl, lk, hcd⟩, F.kp⟩
/-! ### an own exception of one field -/
def oexB (K : PySem.W.Frag) (C : Addr) : Bool := match K.lookup C with
  | some ⟨.type t, _, .cls cd, sl⟩ => t == "type" && (cd.hasDict && (!cd.hasDel && (match cd.mro, sl.toList with
    | .ref c :: bm, [_, _, _, _, some (.builtin n), _] => c == C && (n == "ValueError.__new__" && PySem.HandSPX.refsVE bm)
    | _, _ => false)))
  | _ => false
theorem oexB_ok {K : PySem.W.Frag} {C : Addr} (h : oexB K C = true) : ∃ nm q N bs bm sn sub ab col dd k0 k1 k2 k3 k5, K.lookup C = some (excClassObj nm q C N bs bm true sn sub ab col dd k0 k1 k2 k3 k5 "ValueError.__new__") ∧ PySem.HandSPX.refsVE bm = true := by
  unfold oexB at h
  split at h
  · rename_i t dd cd sl ho
    simp only [Bool.and_eq_true, beq_iff_eq, Bool.not_eq_true'] at h
    obtain ⟨rfl, h1, h2, h3⟩ := h
    split at h3
    · rename_i c bm k0 k1 k2 k3 n k5 hm hs
      simp only [Bool.and_eq_true, beq_iff_eq] at h3
      obtain ⟨rfl, rfl, h4⟩ := h3
      obtain ⟨nm, bs, mro, ns, qn, hd, sn, sub, ab, col, del⟩ := cd
      dsimp only at hm h1 h2
      subst hm h1 h2
      have hsl : sl = #[k0, k1, k2, k3, some (.builtin "ValueError.__new__"), k5] := by
        obtain ⟨l⟩ := sl
        simp only at hs
        rw [hs]
      subst hsl
      exact ⟨nm, qn, ns, bs, bm, sn, sub, ab, col, dd, k0, k1, k2, k3, k5, ho, h4⟩
    · cases h3
  · cases h
def exnB (K : PySem.W.Frag) (x f : Str) : Bool :=
  oexB K (He.ga K x) && (decide (PySem.W.findIn K (.ref (He.ga K x)) "__setattr__" = some (some (.builtin "object.__setattr__"))) && (decide (PySem.W.typeIn K (.ref (He.ga K x)) = some (.type "type")) && (PySem.W.keepIn K (.ref (He.ga K x)) &&
  (decide (PySem.W.findIn K (.ref (He.ga K x)) f = some none) && (xfB K (He.ga K x) && (decide (PySem.W.findIn K (.ref (He.ga K x)) "__class__" = some (some (.builtin "object.__class__"))) &&
  (decide (PySem.W.specialIn K (.builtin "object.__class__") "__get__" = some (some (.builtin "getset_descriptor.__get__"))) && (decide (PySem.W.takesIn K (.builtin "object.__class__") = some true) && (decide (PySem.W.mroIn K (He.ga K x) (.type "object") = some true) &&
  (decide (PySem.W.findIn K (.ref (He.ga K x)) "__init__" = some (some (.ref (He.ma K (He.ga K x) "__init__")))) && decide (PySem.W.typeIn K (.ref (He.ma K (He.ga K x) "__init__")) = some (.type "function"))))))))))))
theorem exnB_ok {P : Program} {w : World} {K : PySem.W.Frag} {mg : Str → Option Value} {base : Heap} {x f : Str} (h : exnB K x f = true) (g : mg x = some (.ref (He.ga K x)))
    (init : ∃ (fd : FuncData) (ps : List Str), FnOk P w K mg base CX0 1 (He.ma K (He.ga K x) "__init__") fd ps (spInit1 K (He.ga K x) f) ∧ Binds K fd ps []) : Exn P w K mg base x f (He.ga K x) := by
  unfold exnB at h
  simp only [Bool.and_eq_true, decide_eq_true_eq] at h
  obtain ⟨h1, h2, h3, h4, h5, h6, h7, h8, h9, h10, h11, h12⟩ := h
  have xf := xfB_ok h6
  obtain ⟨fd, ps, F, b⟩ := init
  exact ⟨⟨oexB_ok h1, h2, xf.exC, h3, h4⟩, g, h5, xf, ⟨xf.ga, xf.gg, xf.exC, xf.hdC, h7, h8, h9, h10⟩, ⟨_, fd, ps, h11, h12, F, b⟩⟩
/-! ### the facts, one by one -/
section
variable {K : PySem.W.Frag} {h : Heap} {mg : Str → Option Value} {fa : List He.Fa} {fn : List He.DefD}
theorem glo_at (X : K.In h) (G : h.Ns mainGlobals mg) (c : He.SaysD fa fn K) (i : Nat) {x : Str} (e : fa[i]? = some (.glo x)) : mg x = some (.ref (He.ga K x)) := He.glo_ok X G (c.fact i e)
theorem free_at (X : K.In h) (G : h.Ns mainGlobals mg) (c : He.SaysD fa fn K) (i : Nat) {x : Str} (e : fa[i]? = some (.free x)) : mg x = none := He.free_ok X G (c.fact i e)
theorem int_at (X : K.In h) (G : h.Ns mainGlobals mg) (c : He.SaysD fa fn K) (i : Nat) {x : Str} {n : Int} (e : fa[i]? = some (.int x n)) : ∃ u, mg x = some u ∧ RelV (.int n) u := by
  obtain ⟨t, q⟩ := He.int_ok X G (c.fact i e)
  exact ⟨_, q, t, rfl⟩
theorem fun_at (c : He.SaysD fa fn K) (i : Nat) {x : Str} {st : Stmt} (e : fn[i]? = some (dTop x st)) : ∃ fd, Fun K x x st (He.ga K x) fd := by
  obtain ⟨fd, F⟩ := c.def_ i e
  exact ⟨fd, fun_of F⟩
theorem defOk_of (c : He.SaysD fa fn K) (i : Nat) {x : Str} {st : Stmt} {ps : List Str} (e : fn[i]? = some (dTop x st)) (g : mg x = some (.ref (He.ga K x)))
    (b : ∀ (kV doc pm : Value) (an : Option Addr) (cdv ct : Value) (us : List Value), us.length = ps.length → bindArgs (PySem.W.fnOf x x (defArgs st) (defBody st) (defScope st) .none kV doc pm an cdv ct) ⟨us, []⟩ = pure (ps.zip us)) : DefOk K mg x st ps := by
  obtain ⟨fd, F⟩ := fun_at c i e
  exact ⟨_, fd, F, g, F.binds b⟩
theorem defOkC_of (c : He.SaysD fa fn K) (i : Nat) {x : Str} {st : Stmt} {ps : List Str} (e : fn[i]? = some (dTop x st)) (g : mg x = some (.ref (He.ga K x)))
    (b : ∀ (kV doc pm : Value) (an : Option Addr) (cdv ct : Value) (us : List Value), us.length = ps.length → bindArgs (PySem.W.fnOf x x (defArgs st) (defBody st) (defScope st) .none kV doc pm an cdv ct) ⟨us, []⟩ = pure (ps.zip us)) : DefOkC K mg x st ps (He.codeOf K (x, none)) := by
  obtain ⟨fd, F⟩ := fun_at c i e
  have F2 := F
  obtain ⟨oc, od, kV, doc, pm, an, cdv, ct, osl, rfl, lk, hcd⟩ := F2.ex
  obtain ⟨cc, rfl⟩ := He.codeIn_ref hcd
  exact ⟨_, _, F, g, F.binds b, by rw [He.codeOf_eq (p := (x, none)) lk rfl]⟩
theorem kdct_of {w : World} {a : Addr} {es : Array DictEntry} {n : Nat} {kvs : List (Str × He.Dv)} (d : KDict K w a es n) (v : He.valsB K a kvs = true) {q : Str × He.Dv} (hq : q ∈ kvs) : KDct K w a q.1 (q.2.v K) := by
  obtain ⟨u, e1, e2⟩ := He.valsB_ok v hq
  exact ⟨es, n, u, d.at_, d.lit, e1, e2⟩
theorem init1_ok {P : Program} {w : World} {base : Heap} {qual f : Str} {st : Stmt} {a C : Addr} {fd : FuncData} {p : Str} (F : Fun K "__init__" qual st a fd) (S : FnScope [("self" : Str), p] [("self" : Str), p] (defScope st))
    (body : ∀ X : Cx, X.N = [("self" : Str), p] → X.env.scope = defScope st → PSs X (defBody st) (tOst X.K f (tVar 0) (tVar 1))) : FnOk P w K mg base CX0 1 a fd [("self" : Str), p] (spInit1 K C f) := by
  refine F.ok S (fun vs H Q E h => ?_) (fun cdv A outer s H vs Q E hr h => ⟨_, body _ rfl rfl, ?_⟩)
  · obtain ⟨a, v, rfl, _⟩ := h; rfl
  · obtain ⟨a, v, rfl, T, no, ha, k⟩ := h
    exact ⟨v, rfl, .ref a, rfl, a, C, rfl, T, no, .inl ⟨ha, fun dx n1 n2 => k dx n1 n2⟩⟩
end
end FW

set_option maxRecDepth 100000
set_option maxHeartbeats 4000000
/-! fair weather: what stands behind the top, with a property of an own class -/
namespace FW
open PySem L2 PyProof.Rows
/-- the function at a place, as written -/
def wrote (K : PySem.W.Frag) (a : Addr) : He.FnW := match (K.lookup a).map Obj.data with
  | some (.func z) => some (z.name, z.qualname, z.params, z.body, z.scope, z.globals, z.closure, z.builtins)
  | _ => none
def propP (K : PySem.W.Frag) (C : Addr) (f : Str) : Addr := match PySem.W.findIn K (.ref C) f with
  | some (some (.ref p)) => p
  | _ => 0
def propG (K : PySem.W.Frag) (C : Addr) (f : Str) : Addr := match PySem.W.recIn K (propP K C f) "property" with
  | some (.ref g :: _) => g
  | _ => 0
def gotB (K : PySem.W.Frag) (g : Addr) (q : Str) : Bool := match K.lookup g with
  | some o => (match o.data with
    | .func z => PySem.W.codeIn K z.code q && (decide (z.defaults = .none) && PySem.W.keepIn K (.ref g))
    | _ => false)
  | none => false
def propB (K : PySem.W.Frag) (C : Addr) (f q : Str) : Bool :=
  decide (PySem.W.findIn K (.ref C) f = some (some (.ref (propP K C f)))) && (decide (PySem.W.specialIn K (.ref (propP K C f)) "__get__" = some (some (.builtin "property.__get__"))) && (decide (PySem.W.takesIn K (.ref (propP K C f)) = some true) &&
  ((match PySem.W.recIn K (propP K C f) "property" with | some (x :: _) => decide (x = .ref (propG K C f)) | _ => false) && gotB K (propG K C f) q)))
theorem propB_ok {K : PySem.W.Frag} {C : Addr} {f q : Str} (h : propB K C f q = true) : PropOf K C f (propP K C f) (propG K C f) ∧ gotB K (propG K C f) q = true := by
  unfold propB at h
  simp only [Bool.and_eq_true, decide_eq_true_eq] at h
  obtain ⟨h1, h2, h3, h4, h5⟩ := h
  refine ⟨⟨h1, h2, h3, ?_⟩, h5⟩
  split at h4
  · rename_i x xs e
    rw [of_decide_eq_true h4] at e
    exact ⟨xs, e⟩
  · cases h4
theorem got_fun {K : PySem.W.Frag} {g : Addr} {x q : Str} {st : Stmt} (h : gotB K g q = true) (e : wrote K g = some (x, q, defArgs st, .stmts (defBody st), defScope st, mainGlobals, [], builtinsNs)) : ∃ fd, Fun K x q st g fd := by
  unfold gotB at h
  unfold wrote at e
  split at h
  · rename_i o lk
    obtain ⟨oc, od, dt, sl⟩ := o
    rw [lk] at e
    dsimp only [Option.map] at h e
    split at h
    · rename_i z
      obtain ⟨z1, z2, z3, z4, z5, z6, z7, z8, z9, z10, z11, z12, z13, z14, z15⟩ := z
      simp only [Option.some.injEq, Prod.mk.injEq, Bool.and_eq_true, decide_eq_true_eq] at h e
      obtain ⟨y1, y2, y3, y4, y5, y6, y7, y8⟩ := e
      obtain ⟨w1, w2, w3⟩ := h
      subst y1 y2 y3 y4 y5 y6 y7 y8 w2
      exact ⟨_, ⟨⟨oc, od, z9, z10, z11, z12, z13, z14, sl, rfl, lk, w1⟩, w3⟩⟩
    · cases h
  · cases h
/-- the hook of a text with one property of an own class -/
def hookP (n : Nat) (fa : List He.Fa) (fn : List He.DefD) (ts : List He.Tab) (tf : List He.Defn) (ex : PySem.W.Frag → Bool) (C f x q : Str) (st : Stmt) : PySem.W.Hook where
  α := He.AlX × He.FnW
  obs := fun s => (He.obsX n fa fn ts tf ex s.heap.get?, wrote (He.frT s.heap.get? (He.asD s.heap.get? n)) (propG (He.frT s.heap.get? (He.asD s.heap.get? n)) (He.ga (He.frT s.heap.get? (He.asD s.heap.get? n)) C) f))
  val := fun w => (He.valX fn ts w, some (x, q, defArgs st, .stmts (defBody st), defScope st, mainGlobals, [], builtinsNs))
  says := fun w h => ∃ K : PySem.W.Frag, K.In h ∧ He.SaysX fa fn ts tf ex w h K ∧ wrote K (propG K (He.ga K C) f) = some (x, q, defArgs st, .stmts (defBody st), defScope st, mainGlobals, [], builtinsNs)
  of := fun _ _ e => ⟨_, He.frT_in, He.saysX_of (congrArg (fun z => z.1) e), congrArg (fun z => z.2) e⟩
  keeps := fun _ _ _ ⟨K, i, c, d⟩ k => ⟨K, PySem.W.Frag.In.keeps i k, ⟨c.t, c.more, c.hd, c.out, fun p m => k _ _ (c.empty p m)⟩, d⟩
end FW

set_option maxRecDepth 100000
set_option maxHeartbeats 4000000
/-! fair weather: what stands behind the top, with properties of own classes -/
namespace FW
open PySem L2 PyProof.Rows
/-- a property: class, name, the getter's text -/
structure Pr where
  C : Str
  f : Str
  q : Str
  st : Stmt
def Pr.fw (p : Pr) : He.FnW := some (p.f, p.q, defArgs p.st, .stmts (defBody p.st), defScope p.st, mainGlobals, [], builtinsNs)
def prW (K : PySem.W.Frag) (ps : List Pr) : List He.FnW := ps.map fun p => wrote K (propG K (He.ga K p.C) p.f)
/-- the hook of a text with some properties of own classes -/
def hookQ (n : Nat) (fa : List He.Fa) (fn : List He.DefD) (ts : List He.Tab) (tf : List He.Defn) (ex : PySem.W.Frag → Bool) (ps : List Pr) : PySem.W.Hook where
  α := He.AlX × List He.FnW
  obs := fun s => (He.obsX n fa fn ts tf ex s.heap.get?, prW (He.frT s.heap.get? (He.asD s.heap.get? n)) ps)
  val := fun w => (He.valX fn ts w, ps.map Pr.fw)
  says := fun w h => ∃ K : PySem.W.Frag, K.In h ∧ He.SaysX fa fn ts tf ex w h K ∧ prW K ps = ps.map Pr.fw
  of := fun _ _ e => ⟨_, He.frT_in, He.saysX_of (congrArg (fun z => z.1) e), congrArg (fun z => z.2) e⟩
  keeps := fun _ _ _ ⟨K, i, c, d⟩ k => ⟨K, PySem.W.Frag.In.keeps i k, ⟨c.t, c.more, c.hd, c.out, fun p m => k _ _ (c.empty p m)⟩, d⟩
theorem prW_at {K : PySem.W.Frag} : ∀ {ps : List Pr} (i : Nat) {p : Pr}, prW K ps = ps.map Pr.fw → ps[i]? = some p → wrote K (propG K (He.ga K p.C) p.f) = p.fw
  | [], _, _, _, h => by simp at h
  | q :: ps, 0, p, e, h => by
    simp at h; subst h
    unfold prW at e
    rw [List.map_cons, List.map_cons] at e
    exact (List.cons.inj e).1
  | q :: ps, i + 1, p, e, h => by
    unfold prW at e
    rw [List.map_cons, List.map_cons] at e
    exact prW_at i (List.cons.inj e).2 (by simpa using h)
end FW

set_option maxRecDepth 100000
set_option maxHeartbeats 4000000
/-! fair weather: what stands behind the top, by one run of the machine off the tree: all objects up to the last one -/
namespace FW
open PySem L2 PyProof.Rows HandSHeadRun
def obsR (fa : List He.Fa) (fn : List He.DefD) (ts : List He.Tab) (ex : PySem.W.Frag → Bool) (ps : List Pr) (K : PySem.W.Frag) : (He.AlT × Bool) × List He.FnW := ((He.obsT fa fn ts K, ex K), prW K ps)
/-- the hook of a text with some properties of own classes, no code tables -/
def hookR (fa : List He.Fa) (fn : List He.DefD) (ts : List He.Tab) (ex : PySem.W.Frag → Bool) (ps : List Pr) : PySem.W.Hook where
  α := (He.AlT × Bool) × List He.FnW
  obs := fun s => obsR fa fn ts ex ps (He.frT s.heap.get? (List.range s.heap.objs.size))
  val := fun w => ((He.valT fn ts w, true), ps.map Pr.fw)
  says := fun w h => ∃ K : PySem.W.Frag, K.In h ∧ He.SaysX fa fn ts [] ex w h K ∧ prW K ps = ps.map Pr.fw
  of := fun w s e => by
    have e1 : He.obsT fa fn ts (He.frT s.heap.get? (List.range s.heap.objs.size)) = He.valT fn ts w := congrArg (fun z : (He.AlT × Bool) × List He.FnW => z.1.1) e
    have e2 : ex (He.frT s.heap.get? (List.range s.heap.objs.size)) = true := congrArg (fun z : (He.AlT × Bool) × List He.FnW => z.1.2) e
    exact ⟨_, He.frT_in, ⟨e1, e2, fun _ m => (nomatch m), fun _ m => (nomatch m), fun _ m => (nomatch m)⟩, congrArg (fun z : (He.AlT × Bool) × List He.FnW => z.2) e⟩
  keeps := fun _ _ _ ⟨K, i, c, d⟩ k => ⟨K, PySem.W.Frag.In.keeps i k, ⟨c.t, c.more, c.hd, c.out, fun p m => k _ _ (c.empty p m)⟩, d⟩
/-- what the hook looks at, off the tree -/
def obT (fa : List He.Fa) (fn : List He.DefD) (ts : List He.Tab) (ex : PySem.W.Frag → Bool) (ps : List Pr) (s : PySem.W.SharedT) : (He.AlT × Bool) × List He.FnW := obsR fa fn ts ex ps (He.frT (getT s) (List.range s.n))
theorem obT_eq (fa : List He.Fa) (fn : List He.DefD) (ts : List He.Tab) (ex : PySem.W.Frag → Bool) (ps : List Pr) (s : PySem.W.SharedT) : obT fa fn ts ex ps s = (hookR fa fn ts ex ps).obs s.abs := by
  have e : getT s = s.abs.heap.get? := funext fun a => getT_eq s a
  have e2 : s.abs.heap.objs.size = s.n := PySem.W.absHeap_size s.tree s.n s.life
  unfold obT hookR
  dsimp only
  rw [e, e2]
end FW

set_option maxRecDepth 100000
set_option maxHeartbeats 4000000
/-! fair weather: lambdas handed to a def, where no repr is under way -/
namespace FW
open PySem PySem.Spec PyProof.Rows L2 LamX
section
variable {X : Cx} {pins : List (Addr × Obj)} {σ : L2.St} {H : Hp} {s : Shared}
/-- it is called, in the def that got it -/
theorem actPG {CXg : CXT} {Eg : XK} {Ng : List Str} {qg : Str} {sg : Scope} {g f t c' : Addr} {cdg pm ctv doc u : Value} {params : Arguments} {body : Expr} {scope : Scope} {k i : Nat} {a p : Str} {pn : List (Addr × Obj)} {xe : Value → Shared → Prop} {W : WX} {E : XK} {tb : TE} {q1 q2 : Pos}
    (I : Inv X pins σ H s) (L : LamP X.N X.env.scope scope p) (hf : s.heap.get? f = some ⟨.type "function", none, .func (lamPF (X.env.qual ++ "<lambda>") params body scope (cloFrom X.env.cells scope.names []) t doc pm (.ref c') ctv), #[]⟩)
    (ht : s.heap.get? t = some (PySem.W.kdv_tup [u])) (nf : H f = none) (rf : f ∉ frs X.stack) (nt : H t = none) (rt : t ∉ frs X.stack)
    (bind : ∀ z : Shared, z.heap.get? t = some (PySem.W.kdv_tup [u]) → BindsTo z (lamPF (X.env.qual ++ "<lambda>") params body scope (cloFrom X.env.cells scope.names []) t doc pm (.ref c') ctv) ⟨[], []⟩ [(p, u)])
    (tk : Takes ((cxOf CXg X.prog X.w X.K X.mg X.base Ng qg sg g cdg X.A X.stack s H Eg).tr pn xe) W) (hW : ∀ cls d σ' H', E cls d H' → W cls d σ' H') (hr : Room (k + 1) (X.A.deeper (envOfC qg sg s.heap.objs.size g cdg))) (gd : X.A.guards = some [])
    (inner : ∀ (A : Around) (outer : List Env) (s : Shared) (H : Hp), (A.deeper (lamEnv X scope s.heap.objs.size f c')).guards = some [] → Room k (A.deeper (lamEnv X scope s.heap.objs.size f c')) → PE (lamCx X A outer s H E scope f c') body tb)
    (hN : Ng[i]? = some a) (hv : Vis sg a) (hd : (a == ("__debug__" : Str)) = false := by decide) (hcd : (a == ("__classdict__" : Str)) = false := by decide) :
    PE ((cxOf CXg X.prog X.w X.K X.mg X.base Ng qg sg g cdg X.A X.stack s H Eg).tr pn xe) (.Call (.Name a q1) [] [] q2)
      (fun σZ HZ Q => σZ[i]? = some (some (.ref f)) ∧ HZ c' = some (CodeO c' (X.env.qual ++ "<lambda>")) ∧ tb σ HZ Q) := by
  refine ⟨fun pinsZ sZ σZ HZ Q IZ ⟨hs, hc, hq⟩ => ?_⟩
  refine wpAny_Call_Name_kw (thn ((pe_var (pos := q1) (i := i) hN hv hd hcd).run pinsZ sZ σZ HZ (fun v K1 => v = .ref f ∧ K1 = HZ) IZ ⟨.ref f, hs, rfl, rfl⟩) fun uf sa ⟨v, Ha, Ia, ra, ev, eH⟩ => ?_)
  subst ev eH
  obtain rfl : uf = Value.ref f := ra
  have nob : ∀ b : Addr, b ∉ ([] : List Addr) := fun b z => nomatch z
  have fa := Ia.base.keep f _ hf nf rf (nob f)
  have ta := Ia.base.keep t _ ht nt rt (nob t)
  refine PySem.W.callWith_F0 ⟨_, _, _, _, fa⟩ ?_
  have un : Un (frs X.stack) [] H Ha s.heap sa.heap := Ia.base
  obtain ⟨⟨oc, vs, tq, hoc, hdc, hvc⟩, _, _⟩ := Ia.hok c' _ hc
  have runs : codeAny (model X.prog X.w) (X.A.deeper (envOfC qg sg s.heap.objs.size g cdg)) (.call (.ref f) ⟨[], []⟩) (CR (L2.CX X.prog X.w) (envOfC qg sg s.heap.objs.size g cdg :: X.stack) X.prog X.w Ha sa Q E) sa := by
    refine PySem.W.kla_callFunE hr.depth fa rfl L.co L.gen rfl ⟨c', oc, vs, tq, rfl, hoc, hdc, hvc⟩ (bind sa ta _ _ _ _ ?_)
    refine wpAny_newFunctionEnv L.nocell ?b1 (fun hz ns sb => ⟨Ia.nolimit.fresh _ sb, ?b2⟩) L.kind
    case b1 =>
      intro y hy
      rw [List.mem_singleton.mp hy]
      exact L.par
    case b2 =>
      show codeAny _ _ (.expr body (lamEnv X scope sa.heap.objs.size f c')) _ _
      have kp : ∀ b o, sa.heap.get? b = some o → hz.get? b = some o := fun b o e => sb.extBut b o (Nat.ne_of_lt (Heap.lt_size e)) (Heap.get?_push_of_some _ e)
      have J : Inv (lamCx X (X.A.deeper (envOfC qg sg s.heap.objs.size g cdg)) (envOfC qg sg s.heap.objs.size g cdg :: X.stack) sa Ha E scope f c') [] σ Ha { sa with heap := hz, toks := sa.toks + ([(p, u)] : List (Str × Value)).length } :=
        startP I L Ia.env0 hr.hd un ns kp
      refine PySem.W.kla_codeExpr (wpAny_mono ((inner _ _ sa Ha (guards_in (guards_in gd)) (hr.deeper _)).run [] _ _ Ha Q J hq) ?b3 fun _ _ z => z)
      case b3 => exact fun v s' ⟨w', H', J', rv, q⟩ => ⟨w', H', J'.os, J'.bare, J'.base, J'.hok, rv, q⟩
  have out : Passes (L2.CX X.prog X.w) ((cxOf CXg X.prog X.w X.K X.mg X.base Ng qg sg g cdg X.A X.stack s H Eg).tr pn xe) E := passes_call tk hW
  refine wpAny_call (codeAny_mono runs fun r s' z => ?_)
  match r, z with
  | .error e, z => exact out pinsZ σZ Ha sa e s' Ia z
  | .ok (.ret _), z => exact Ia.after z
  | .ok .next, z => exact z.elim
  | .ok .brk, z => exact z.elim
  | .ok .cont, z => exact z.elim
/-- x(lambda p=d: body) -/
theorem pe_lamcallPG {T : List (Addr × Str)} {TT : (XK → Hp → VK → Prop) → Hp → VK → Prop} {x a p : Str} {g c P : Addr} {k : Nat} {pg : Arguments} {bg : List Stmt} {sg : Scope} {dV kV doc pm cdv ct oc : Value} {an od : Option Addr} {osl : Array (Option Value)} {Ng : List Str}
    {params : Arguments} {body d0 : Expr} {v0 : V} {scope : Scope} {t : XK → TE} {q1 q2 q3 : Pos} (hg : Gl X x) (hm : X.mg x = some (.ref g)) (hk : PySem.W.keepIn X.K (.ref g) = true)
    (lk : X.K.lookup g = some ⟨oc, od, .func (PySem.W.fnOf x x pg bg sg dV kV doc pm an cdv ct), osl⟩) (hcg : PySem.W.codeIn X.K cdv x = true) (hb : L2.Binds X.K (PySem.W.fnOf x x pg bg sg dV kV doc pm an cdv ct) [a] []) (Sg : FnScope Ng [a] sg) (hNg : Ng[0]? = some a) (hva : Vis sg a)
    (hG : GivesTo X Ng x sg g cdv bg a (X.env.qual ++ "<lambda>") TT) (TB : TabB X.base X.mg c P) (hcode : X.env.code = .ref c) (hmT : (P, X.env.qual ++ "<lambda>") ∈ T) (hu : ∀ b ∈ T, b.1 = P → b.2 = X.env.qual ++ "<lambda>") (hr : Room (k + 2) X.A) (gd : X.A.guards = some [])
    (L : LamP X.N X.env.scope scope p) (hd : params.defaults = [d0]) (hkd : params.kw_defaults = []) (he : PE X d0 (tC v0))
    (bind : ∀ (q : Str) (cl : List (Str × Addr)) (t : Addr) (u doc pm cv ctv : Value) (z : Shared), z.heap.get? t = some (PySem.W.kdv_tup [u]) → BindsTo z (lamPF q params body scope cl t doc pm cv ctv) ⟨[], []⟩ [(p, u)])
    (inner : ∀ (A : Around) (outer : List Env) (s : Shared) (H : Hp) (E : XK) (f c' : Addr), (A.deeper (lamEnv X scope s.heap.objs.size f c')).guards = some [] → Room k (A.deeper (lamEnv X scope s.heap.objs.size f c')) → PE (lamCx X A outer s H E scope f c') body (t E))
    (n1 : (x == ("__debug__" : Str)) = false := by decide) (n2 : (a == ("__debug__" : Str)) = false := by decide) (n3 : (a == ("__classdict__" : Str)) = false := by decide) :
    PE X (.Call (.Name x q1) [.Lambda params body scope q2] [] q3) (tLam T TT t) := by
  refine ⟨fun pins s σ H Q I ⟨hT, h⟩ => ?_⟩
  refine wpAny_Call_Name_kw (ld_glob I hg hm (PySem.W.callWith_K (h₀ := X.base) I.ok.mod.kin hk ?_ (by rfl) (by rfl)) n1)
  show wpAny _ _ (spliced ((false, eval (.Lambda params body scope q2) X.env) :: backTo q3 (starEach [] X.env))) _ _ s
  refine Calls.spliced_cons (makeP I TB hcode hmT hu hT hd hkd he (L.cells I.ok) fun f t1 c' u pm' ctv doc' H1 s' J eN T1 hf ht nf rf nt rt hco => ?_)
  refine Calls.spliced_nil ⟨J.kIn, ?_⟩
  have runs : codeAny (model X.prog X.w) X.A (.call (.ref g) ⟨[.ref f], []⟩) (CR C8.CX0 X.stack X.prog X.w H1 s' Q C8.E0) s' := by
    refine run_ofS (N := Ng) (ps := [a]) (us := [.ref f]) (vs := [.ref f]) lk hcg Sg hr J.env0 (hb s' [.ref f] J.kIn rfl) (.cons rfl .nil) rfl fun hr' => ?_
    obtain ⟨td, hp, hq⟩ := hG f c' s' H1 Q (fun E H' Q' => t E σ H' Q') (fun W pn xe E p1 p2 tk hW => actPG (i := 0) J L hf ht nf rf nt rt (fun z => bind _ _ _ _ _ _ _ _ z) tk hW hr' gd (fun A outer s H hg2 hr2 => inner A outer s H E f c' hg2 hr2) hNg hva n2 n3) hco (h H1 eN T1)
    exact ⟨td, hp.nox, hq⟩
  refine wpAny_call (codeAny_mono runs fun r s2 z => ?_)
  match r, z with
  | .error e, z => exact (show False from z).elim
  | .ok (.ret _), z => exact J.after z
  | .ok .next, z => exact z.elim
  | .ok .brk, z => exact z.elim
  | .ok .cont, z => exact z.elim

/-- one without parameters is called, in the def that got it -/
theorem actSG {CXg : CXT} {Eg : XK} {Ng : List Str} {qg : Str} {sg : Scope} {g f c' : Addr} {cdg pm ctv : Value} {params : Arguments} {body : Expr} {scope : Scope} {k i : Nat} {a : Str} {pn : List (Addr × Obj)} {xe : Value → Shared → Prop} {W : WX} {E : XK} {tb : TE} {q1 q2 : Pos}
    (I : Inv X pins σ H s) (L : LamS X.env.scope scope) (hf : s.heap.get? f = some (PySem.W.kla_obj "<lambda>" (X.env.qual ++ "<lambda>") params body scope (cloFrom X.env.cells scope.names []) pm c' ctv)) (nf : H f = none) (rf : f ∉ frs X.stack)
    (bind : bindArgs (PySem.W.kla_fn "<lambda>" (X.env.qual ++ "<lambda>") params body scope (cloFrom X.env.cells scope.names []) pm (.ref c') ctv) ⟨[], []⟩ = pure [])
    (tk : Takes ((cxOf CXg X.prog X.w X.K X.mg X.base Ng qg sg g cdg X.A X.stack s H Eg).tr pn xe) W) (hW : ∀ cls d σ' H', E cls d H' → W cls d σ' H') (hr : Room (k + 1) (X.A.deeper (envOfC qg sg s.heap.objs.size g cdg))) (gd : X.A.guards = some [])
    (inner : ∀ (A : Around) (outer : List Env) (s : Shared) (H : Hp), (A.deeper (lamEnv X scope s.heap.objs.size f c')).guards = some [] → Room k (A.deeper (lamEnv X scope s.heap.objs.size f c')) → PE (lamCx X A outer s H E scope f c') body tb)
    (hN : Ng[i]? = some a) (hv : Vis sg a) (hd : (a == ("__debug__" : Str)) = false := by decide) (hcd : (a == ("__classdict__" : Str)) = false := by decide) :
    PE ((cxOf CXg X.prog X.w X.K X.mg X.base Ng qg sg g cdg X.A X.stack s H Eg).tr pn xe) (.Call (.Name a q1) [] [] q2)
      (fun σZ HZ Q => σZ[i]? = some (some (.ref f)) ∧ HZ c' = some (CodeO c' (X.env.qual ++ "<lambda>")) ∧ tb σ HZ Q) := by
  refine ⟨fun pinsZ sZ σZ HZ Q IZ ⟨hs, hc, hq⟩ => ?_⟩
  refine wpAny_Call_Name_kw (thn ((pe_var (pos := q1) (i := i) hN hv hd hcd).run pinsZ sZ σZ HZ (fun v K1 => v = .ref f ∧ K1 = HZ) IZ ⟨.ref f, hs, rfl, rfl⟩) fun uf sa ⟨v, Ha, Ia, ra, ev, eH⟩ => ?_)
  subst ev eH
  obtain rfl : uf = Value.ref f := ra
  have fa := Ia.base.keep f _ hf nf rf (fun z => nomatch (show f ∈ ([] : List Addr) from z))
  refine PySem.W.callWith_F0 ⟨_, _, _, _, fa⟩ ?_
  have un : Un (frs X.stack) [] H Ha s.heap sa.heap := Ia.base
  obtain ⟨⟨oc, vs, tq, hoc, hdc, hvc⟩, _, _⟩ := Ia.hok c' _ hc
  have runs : codeAny (model X.prog X.w) (X.A.deeper (envOfC qg sg s.heap.objs.size g cdg)) (.call (.ref f) ⟨[], []⟩) (CR (L2.CX X.prog X.w) (envOfC qg sg s.heap.objs.size g cdg :: X.stack) X.prog X.w Ha sa Q E) sa := by
    refine PySem.W.kla_callFunE hr.depth fa rfl L.co L.gen rfl ⟨c', oc, vs, tq, rfl, hoc, hdc, hvc⟩ ?_
    rw [bind]
    refine wpAny_pure ?_
    refine wpAny_newFunctionEnv (fun y m => (L.own y m).2) (fun y m => absurd m (List.not_mem_nil)) (fun hz ns sb => ⟨Ia.nolimit.fresh _ sb, ?b2⟩) L.kind
    case b2 =>
      show codeAny _ _ (.expr body (lamEnv X scope sa.heap.objs.size f c')) _ _
      have kp : ∀ b o, sa.heap.get? b = some o → hz.get? b = some o := fun b o e => sb.extBut b o (Nat.ne_of_lt (Heap.lt_size e)) (Heap.get?_push_of_some _ e)
      have J : Inv (lamCx X (X.A.deeper (envOfC qg sg s.heap.objs.size g cdg)) (envOfC qg sg s.heap.objs.size g cdg :: X.stack) sa Ha E scope f c') [] σ Ha { sa with heap := hz, toks := sa.toks + ([] : List (Str × Value)).length } :=
        lam_start2 I L Ia.env0 hr.hd un ns kp
      refine PySem.W.kla_codeExpr (wpAny_mono ((inner _ _ sa Ha (guards_in (guards_in gd)) (hr.deeper _)).run [] _ _ Ha Q J hq) ?b3 fun _ _ z => z)
      case b3 => exact fun v s' ⟨w', H', J', rv, q⟩ => ⟨w', H', J'.os, J'.bare, J'.base, J'.hok, rv, q⟩
  have out : Passes (L2.CX X.prog X.w) ((cxOf CXg X.prog X.w X.K X.mg X.base Ng qg sg g cdg X.A X.stack s H Eg).tr pn xe) E := passes_call tk hW
  refine wpAny_call (codeAny_mono runs fun r s' z => ?_)
  match r, z with
  | .error e, z => exact out pinsZ σZ Ha sa e s' Ia z
  | .ok (.ret _), z => exact Ia.after z
  | .ok .next, z => exact z.elim
  | .ok .brk, z => exact z.elim
  | .ok .cont, z => exact z.elim
/-- x(lambda: body) -/
theorem pe_lamcallSG {T : List (Addr × Str)} {TT : (XK → Hp → VK → Prop) → Hp → VK → Prop} {x a : Str} {g c P : Addr} {k : Nat} {pg : Arguments} {bg : List Stmt} {sg : Scope} {dV kV doc pm cdv ct oc : Value} {an od : Option Addr} {osl : Array (Option Value)} {Ng : List Str}
    {params : Arguments} {body : Expr} {scope : Scope} {t : XK → TE} {q1 q2 q3 : Pos} (hg : Gl X x) (hm : X.mg x = some (.ref g)) (hk : PySem.W.keepIn X.K (.ref g) = true)
    (lk : X.K.lookup g = some ⟨oc, od, .func (PySem.W.fnOf x x pg bg sg dV kV doc pm an cdv ct), osl⟩) (hcg : PySem.W.codeIn X.K cdv x = true) (hb : L2.Binds X.K (PySem.W.fnOf x x pg bg sg dV kV doc pm an cdv ct) [a] []) (Sg : FnScope Ng [a] sg) (hNg : Ng[0]? = some a) (hva : Vis sg a)
    (hG : GivesTo X Ng x sg g cdv bg a (X.env.qual ++ "<lambda>") TT) (TB : TabB X.base X.mg c P) (hcode : X.env.code = .ref c) (hmT : (P, X.env.qual ++ "<lambda>") ∈ T) (hu : ∀ b ∈ T, b.1 = P → b.2 = X.env.qual ++ "<lambda>") (hr : Room (k + 2) X.A) (gd : X.A.guards = some [])
    (L : LamS X.env.scope scope) (hd : defaultsOf params X.env = ([], []))
    (bind : ∀ (q : Str) (cl : List (Str × Addr)) (pm cv ctv : Value), bindArgs (PySem.W.kla_fn "<lambda>" q params body scope cl pm cv ctv) ⟨[], []⟩ = pure [])
    (inner : ∀ (A : Around) (outer : List Env) (s : Shared) (H : Hp) (E : XK) (f c' : Addr), (A.deeper (lamEnv X scope s.heap.objs.size f c')).guards = some [] → Room k (A.deeper (lamEnv X scope s.heap.objs.size f c')) → PE (lamCx X A outer s H E scope f c') body (t E))
    (n1 : (x == ("__debug__" : Str)) = false := by decide) (n2 : (a == ("__debug__" : Str)) = false := by decide) (n3 : (a == ("__classdict__" : Str)) = false := by decide) :
    PE X (.Call (.Name x q1) [.Lambda params body scope q2] [] q3) (tLam T TT t) := by
  refine ⟨fun pins s σ H Q I ⟨hT, h⟩ => ?_⟩
  refine wpAny_Call_Name_kw (ld_glob I hg hm (PySem.W.callWith_K (h₀ := X.base) I.ok.mod.kin hk ?_ (by rfl) (by rfl)) n1)
  show wpAny _ _ (spliced ((false, eval (.Lambda params body scope q2) X.env) :: backTo q3 (starEach [] X.env))) _ _ s
  refine Calls.spliced_cons (lam_make2 I TB hcode hmT hu hT hd (L.has I.ok) fun f c' pm' ctv H1 s' J eN T1 hf nf rf hco => ?_)
  refine Calls.spliced_nil ⟨J.kIn, ?_⟩
  have runs : codeAny (model X.prog X.w) X.A (.call (.ref g) ⟨[.ref f], []⟩) (CR C8.CX0 X.stack X.prog X.w H1 s' Q C8.E0) s' := by
    refine run_ofS (N := Ng) (ps := [a]) (us := [.ref f]) (vs := [.ref f]) lk hcg Sg hr J.env0 (hb s' [.ref f] J.kIn rfl) (.cons rfl .nil) rfl fun hr' => ?_
    obtain ⟨td, hp, hq⟩ := hG f c' s' H1 Q (fun E H' Q' => t E σ H' Q') (fun W pn xe E p1 p2 tk hW => actSG (i := 0) J L hf nf rf (bind _ _ _ _ _) tk hW hr' gd (fun A outer s H hg2 hr2 => inner A outer s H E f c' hg2 hr2) hNg hva n2 n3) hco (h H1 eN T1)
    exact ⟨td, hp.nox, hq⟩
  refine wpAny_call (codeAny_mono runs fun r s2 z => ?_)
  match r, z with
  | .error e, z => exact (show False from z).elim
  | .ok (.ret _), z => exact J.after z
  | .ok .next, z => exact z.elim
  | .ok .brk, z => exact z.elim
  | .ok .cont, z => exact z.elim
end
end FW

set_option maxRecDepth 100000
set_option maxHeartbeats 4000000
/-! fair weather: as FWRun, with tables of code objects (for defs that make lambdas) -/
namespace FW
open PySem L2 PyProof.Rows HandSHeadRun
abbrev ObR : Type := (He.AlT × Bool) × List He.FnW
def obsRT (fa : List He.Fa) (fn : List He.DefD) (ts : List He.Tab) (tf : List He.Defn) (ex : PySem.W.Frag → Bool) (ps : List Pr) (g : Addr → Option Obj) (K : PySem.W.Frag) : ObR := ((He.obsT fa fn ts K, ex K && He.tabsB g tf K), prW K ps)
theorem tabs_out {g : Addr → Option Obj} {as : List Addr} {tf : List He.Defn} (h : He.tabsB g tf (He.frT g as) = true) {p : He.Defn} (hp : p ∈ tf) :
    PySem.W.codeHdIn (He.frT g as) (He.cT (He.frT g as) p).1 (He.cT (He.frT g as) p).2 = true ∧ (He.frT g as).lookup (He.cT (He.frT g as) p).2 = none ∧ g (He.cT (He.frT g as) p).2 = some { cls := .none, data := .fields #[] } := by
  have q := List.all_eq_true.mp h p hp
  rw [Bool.and_eq_true] at q
  refine ⟨q.1, ?_⟩
  match e : g (He.cT (He.frT g as) p).2, q.2 with
  | none, z => exact (nomatch (show false = true from z))
  | some o, z =>
    have z : He.emptyTab o = true := z
    exact ⟨He.frT_none e z, by rw [He.emptyTab_eq z]⟩
/-- the hook of a text with properties of own classes and code tables -/
def hookRT (fa : List He.Fa) (fn : List He.DefD) (ts : List He.Tab) (tf : List He.Defn) (ex : PySem.W.Frag → Bool) (ps : List Pr) : PySem.W.Hook where
  α := ObR
  obs := fun s => obsRT fa fn ts tf ex ps s.heap.get? (He.frT s.heap.get? (List.range s.heap.objs.size))
  val := fun w => ((He.valT fn ts w, true), ps.map Pr.fw)
  says := fun w h => ∃ K : PySem.W.Frag, K.In h ∧ He.SaysX fa fn ts tf ex w h K ∧ prW K ps = ps.map Pr.fw
  of := fun w s e => by
    have e1 : He.obsT fa fn ts (He.frT s.heap.get? (List.range s.heap.objs.size)) = He.valT fn ts w := congrArg (fun z : ObR => z.1.1) e
    have e2 : (ex (He.frT s.heap.get? (List.range s.heap.objs.size)) && He.tabsB s.heap.get? tf (He.frT s.heap.get? (List.range s.heap.objs.size))) = true := congrArg (fun z : ObR => z.1.2) e
    rw [Bool.and_eq_true] at e2
    exact ⟨_, He.frT_in, ⟨e1, e2.1, fun _ m => (tabs_out e2.2 m).1, fun _ m => (tabs_out e2.2 m).2.1, fun _ m => (tabs_out e2.2 m).2.2⟩, congrArg (fun z : ObR => z.2) e⟩
  keeps := fun _ _ _ ⟨K, i, c, d⟩ k => ⟨K, PySem.W.Frag.In.keeps i k, ⟨c.t, c.more, c.hd, c.out, fun p m => k _ _ (c.empty p m)⟩, d⟩
/-- what the hook looks at, off the tree -/
def obRT (fa : List He.Fa) (fn : List He.DefD) (ts : List He.Tab) (tf : List He.Defn) (ex : PySem.W.Frag → Bool) (ps : List Pr) (s : PySem.W.SharedT) : ObR := obsRT fa fn ts tf ex ps (getT s) (He.frT (getT s) (List.range s.n))
theorem obRT_eq (fa : List He.Fa) (fn : List He.DefD) (ts : List He.Tab) (tf : List He.Defn) (ex : PySem.W.Frag → Bool) (ps : List Pr) (s : PySem.W.SharedT) : obRT fa fn ts tf ex ps s = (hookRT fa fn ts tf ex ps).obs s.abs := by
  have e : getT s = s.abs.heap.get? := funext fun a => getT_eq s a
  have e2 : s.abs.heap.objs.size = s.n := PySem.W.absHeap_size s.tree s.n s.life
  unfold obRT hookRT
  dsimp only
  rw [e, e2]
end FW

set_option maxRecDepth 100000
set_option maxHeartbeats 4000000
/-! zip of two sequences, each a list or a tuple -/
namespace FW
open PySem L2 PyProof.Rows
/-- a sequence at an address: a tuple (true), a list (false) -/
def SqB (t : Bool) (K : PySem.W.Frag) (H : Hp) (a : Addr) (xs : List V) : Prop := if t = true then SqT K H a xs else SqL K H a xs
def HasB (t : Bool) (h : Heap) (a : Addr) (its : Array Value) : Prop := if t = true then h.IsTuple a its else h.IsList a its
def PosB (t : Bool) (h : Heap) (it a : Addr) (i : Nat) : Prop := if t = true then h.IsTupleIter it a i else h.IsListIter it a i
def objB (t : Bool) (a : Addr) : Obj := if t = true then { cls := .type "tuple_iterator", data := .fields #[.ref a, .int 0 0] } else { cls := .type "list_iterator", data := .fields #[.ref a, .int 0 0] }
section
variable {X : Cx} {pins : List (Addr × Obj)} {σ : L2.St} {H : Hp} {s : Shared} {t : Bool} {a : Addr} {xs ys : List V}
theorem Inv.seqB (I : Inv X pins σ H s) (h : SqB t X.K H a xs) : ∃ its : List Value, Vals xs its ∧ HasB t s.heap a its.toArray ∧ a < s.heap.objs.size := by
  cases t with
  | true =>
    obtain ⟨its, r, p, _⟩ := I.tuple (show SqT X.K H a xs from h)
    obtain ⟨o, ho, _⟩ := id p
    exact ⟨its, r, p, Heap.lt_size ho⟩
  | false =>
    obtain ⟨its, r, p, _⟩ := I.list (show SqL X.K H a xs from h)
    exact ⟨its, r, p.isList, p.lt⟩
theorem Inv.seqB_inj (I : Inv X pins σ H s) (h : SqB t X.K H a xs) (g : SqB t X.K H a ys) : xs = ys := by
  cases t with
  | true => exact I.tuple_inj h g
  | false => exact I.list_inj h g
end
theorem PosB.data {t : Bool} {h : Heap} {it a : Addr} {i : Nat} (p : PosB t h it a i) : ∃ o, h.get? it = some o ∧ ∀ v, o.data ≠ .cell v := by
  cases t with
  | true => obtain ⟨o, e, _, d⟩ := (show h.IsTupleIter it a i from p); exact ⟨o, e, fun v q => by rw [d] at q; cases q⟩
  | false => obtain ⟨o, e, _, d⟩ := (show h.IsListIter it a i from p); exact ⟨o, e, fun v q => by rw [d] at q; cases q⟩
theorem PosB.keep {t : Bool} {h h' : Heap} {it a : Addr} {i : Nat} (p : PosB t h it a i) (k : ∀ o, h.get? it = some o → h'.get? it = some o) : PosB t h' it a i := by
  cases t with
  | true => exact (show h.IsTupleIter it a i from p).at k
  | false => exact (show h.IsListIter it a i from p).at k
theorem PosB.start {t : Bool} {h : Heap} {it a : Addr} (e : h.get? it = some (objB t a)) : PosB t h it a 0 := by
  cases t with
  | true => exact ⟨_, e, rfl, rfl⟩
  | false => exact ⟨_, e, rfl, rfl⟩
theorem drawsB {prog : Program} {w : World} {A : Around} (hh : A.handled = none) (t : Bool) (it a : Addr) (hne : a ≠ it) (its : Array Value) :
    Draws prog w A it [it, a] its.size (fun i v => its[i]? = some v) (fun i h => PosB t h it a i ∧ HasB t h a its) := by
  cases t with
  | true => exact Draws.tuple hh it a hne its
  | false => exact Draws.list hh it a hne its
theorem beginsB (t : Bool) (a : Addr) (its : Array Value) : Begins (.ref a) (objB t a) fun h => HasB t h a its := by
  cases t with
  | true => exact begins_tuple a its
  | false => exact begins_list a its
/-- the sequences at a and b as they stand at each turn, the items in new pairs -/
def ItzB (n m : Nat) (t u : Bool) (K : PySem.W.Frag) (a b : Addr) : It :=
  ⟨fun i H => ∃ (xs ys : List V) (x y : V), SqB t K H a xs ∧ SqB u K H b ys ∧ xs[i]? = some x ∧ ys[i]? = some y ∧ xs.length = n ∧ ys.length = m,
    fun i H v H' => ∃ T x y, v = .ref T ∧ H T = none ∧ H' = upd H T (.tup [x, y]) ∧ (∀ xs, SqB t K H a xs → xs[i]? = some x) ∧ ∀ ys, SqB u K H b ys → ys[i]? = some y,
    fun i H => ∃ xs ys : List V, SqB t K H a xs ∧ SqB u K H b ys ∧ xs.length = n ∧ ys.length = m ∧ (n ≤ i ∨ m ≤ i)⟩
theorem turn_zipB {P : Program} {w : World} {K : PySem.W.Frag} {elts : List Expr} {kk : Nat} {tpos : Pos} {n m : Nat} {t u : Bool} {a b z TI TO i1 i2 : Addr} (S : ZipSep2 z TI TO i1 i2 [i1, a] [i2, b]) (na : a ≠ i1) (nb : b ≠ i2) :
    Turn P w K (.Tuple elts kk tpos) (ItzB n m t u K a b) [z, TI, TO, i1, i2] z (fun i h => IsZip h z TI TO .none ∧ IsTupOf2 h TI (.ref i1) (.ref i2) ∧ (∃ x y, IsTupOf2 h TO x y) ∧ (PosB t h i1 a i ∧ PosB u h i2 b i) ∧ i ≤ n ∧ i ≤ m) where
  mem := by simp
  obj := fun i h st c hc => by
    obtain ⟨hz, hTI, ⟨x, y, hTO⟩, ⟨h1, h2⟩, _⟩ := st
    simp only [List.mem_cons, List.not_mem_nil, or_false] at hc
    rcases hc with rfl | rfl | rfl | rfl | rfl
    · exact ⟨_, hz, fun v q => nomatch q⟩
    · exact ⟨_, hTI, fun v q => nomatch q⟩
    · exact ⟨_, hTO, fun v q => nomatch q⟩
    · exact h1.data
    · exact h2.data
  keep := fun i h h' ⟨hz, hTI, ⟨x, y, hTO⟩, ⟨h1, h2⟩, hi⟩ k => ⟨k z (by simp) _ hz, k TI (by simp) _ hTI, ⟨x, y, k TO (by simp) _ hTO⟩, ⟨h1.keep fun o q => k i1 (by simp) o q, h2.keep fun o q => k i2 (by simp) o q⟩, hi⟩
  item := by
    intro X hP hw hK hc i pins s σ H E I hf ⟨hz, hTI, ⟨x0, y0, hTO⟩, ⟨h1, h2⟩, b1, b2⟩ ⟨xs, ys, x, y, hqx, hqy, hx, hy, ln, lm⟩
    subst hP hw hK
    obtain ⟨its, rv, p, _⟩ := Inv.seqB I hqx
    obtain ⟨its2, rv2, p2, _⟩ := Inv.seqB I hqy
    obtain ⟨u1, hu, ru⟩ := rv.get hx
    obtain ⟨u2, hu2, ru2⟩ := rv2.get hy
    have hh : X.A.in1.handled = none := I.ok.hd hc
    have lt1 : i < its.toArray.size := by rw [List.size_toArray]; exact (List.getElem?_eq_some_iff.mp hu).1
    have lt2 : i < its2.toArray.size := by rw [List.size_toArray]; exact (List.getElem?_eq_some_iff.mp hu2).1
    have hzl : z < s.heap.objs.size := Heap.lt_size hz
    refine wpAny_pyNext_zipD2_item S (drawsB hh t i1 a na its.toArray) (drawsB hh u i2 b nb its2.toArray) hz hTI hTO ⟨h1, p⟩ ⟨h2, p2⟩ lt1 lt2 fun w1 w2 h' tk e1 e2 z' TO' s1' s2' hT hsz hk => ?_
    have e1 : u1 = w1 := by have q : its.toArray[i]? = some w1 := e1; rw [List.getElem?_toArray, hu] at q; exact Option.some.inj q
    have e2 : u2 = w2 := by have q : its2.toArray[i]? = some w2 := e2; rw [List.getElem?_toArray, hu2] at q; exact Option.some.inj q
    subst e1 e2
    refine ⟨_, rfl, wpAny_letOwnedTupleGo_zip (s := { s with heap := h', toks := tk }) z' fun h'' z'' sb => ?_⟩
    have hT2 : h''.get? s.heap.objs.size = some { cls := .type "tuple", data := .seq #[u1, u2] } := (sb.2 _ (Nat.ne_of_gt hzl)).trans hT
    have new : ObjOk X.prog X.w (upd H s.heap.objs.size (.tup [x, y])) h'' s.heap.objs.size (.tup [x, y]) :=
      ⟨by show 2 ≤ sizeLine; decide, [u1, u2], .cons ru (.cons ru2 .nil), ⟨_, hT2, rfl, _, rfl⟩⟩
    have I1 : Inv X pins σ (upd H s.heap.objs.size (.tup [x, y])) { s with heap := h'', toks := tk } :=
      I.turnedNew (t' := tk) (ch := [z, TI, TO, i1, i2]) (fun c o hb q => by
        simp only [List.mem_cons, List.not_mem_nil, or_false, not_or] at hb
        exact (sb.2 c hb.1).trans (hk c o hb.1 hb.2.2.1 hb.2.2.2.1 hb.2.2.2.2 q)) hf (Nat.le_refl _) new
    have out : ∀ c, c ∈ [z, TI, TO, i1, i2] → c < s.heap.objs.size := fun c hcm => by
      simp only [List.mem_cons, List.not_mem_nil, or_false] at hcm
      rcases hcm with rfl | rfl | rfl | rfl | rfl
      · exact hzl
      · exact Heap.lt_size hTI
      · exact Heap.lt_size hTO
      · obtain ⟨_, e, _⟩ := h1.data; exact Heap.lt_size e
      · obtain ⟨_, e, _⟩ := h2.data; exact Heap.lt_size e
    refine ⟨.ref s.heap.objs.size, _, I1, rfl, ⟨_, x, y, rfl, I.hok.fresh (Nat.le_refl _), rfl, fun l hl => by rw [Inv.seqB_inj I hl hqx]; exact hx, fun l hl => by rw [Inv.seqB_inj I hl hqy]; exact hy⟩, ⟨z'', ?_, ⟨u1, u2, ?_⟩, ⟨?_, ?_⟩, by have := (List.getElem?_eq_some_iff.mp hx).1; omega, by have := (List.getElem?_eq_some_iff.mp hy).1; omega⟩, fun c hcm => ?_⟩
    · exact (sb.2 _ S.TIz).trans (hk _ _ S.TIz S.TITO S.TIi1 S.TIi2 hTI)
    · exact (sb.2 _ S.TOz).trans TO'
    · exact s1'.1.keep fun o q => (sb.2 _ S.zi1.symm).trans q
    · exact s2'.1.keep fun o q => (sb.2 _ S.zi2.symm).trans q
    · rw [upd_ne (Nat.ne_of_lt (out c hcm))]
      exact (hf c hcm).1
  done := by
    intro X hP hw hK hc i pins s σ H E I hf ⟨hz, hTI, ⟨x0, y0, hTO⟩, ⟨h1, h2⟩, b1, b2⟩ ⟨xs, ys, hqx, hqy, ln, lm, hend⟩
    subst hP hw hK
    obtain ⟨its, rv, p, _⟩ := Inv.seqB I hqx
    obtain ⟨its2, rv2, p2, _⟩ := Inv.seqB I hqy
    have hh : X.A.in1.handled = none := I.ok.hd hc
    have e1 : its.toArray.size = xs.length := by rw [List.size_toArray, rv.length]
    have e2 : its2.toArray.size = ys.length := by rw [List.size_toArray, rv2.length]
    refine wpAny_pyNext_zipD2_end S (drawsB hh t i1 a na its.toArray) (drawsB hh u i2 b nb its2.toArray) hz hTI hTO ⟨h1, p⟩ ⟨h2, p2⟩ (by rw [e1, ln]; exact b1) (by rw [e2, lm]; exact b2) (by rw [e1, e2, ln, lm]; omega) fun h' tk hk =>
      ⟨rfl, I.turnedL (t' := tk) (ch := [z, TI, TO, i1, i2]) (fun c o hb q => by
        simp only [List.mem_cons, List.not_mem_nil, or_false, not_or] at hb
        exact hk c o hb.1 hb.2.2.1 hb.2.2.2.1 hb.2.2.2.2 q) hf⟩
  self := fun A i s Q E st h => wpAny_pyIter_zip st.1 h
def iZipB (K : PySem.W.Frag) (ta : TA) : TI := fun σ H R => ta σ H fun vs H1 => ∃ a b xs ys t u, vs = [.ref a, .ref b] ∧ SqB t K H1 a xs ∧ SqB u K H1 b ys ∧ R (ItzB xs.length ys.length t u K a b) H1
theorem pi_zipB {X : Cx} {e e2 : Expr} {ta : TA} {p pos tpos : Pos} {elts : List Expr} {kk : Nat} (hg : Gl X "zip") (hm : X.mg "zip" = none) (ha : PA X [e, e2] ta)
    (hs : starEach [e, e2] X.env = (false, eval e X.env) :: starEach [e2] X.env := by rfl) (hpl : (backTo pos (starEach [e2] X.env)).any (·.1) = false := by rfl) :
    PI X (.Tuple elts kk tpos) (.Call (.Name "zip" p) [e, e2] [] pos) (iZipB X.K ta) := by
  refine ⟨fun pins s σ H R I h => ?_⟩
  refine Call_ (ld_blt I hg hm PyProof.Rows.boot_zip (PyProof.Rows.callWith_type1 (thn (ha.run pos pins s σ H _ I h) fun us s1 ⟨vs, H1, I1, r1, ⟨a, b, xs, ys, t, u, ex, hqx, hqy, q⟩⟩ => ?_) hs hpl))
  subst ex
  cases r1 with
  | cons r rr =>
    cases rr with
    | cons r' rr =>
      cases rr; cases r; cases r'
      obtain ⟨its, rv, p1, la⟩ := Inv.seqB I1 hqx
      obtain ⟨its2, rv2, p2, lb⟩ := Inv.seqB I1 hqy
      refine zip_begins2 (beginsB t a its.toArray) (beginsB u b its2.toArray) p1 p2 fun h' hz hTI hTO h1 h2 hsz hk => wpAny_pyIter_zip hz ?_
      have I2 : Inv X pins σ H1 { s1 with heap := h' } := I1.kept (t' := s1.toks) hk
      refine ⟨s1.heap.objs.size + 4, [s1.heap.objs.size + 4, s1.heap.objs.size + 2, s1.heap.objs.size + 3, s1.heap.objs.size, s1.heap.objs.size + 1], _, _, H1, rfl, I2,
        turn_zipB (zip_sep2 (fun c hc => by simp only [List.mem_singleton] at hc; subst hc; exact la) (fun c hc => by simp only [List.mem_singleton] at hc; subst hc; exact lb)) (Nat.ne_of_lt la) (Nat.ne_of_lt (Nat.lt_succ_of_lt lb)),
        ⟨hz, hTI, ⟨_, _, hTO⟩, ⟨PosB.start h1, PosB.start h2⟩, Nat.zero_le _, Nat.zero_le _⟩, fun c hc => ?_, q⟩
      have hle : s1.heap.objs.size ≤ c := by
        simp only [List.mem_cons, List.not_mem_nil, or_false] at hc
        rcases hc with rfl | rfl | rfl | rfl | rfl
        · exact Nat.le_add_right _ _
        · exact Nat.le_add_right _ _
        · exact Nat.le_add_right _ _
        · exact Nat.le_refl _
        · exact Nat.le_add_right _ _
      exact I1.fpOk hle (I1.hok.fresh hle)
end FW

set_option maxRecDepth 100000
set_option maxHeartbeats 4000000
/-! zip of a text and a list or a tuple -/
namespace FW
open PySem L2 PyProof.Rows
def PosS (h : Heap) (it : Addr) (x : Str) (tk : Tok) (i : Nat) : Prop := h.IsStrIter it (strIterType x) x tk i
theorem PosS.data {h : Heap} {it : Addr} {x : Str} {tk : Tok} {i : Nat} (p : PosS h it x tk i) : ∃ o, h.get? it = some o ∧ ∀ v, o.data ≠ .cell v := by
  obtain ⟨o, e, _, d⟩ := (show h.IsStrIter it (strIterType x) x tk i from p); exact ⟨o, e, fun v q => by rw [d] at q; cases q⟩
theorem PosS.keep {h h' : Heap} {it : Addr} {x : Str} {tk : Tok} {i : Nat} (p : PosS h it x tk i) (k : ∀ o, h.get? it = some o → h'.get? it = some o) : PosS h' it x tk i := let ⟨o, ho, r⟩ := p; ⟨o, k o ho, r⟩
/-- the sequences at a and b as they stand at each turn, the items in new pairs -/
def ItzS (z : Str) (m : Nat) (u : Bool) (K : PySem.W.Frag) (b : Addr) : It :=
  ⟨fun i H => ∃ (ys : List V) (c : Nat) (y : V), SqB u K H b ys ∧ z.cps[i]? = some c ∧ ys[i]? = some y ∧ ys.length = m,
    fun i H v H' => ∃ T c y, v = .ref T ∧ H T = none ∧ H' = upd H T (.tup [.str ⟨#[c]⟩, y]) ∧ z.cps[i]? = some c ∧ ∀ ys, SqB u K H b ys → ys[i]? = some y,
    fun i H => ∃ ys : List V, SqB u K H b ys ∧ ys.length = m ∧ (z.cps.size ≤ i ∨ m ≤ i)⟩
theorem turn_zipS {P : Program} {w : World} {K : PySem.W.Frag} {elts : List Expr} {kk : Nat} {tpos : Pos} {m : Nat} {u : Bool} {str : Str} {tk0 : Tok} {b z TI TO i1 i2 : Addr} (S : ZipSep2 z TI TO i1 i2 [i1] [i2, b]) (nb : b ≠ i2) :
    Turn P w K (.Tuple elts kk tpos) (ItzS str m u K b) [z, TI, TO, i1, i2] z (fun i h => IsZip h z TI TO .none ∧ IsTupOf2 h TI (.ref i1) (.ref i2) ∧ (∃ x y, IsTupOf2 h TO x y) ∧ (PosS h i1 str tk0 i ∧ PosB u h i2 b i) ∧ i ≤ str.cps.size ∧ i ≤ m) where
  mem := by simp
  obj := fun i h st c hc => by
    obtain ⟨hz, hTI, ⟨x, y, hTO⟩, ⟨h1, h2⟩, _⟩ := st
    simp only [List.mem_cons, List.not_mem_nil, or_false] at hc
    rcases hc with rfl | rfl | rfl | rfl | rfl
    · exact ⟨_, hz, fun v q => nomatch q⟩
    · exact ⟨_, hTI, fun v q => nomatch q⟩
    · exact ⟨_, hTO, fun v q => nomatch q⟩
    · exact h1.data
    · exact h2.data
  keep := fun i h h' ⟨hz, hTI, ⟨x, y, hTO⟩, ⟨h1, h2⟩, hi⟩ k => ⟨k z (by simp) _ hz, k TI (by simp) _ hTI, ⟨x, y, k TO (by simp) _ hTO⟩, ⟨h1.keep fun o q => k i1 (by simp) o q, h2.keep fun o q => k i2 (by simp) o q⟩, hi⟩
  item := by
    intro X hP hw hK hc i pins s σ H E I hf ⟨hz, hTI, ⟨x0, y0, hTO⟩, ⟨h1, h2⟩, b1, b2⟩ ⟨ys, c0, y, hqy, hx, hy, lm⟩
    subst hP hw hK
    obtain ⟨its2, rv2, p2, _⟩ := Inv.seqB I hqy
    obtain ⟨u2, hu2, ru2⟩ := rv2.get hy
    have hh : X.A.in1.handled = none := I.ok.hd hc
    have lt1 : i < str.cps.size := (Array.getElem?_eq_some_iff.mp hx).1
    have lt2 : i < its2.toArray.size := by rw [List.size_toArray]; exact (List.getElem?_eq_some_iff.mp hu2).1
    have hzl : z < s.heap.objs.size := Heap.lt_size hz
    refine wpAny_pyNext_zipD2_item S (Draws.text hh i1 str tk0) (drawsB hh u i2 b nb its2.toArray) hz hTI hTO h1 ⟨h2, p2⟩ lt1 lt2 fun w1 w2 h' tk e1 e2 z' TO' s1' s2' hT hsz hk => ?_
    obtain ⟨c1, ut, hc1, ew⟩ := e1
    rw [hx] at hc1
    cases hc1
    have e2 : u2 = w2 := by have q : its2.toArray[i]? = some w2 := e2; rw [List.getElem?_toArray, hu2] at q; exact Option.some.inj q
    subst ew e2
    refine ⟨_, rfl, wpAny_letOwnedTupleGo_zip (s := { s with heap := h', toks := tk }) z' fun h'' z'' sb => ?_⟩
    have hT2 : h''.get? s.heap.objs.size = some { cls := .type "tuple", data := .seq #[.str ⟨#[c0]⟩ ut, u2] } := (sb.2 _ (Nat.ne_of_gt hzl)).trans hT
    have new : ObjOk X.prog X.w (upd H s.heap.objs.size (.tup [.str ⟨#[c0]⟩, y])) h'' s.heap.objs.size (.tup [.str ⟨#[c0]⟩, y]) :=
      ⟨by show 2 ≤ sizeLine; decide, [.str ⟨#[c0]⟩ ut, u2], .cons ⟨ut, rfl⟩ (.cons ru2 .nil), ⟨_, hT2, rfl, _, rfl⟩⟩
    have I1 : Inv X pins σ (upd H s.heap.objs.size (.tup [.str ⟨#[c0]⟩, y])) { s with heap := h'', toks := tk } :=
      I.turnedNew (t' := tk) (ch := [z, TI, TO, i1, i2]) (fun c o hb q => by
        simp only [List.mem_cons, List.not_mem_nil, or_false, not_or] at hb
        exact (sb.2 c hb.1).trans (hk c o hb.1 hb.2.2.1 hb.2.2.2.1 hb.2.2.2.2 q)) hf (Nat.le_refl _) new
    have out : ∀ c, c ∈ [z, TI, TO, i1, i2] → c < s.heap.objs.size := fun c hcm => by
      simp only [List.mem_cons, List.not_mem_nil, or_false] at hcm
      rcases hcm with rfl | rfl | rfl | rfl | rfl
      · exact hzl
      · exact Heap.lt_size hTI
      · exact Heap.lt_size hTO
      · obtain ⟨_, e, _⟩ := h1.data; exact Heap.lt_size e
      · obtain ⟨_, e, _⟩ := h2.data; exact Heap.lt_size e
    refine ⟨.ref s.heap.objs.size, _, I1, rfl, ⟨_, c0, y, rfl, I.hok.fresh (Nat.le_refl _), rfl, hx, fun l hl => by rw [Inv.seqB_inj I hl hqy]; exact hy⟩, ⟨z'', ?_, ⟨.str ⟨#[c0]⟩ ut, u2, ?_⟩, ⟨?_, ?_⟩, by have := (Array.getElem?_eq_some_iff.mp hx).1; omega, by have := (List.getElem?_eq_some_iff.mp hy).1; omega⟩, fun c hcm => ?_⟩
    · exact (sb.2 _ S.TIz).trans (hk _ _ S.TIz S.TITO S.TIi1 S.TIi2 hTI)
    · exact (sb.2 _ S.TOz).trans TO'
    · exact (show PosS _ i1 str tk0 (i + 1) from s1').keep fun o q => (sb.2 _ S.zi1.symm).trans q
    · exact s2'.1.keep fun o q => (sb.2 _ S.zi2.symm).trans q
    · rw [upd_ne (Nat.ne_of_lt (out c hcm))]
      exact (hf c hcm).1
  done := by
    intro X hP hw hK hc i pins s σ H E I hf ⟨hz, hTI, ⟨x0, y0, hTO⟩, ⟨h1, h2⟩, b1, b2⟩ ⟨ys, hqy, lm, hend⟩
    subst hP hw hK
    obtain ⟨its2, rv2, p2, _⟩ := Inv.seqB I hqy
    have hh : X.A.in1.handled = none := I.ok.hd hc
    have e2 : its2.toArray.size = ys.length := by rw [List.size_toArray, rv2.length]
    refine wpAny_pyNext_zipD2_end S (Draws.text hh i1 str tk0) (drawsB hh u i2 b nb its2.toArray) hz hTI hTO h1 ⟨h2, p2⟩ b1 (by rw [e2, lm]; exact b2) (by rw [e2, lm]; omega) fun h' tk hk =>
      ⟨rfl, I.turnedL (t' := tk) (ch := [z, TI, TO, i1, i2]) (fun c o hb q => by
        simp only [List.mem_cons, List.not_mem_nil, or_false, not_or] at hb
        exact hk c o hb.1 hb.2.2.1 hb.2.2.2.1 hb.2.2.2.2 q) hf⟩
  self := fun A i s Q E st h => wpAny_pyIter_zip st.1 h
def iZipS (K : PySem.W.Frag) (ta : TA) : TI := fun σ H R => ta σ H fun vs H1 => ∃ z b ys u, vs = [.str z, .ref b] ∧ SqB u K H1 b ys ∧ R (ItzS z ys.length u K b) H1
theorem pi_zipS {X : Cx} {e e2 : Expr} {ta : TA} {p pos tpos : Pos} {elts : List Expr} {kk : Nat} (hg : Gl X "zip") (hm : X.mg "zip" = none) (ha : PA X [e, e2] ta)
    (hs : starEach [e, e2] X.env = (false, eval e X.env) :: starEach [e2] X.env := by rfl) (hpl : (backTo pos (starEach [e2] X.env)).any (·.1) = false := by rfl) :
    PI X (.Tuple elts kk tpos) (.Call (.Name "zip" p) [e, e2] [] pos) (iZipS X.K ta) := by
  refine ⟨fun pins s σ H R I h => ?_⟩
  refine Call_ (ld_blt I hg hm PyProof.Rows.boot_zip (PyProof.Rows.callWith_type1 (thn (ha.run pos pins s σ H _ I h) fun us s1 ⟨vs, H1, I1, r1, ⟨z, b, ys, u, ex, hqy, q⟩⟩ => ?_) hs hpl))
  subst ex
  cases r1 with
  | cons r rr =>
    cases rr with
    | cons r' rr =>
      cases rr; cases r'
      obtain ⟨tk0, rfl⟩ := r
      obtain ⟨its2, rv2, p2, lb⟩ := Inv.seqB I1 hqy
      refine zip_begins2 (begins_text z tk0) (beginsB u b its2.toArray) trivial p2 fun h' hz hTI hTO h1 h2 hsz hk => wpAny_pyIter_zip hz ?_
      have I2 : Inv X pins σ H1 { s1 with heap := h' } := I1.kept (t' := s1.toks) hk
      refine ⟨s1.heap.objs.size + 4, [s1.heap.objs.size + 4, s1.heap.objs.size + 2, s1.heap.objs.size + 3, s1.heap.objs.size, s1.heap.objs.size + 1], _, _, H1, rfl, I2,
        turn_zipS (tk0 := tk0) (zip_sep2 (fun c hc => by cases hc) (fun c hc => by simp only [List.mem_singleton] at hc; subst hc; exact lb)) (Nat.ne_of_lt (Nat.lt_succ_of_lt lb)),
        ⟨hz, hTI, ⟨_, _, hTO⟩, ⟨⟨_, h1, rfl, rfl⟩, PosB.start h2⟩, Nat.zero_le _, Nat.zero_le _⟩, fun c hc => ?_, q⟩
      have hle : s1.heap.objs.size ≤ c := by
        simp only [List.mem_cons, List.not_mem_nil, or_false] at hc
        rcases hc with rfl | rfl | rfl | rfl | rfl
        · exact Nat.le_add_right _ _
        · exact Nat.le_add_right _ _
        · exact Nat.le_add_right _ _
        · exact Nat.le_refl _
        · exact Nat.le_add_right _ _
      exact I1.fpOk hle (I1.hok.fresh hle)
end FW

set_option maxRecDepth 100000
set_option maxHeartbeats 4000000
/-! max(xs, default=d), xs a list of whole numbers -/
namespace FW
open PySem L2 PyProof.Rows
theorem args_maxD (a d : Value) : argsOk "max" ⟨[a], [(Str.ofString "default", d)]⟩ := by unfold argsOk; kernel_rfl
theorem bind_maxD (d : Value) : Builtin.Builtins.bindParams "max" ["key", "default"] 0 ⟨[], [(Str.ofString "default", d)]⟩ = pure [none, some d] := by kernel_rfl
section
variable {prog : Program} {w : World} {A : Around}
theorem call_againKw {E : Value → Shared → Prop} {s : Shared} {id : String} {b : Builtin} {args : List Value} {kw : List (Str × Value)} {Q : Value → Shared → Prop} (hk : builtinKind id = none) (hp : plainId id = true) (hb : entryFor table id = some b) (ha : argsOk id ⟨args, kw⟩)
    (hc : wpAny (model prog w) A.in1 (b ⟨args, kw⟩) (fun fin s' => match fin with
      | .done f => (match (Except.ok f : Result) with | .ok (.ret v) => Q v s' | .ok _ => False | .error e => E e s')
      | .again c' => c'.quiet = true ∧ codeAny (model prog w) A c' (fun r s' => match r with | .ok (.ret v) => Q v s' | .ok _ => False | .error e => E e s') s') E s) : wpAny (model prog w) A (call (.builtin id) args kw) Q E s := by
  refine wpAny_call (codeAny_call_builtin hp hb ?_)
  simp only [checkBuiltinCall, hk]
  cases hsig : Manifest.signature? id with
  | none => exact wpAny_pure hc
  | some sig =>
    have q : Bind.checkArgs id sig ⟨args, kw⟩ = pure () := by
      have h := ha
      simp only [argsOk, hsig] at h
      exact h
    simp only [q]
    exact wpAny_pure hc
theorem gt_ints {a b : Int} {t u : Tok} {s : Shared} {Q E : Value → Shared → Prop} (h : Q (.bool (decide (a > b))) s) : wpAny (model prog w) A (richCompare .Gt (.int a t) (.int b u)) Q E s :=
  CmpOf.ints_gt (P := fun i v => ∃ t, v = .int (if i = 0 then a else b) t) (fun i => if i = 0 then a else b) (fun _ _ z => z) 0 1 _ _ s Q E ⟨t, rfl⟩ ⟨u, rfl⟩ h
variable {R : Result → Shared → Prop} {I : Addr} {fp wr : List Addr} {n : Nat} {P : Nat → Value → Prop} {St : Nat → Heap → Prop}
abbrev BestIs (h : Heap) (S : Addr) (its : Array Value) (c : Nat) : Prop := h.get? S = some { cls := .type "list", dict := none, data := .seq its c, slots := #[] }
theorem maxKw_loop (W : Walks prog w A.in1 I fp wr n P St) (val : Nat → Int) (hval : ∀ i v, P i v → ∃ t, v = .int (val i) t) (kw : List (Str × Value)) (S : Addr) (hSf : S ∉ fp) :
    ∀ (k j : Nat) (s : Shared) (m : Int) (t : Tok) (c : Nat), j + k = n → St j s.heap → BestIs s.heap S #[.int m t, .int m t] c →
    (∀ M t' h' tk, m ≤ M → (∀ i, j ≤ i → i < n → val i ≤ M) → (M = m ∨ ∃ i, j ≤ i ∧ i < n ∧ M = val i) → (∀ b o, b ∉ wr → b ≠ S → s.heap.get? b = some o → h'.get? b = some o) → R (.ok (.ret (.int M t'))) { s with heap := h', toks := tk }) →
    codeAny (model prog w) A (.builtin "max.loop" ⟨[.ref I, .none, .ref S], kw⟩) R s := by
  have hSw : S ∉ wr := fun h => hSf (W.sub _ h)
  have hname : (toString "max" ++ toString ".loop" : String) = "max.loop" := by decide
  intro k
  induction k with
  | zero =>
    intro j s m t c hj hst hS hR
    refine codeAny_builtin F.entry_max_loop ?_
    rw [Around.under_plainId F.plain_max_loop _]
    show wpAny _ A.in1 (seqItems? (.ref S) >>= _) _ _ s
    refine wpAny_bind (wpAny_seqItems hS rfl ?_)
    show wpAny _ A.in1 (tryCatch (pyNext (.ref I)) _ >>= _) _ _ s
    refine wpAny_bind (wpAny_tryCatch (W.done s _ _ (by have e : j = n := hj; rw [← e]; exact hst) fun h' tk hk => ?_))
    have hS' := hk S _ hSw hS
    show wpAny _ A.in1 (updateSeq S (fun _ => #[]) >>= _) _ _ _
    refine wpAny_bind (wpAny_updateSeq hS' rfl (wpAny_bind (wpAny_letGo (wpAny_pure ?_))))
    exact hR m t _ tk (Int.le_refl _) (fun i h1 h2 => absurd h2 (by omega)) (.inl rfl) fun b o hb hbS e => (Heap.get?_update_other _ _ (Ne.symm hbS)).trans (hk b o hb e)
  | succ k ih =>
    intro j s m t c hj hst hS hR
    refine codeAny_builtin F.entry_max_loop ?_
    rw [Around.under_plainId F.plain_max_loop _]
    show wpAny _ A.in1 (seqItems? (.ref S) >>= _) _ _ s
    refine wpAny_bind (wpAny_seqItems hS rfl ?_)
    show wpAny _ A.in1 (tryCatch (pyNext (.ref I)) _ >>= _) _ _ s
    refine wpAny_bind (wpAny_tryCatch (W.item j s _ _ (by omega) hst fun v h' tk hP hst' hk => ?_))
    obtain ⟨u, rfl⟩ := hval _ _ hP
    have hS' := hk S _ hSw hS
    show wpAny _ A.in1 (tryCatch (holding [Value.int (val j) u, Value.int (val j) u] (richCompare .Gt (Value.int (val j) u) (Value.int m t) >>= _)) _ >>= _) _ _ _
    refine wpAny_bind (wpAny_tryCatch (wpAny_holding (wpAny_bind (gt_ints ?_))))
    refine wpAny_bind (wpAny_holding (wpAny_truthy_bool ?_))
    refine wpAny_bind (wpAny_letGo (wpAny_pure ?_))
    by_cases hb : val j > m
    · simp only [hb, decide_true, if_true]
      refine wpAny_bind (wpAny_updateSeq hS' rfl (wpAny_bind (wpAny_letGo ?_)))
      rw [hname]
      refine wpAny_pure ⟨plainId_quiet F.plain_max_loop _, ih (j + 1) _ (val j) u _ (by omega) (W.frame _ _ _ hst' fun b hbf o e => (Heap.get?_update_other _ _ (fun h : S = b => hSf (by rw [h]; exact hbf))).trans e) (Heap.get?_update_self _ hS' rfl) fun M t' h'' tk'' l1 l2 l3 hk'' => ?_⟩
      refine hR M t' h'' tk'' (by omega) (fun i h1 h2 => ?_) (.inr ?_) fun b o hbw hbS e => hk'' b o hbw hbS ((Heap.get?_update_other _ _ (Ne.symm hbS)).trans (hk b o hbw e))
      · rcases Nat.eq_or_lt_of_le h1 with q | q
        · rw [← q]; exact l1
        · exact l2 i q h2
      · rcases l3 with q | ⟨i, h1, h2, h3⟩
        · exact ⟨j, Nat.le_refl _, by omega, q⟩
        · exact ⟨i, by omega, h2, h3⟩
    · simp only [hb, decide_false, Bool.false_eq_true, if_false]
      refine wpAny_bind (wpAny_letGo ?_)
      rw [hname]
      refine wpAny_pure ⟨plainId_quiet F.plain_max_loop _, ih (j + 1) _ m t c (by omega) hst' hS' fun M t' h'' tk'' l1 l2 l3 hk'' => ?_⟩
      refine hR M t' h'' tk'' l1 (fun i h1 h2 => ?_) ?_ fun b o hbw hbS e => hk'' b o hbw hbS (hk b o hbw e)
      · rcases Nat.eq_or_lt_of_le h1 with q | q
        · rw [← q]; omega
        · exact l2 i q h2
      · rcases l3 with q | ⟨i, h1, h2, h3⟩
        · exact .inl q
        · exact .inr ⟨i, by omega, h2, h3⟩
theorem maxD_first (W : Walks prog w A.in1 I fp wr n P St) (val : Nat → Int) (hval : ∀ i v, P i v → ∃ t, v = .int (val i) t) (d : Int) (td : Tok) (S : Addr) (hSf : S ∉ fp) {s : Shared} {c : Nat} (hst : St 0 s.heap) (hS : BestIs s.heap S #[] c)
    (hR : ∀ M t' h' tk, (n = 0 → M = d) → (0 < n → (∀ i, i < n → val i ≤ M) ∧ ∃ i, i < n ∧ M = val i) → (∀ b o, b ∉ wr → b ≠ S → s.heap.get? b = some o → h'.get? b = some o) → R (.ok (.ret (.int M t'))) { s with heap := h', toks := tk }) :
    codeAny (model prog w) A (.builtin "max.loop" ⟨[.ref I, .none, .ref S], [(Str.ofString "default", .int d td)]⟩) R s := by
  have hSw : S ∉ wr := fun h => hSf (W.sub _ h)
  have hname : (toString "max" ++ toString ".loop" : String) = "max.loop" := by decide
  refine codeAny_builtin F.entry_max_loop ?_
  rw [Around.under_plainId F.plain_max_loop _]
  show wpAny _ A.in1 (seqItems? (.ref S) >>= _) _ _ s
  refine wpAny_bind (wpAny_seqItems hS rfl ?_)
  show wpAny _ A.in1 (tryCatch (pyNext (.ref I)) _ >>= _) _ _ s
  cases n with
  | zero =>
    refine wpAny_bind (wpAny_tryCatch (W.done s _ _ hst fun h' tk hk => ?_))
    show wpAny _ A.in1 (rule _ >>= _) _ _ _
    refine wpAny_bind (wpAny_rule (wpAny_pure ?_))
    exact hR d td h' tk (fun _ => rfl) (fun h => absurd h (by omega)) fun b o hb _ e => hk b o hb e
  | succ n =>
    refine wpAny_bind (wpAny_tryCatch (W.item 0 s _ _ (Nat.succ_pos _) hst fun v h' tk hP hst' hk => ?_))
    obtain ⟨u, rfl⟩ := hval _ _ hP
    have hS' := hk S _ hSw hS
    show wpAny _ A.in1 (updateSeq S (fun _ => #[Value.int (val 0) u, Value.int (val 0) u]) >>= _) _ _ _
    refine wpAny_bind (wpAny_updateSeq hS' rfl ?_)
    rw [hname]
    refine wpAny_pure ⟨plainId_quiet F.plain_max_loop _, maxKw_loop W val hval _ S hSf n 1 _ (val 0) u _ (by omega) (W.frame _ _ _ hst' fun b hbf o e => (Heap.get?_update_other _ _ (fun h : S = b => hSf (by rw [h]; exact hbf))).trans e) (Heap.get?_update_self _ hS' rfl) fun M t' h'' tk'' l1 l2 l3 hk'' => ?_⟩
    refine hR M t' h'' tk'' (fun h => absurd h (Nat.succ_ne_zero _)) (fun _ => ⟨fun i h1 => ?_, ?_⟩) fun b o hbw hbS e => hk'' b o hbw hbS ((Heap.get?_update_other _ _ (Ne.symm hbS)).trans (hk b o hbw e))
    · cases i with
      | zero => exact l1
      | succ i => exact l2 _ (by omega) h1
    · rcases l3 with q | ⟨i, h1, h2, h3⟩
      · exact ⟨0, Nat.succ_pos _, q⟩
      · exact ⟨i, h2, h3⟩
theorem call_maxD {E : Value → Shared → Prop} {s : Shared} {l : Addr} {its : Array Value} {ns : List Int} {d : Int} {td : Tok} {Q : Value → Shared → Prop} (hh : A.handled = none) (hl : s.heap.IsList l its) (hn : its.size = ns.length) (hv : ∀ (i : Nat) (v : Value), its[i]? = some v → ∃ t, v = .int (ns.getD i 0) t)
    (h : ∀ M t' h' tk, (ns = [] → M = d) → (ns ≠ [] → M ∈ ns ∧ ∀ y ∈ ns, y ≤ M) → (∀ b o, s.heap.get? b = some o → h'.get? b = some o) → Q (.int M t') { s with heap := h', toks := tk }) :
    wpAny (model prog w) A (call (.builtin "max") [.ref l] [(Str.ofString "default", .int d td)]) Q E s := by
  have hname : (toString "max" ++ toString ".loop" : String) = "max.loop" := by decide
  have hlt : l < s.heap.objs.size := by obtain ⟨_, e, _⟩ := hl; exact Heap.lt_size e
  refine call_againKw F.kind_max F.plain_max F.entry_max (args_maxD _ _) ?_
  show wpAny _ A.in1 (Builtin.Builtins.bindParams "max" ["key", "default"] 0 ⟨[], [(Str.ofString "default", .int d td)]⟩ >>= _) _ _ s
  refine wpAny_bind (wpAny_of_eq (bind_maxD _) ?_)
  refine wpAny_bind (wpAny_pure ?_)
  refine wpAny_bind (wpAny_pyIter_list hl ?_)
  refine wpAny_bind (wpAny_newObj_type ?_)
  rw [hname]
  have z1 : (s.heap.push { cls := .type "list_iterator", data := .fields #[.ref l, .int 0 0] }).objs.size = s.heap.objs.size + 1 := Heap.size_push ..
  refine wpAny_pure ⟨plainId_quiet F.plain_max_loop _, maxD_first (Walks.list (A := A.in1) hh s.heap.objs.size l (Nat.ne_of_lt hlt) its) (fun i => ns.getD i 0) hv d td _ (fun hm => ?_) ⟨⟨_, Heap.get?_push_of_some _ (Heap.get?_push_size _ rfl), rfl, rfl⟩, (hl.push _).push _⟩ (Heap.get?_push_size _ rfl) fun M t' h' tk q1 q2 hk => ?_⟩
  · have hm : s.heap.objs.size + 1 ∈ [s.heap.objs.size, l] := z1 ▸ hm
    rcases List.mem_cons.mp hm with q | q
    · exact absurd q (Nat.succ_ne_self _)
    · rw [List.mem_singleton] at q
      exact absurd (q ▸ hlt) (Nat.not_lt.mpr (Nat.le_succ _))
  · refine h M t' h' tk (fun e => q1 (by rw [hn, e]; rfl)) (fun e => ?_) fun b o e => ?_
    · have hpos : 0 < its.size := by rw [hn]; cases ns with | nil => exact absurd rfl e | cons _ _ => simp
      obtain ⟨a1, i, i1, i2⟩ := q2 hpos
      rw [hn] at a1 i1
      refine ⟨by rw [i2, List.getD_eq_getElem?_getD, List.getElem?_eq_getElem i1]; exact List.getElem_mem i1, fun y hy => ?_⟩
      obtain ⟨j, hj, rfl⟩ := List.mem_iff_getElem.mp hy
      have := a1 j hj
      rw [List.getD_eq_getElem?_getD, List.getElem?_eq_getElem hj] at this
      exact this
    · have hb : b < s.heap.objs.size := Heap.lt_size e
      refine hk b o (fun hm => ?_) (fun z => ?_) (Heap.get?_push_of_some _ (Heap.get?_push_of_some _ e))
      · rw [List.mem_singleton] at hm; exact absurd (hm ▸ hb) (Nat.lt_irrefl _)
      · have z : b = s.heap.objs.size + 1 := z1 ▸ z
        exact absurd (z ▸ hb) (Nat.not_lt.mpr (Nat.le_succ _))
end
def rMaxD0 (K : PySem.W.Frag) : List V → List V → Hp → VK → Prop := fun vs zs H Q => ∃ (a : Addr) (ns : List Int) (d : Int), vs = [V.ref a] ∧ zs = [V.int d] ∧ SqL K H a (ns.map V.int) ∧ ∀ m, (ns = [] → m = d) → (ns ≠ [] → m ∈ ns ∧ ∀ y ∈ ns, y ≤ m) → Q (.int m) H
theorem cr_maxD0 {X : Cx} (hc : X.calm = true) : CallRK X (.builtin "max") [Str.ofString "default"] (rMaxD0 X.K) := by
  intro pins s σ H vs zs us ws Q I r rz ⟨a, ns, d, e1, e2, hs, q⟩
  subst e1 e2
  obtain rfl := Vals.ref1 r
  obtain ⟨w1, rfl, t, rfl⟩ := vals1 rz
  obtain ⟨its, rv, hl, _⟩ := I.list hs
  have hn : its.length = ns.length := by rw [← rv.length, List.length_map]
  refine call_maxD (I.ok.hd hc) hl.isList (ns := ns) (by rw [List.size_toArray, hn]) (fun i v hv => ?_) fun M t' h' tk q1 q2 hk => ⟨.int _, H, I.kept hk, ⟨_, rfl⟩, q M q1 q2⟩
  rw [List.getElem?_toArray] at hv
  have hi : i < ns.length := by rw [← hn]; exact (List.getElem?_eq_some_iff.mp hv).1
  obtain ⟨u, h1, h2⟩ := rv.get (i := i) (x := V.int ns[i]) (by rw [List.getElem?_map, List.getElem?_eq_getElem hi]; rfl)
  rw [h1] at hv
  cases hv
  obtain ⟨t, rfl⟩ := h2
  exact ⟨t, by rw [List.getD_eq_getElem?_getD, List.getElem?_eq_getElem hi]; rfl⟩
end FW

set_option maxRecDepth 100000
set_option maxHeartbeats 4000000
/-! tuple(d) of a dict: its keys -/
namespace FW
open PySem PySem.Spec PySem.W L2 PyProof.Rows
section
variable {prog : Program} {w : World} {A : Around} {E : Value → Shared → Prop} {s : Shared} {T : String} {r d : Addr} {n : Nat} {P : Nat → Value → Prop} {OK : Heap → Prop}
theorem collect_src {Q : List Value → Shared → Prop} (K : KdlSrc prog w T r d n P OK) (hh : A.handled = none) (hok : OK s.heap) (hn : n ≤ sizeLine)
    (hQ : ∀ (h' : Heap) (tk : Nat) (acc : Array Value), (∀ b o, s.heap.get? b = some o → h'.get? b = some o) → ItemsOf P acc n → Q acc.toList { s with heap := h', toks := tk }) :
    wpAny (model prog w) A (collect (.ref r)) Q E s := by
  unfold collect
  refine wpAny_bind (wpAny_runValue (codeAny_builtin F.entry_proto_collect ?_))
  rw [Around.under_plainId F.plain_proto_collect _]
  show wpAny _ A.in1 (newList [] >>= fun l => again (.builtin "list.__iadd__" ⟨[l, .ref r], []⟩)) _ _ s
  refine wpAny_bind (wpAny_newObj_type ?_)
  refine wpAny_pure ⟨plainId_quiet F.plain_list_iadd _, codeAny_builtin F.entry_list_iadd ?_⟩
  rw [Around.under_plainId F.plain_list_iadd _]
  have hlt := K.there _ hok
  show wpAny _ A.in1 (Builtin.List.listExtendWith (.ref s.heap.objs.size) (.ref r) (.ref s.heap.objs.size)) _ _ _
  have hS : (s.heap.push { cls := .type "list", data := .seq ([] : List Value).toArray }).get? s.heap.objs.size = some { cls := .type "list", data := .seq #[] 0 } := Heap.get?_push_size _ rfl
  refine wpAny_mono (kdl_extend (A := A) (R := fun rr s' => rr = .ok (.ret (.ref s.heap.objs.size)) ∧ ∃ (h' : Heap) (tk : Nat) (acc : Array Value) (c' : Nat), s' = { s with heap := h', toks := tk } ∧
      (∀ b o, s.heap.get? b = some o → h'.get? b = some o) ∧ h'.get? s.heap.objs.size = some { cls := .type "list", dict := none, data := .seq acc c', slots := #[] } ∧ ItemsOf P acc n)
    (s := { s with heap := s.heap.push { cls := .type "list", data := .seq ([] : List Value).toArray } }) K hh (K.keep _ _ hok fun b _ o e => Heap.get?_push_of_some _ e) _ (Nat.ne_of_gt hlt.1) (Nat.ne_of_gt hlt.2) _ 0 hS
    (fun h' tk acc c' hk e hi => ⟨rfl, h', tk, acc, c', rfl, fun b o q => hk b o (Nat.ne_of_lt (Heap.lt_size q)) (Heap.get?_push_of_some _ q), e, hi⟩) hn) (fun fin s' h => ?_) (fun e s' h => ?_)
  · cases fin with
    | done f =>
      obtain ⟨e, h', tk, acc, c', rfl, hk, hS', hi⟩ := h
      cases e
      show wpAny _ A (load s.heap.objs.size >>= _) _ _ _
      exact wpAny_bind (wpAny_load hS' (wpAny_pure (hQ h' tk acc hk hi)))
    | again c' =>
      refine ⟨h.1, codeAny_mono h.2 fun rr s'' hr' => ?_⟩
      obtain ⟨rfl, h', tk, acc, c', rfl, hk, hS', hi⟩ := hr'
      show wpAny _ A (load s.heap.objs.size >>= _) _ _ _
      exact wpAny_bind (wpAny_load hS' (wpAny_pure (hQ h' tk acc hk hi)))
  · exact absurd h.1 (by simp)
theorem call_tuple_src {Q : Value → Shared → Prop} (K : KdlSrc prog w T r d n P OK) (hh : A.handled = none) (hok : OK s.heap) (hn : n ≤ sizeLine)
    (hQ : ∀ (h' : Heap) (tk : Nat) (acc : Array Value), (∀ b o, s.heap.get? b = some o → h'.get? b = some o) → ItemsOf P acc n → Q (.ref h'.objs.size) { s with heap := h'.push { cls := .type "tuple", data := .seq acc }, toks := tk }) :
    wpAny (model prog w) A (call (.type "tuple") [.ref r]) Q E s := by
  refine callType_codes (Q₁ := fun obj s₁ => s₁.TypeIs obj "tuple" ∧ Q obj s₁) F.called_tuple (F.typeCall_tuple_1 _) F.entry_object_init ?_ fun obj s₁ h₁ => ⟨h₁.1, F.args_object_init_2 obj _, object_init_meets F.called_tuple.init.lookup F.called_tuple.made (by decide) prog w A.in1 _ s₁ ⟨h₁.1, rfl, h₁.2⟩⟩
  refine codeAny_of_tree ?_
  show wpAny _ A.in1.in1 (do checkBuiltinCall "tuple.__new__" ⟨[.type "tuple", .ref r], []⟩; again (.builtin "tuple.__new__" ⟨[.type "tuple", .ref r], []⟩)) _ _ s
  refine wpAny_bind (wpAny_of_eq (F.newCall_tuple_1 _) (wpAny_pure ⟨plainId_quiet F.plain_tuple_new _, codeAny_builtin F.entry_tuple_new ?_⟩))
  rw [Around.under_plainId F.plain_tuple_new _]
  have hsub := sub_tuple_self
  have hinit := init_tuple_lookup
  have hmh := madeHere_tuple
  have hTI : s.TypeIs (.ref r) T := K.type _ hok
  have nt := K.notTuple
  have hh1 : A.in1.in1.handled = none := hh
  wp_walk using wpAny_typeOf hTI, collect_src (A := A.in1.in1) K hh1 hok hn
  intro h' tk acc hk hacc
  show wpAny _ _ (Builtin.Tuple.tupleExact acc.toList.toArray >>= fun v => ret v) _ _ _
  unfold Builtin.Tuple.tupleExact
  refine wpAny_bind (wpAny_newObj_type ?_ (by show acc.toList.toArray.size ≤ sizeLine; simp only [Array.toArray_toList]; rw [hacc.1]; exact hn))
  refine wpAny_pure ?_
  have e : acc.toList.toArray = acc := by simp
  rw [e]
  exact ⟨⟨_, Heap.get?_push_size _ rfl, rfl⟩, hQ h' tk acc hk hacc⟩
end
def rTupD : List V → Hp → VK → Prop := fun xs H Q => ∃ p kvs, xs = [.ref p] ∧ H p = some (.dK kvs) ∧ ∀ q, H q = none → Q (.ref q) (upd H q (.tup (kvs.map fun kv => kV kv.1)))
theorem call_tupD {X : Cx} (hc : X.calm = true) : CallR X (.type "tuple") rTupD := by
  intro pins s σ H xs us Q I r ⟨p, kvs, e, hk, q⟩
  subst e
  obtain ⟨u, eu, rx⟩ := vals1 r
  subst eu
  obtain rfl : u = Value.ref p := rx
  obtain ⟨z, lo, vs, rk, hd⟩ := (show ObjOk X.prog X.w H s.heap p (.dK kvs) from I.hok p _ hk)
  obtain ⟨ep, hat⟩ := hd.dictAt
  have hl : kvs.length = vs.length := Paired.length rk
  refine call_tuple_src (kdl_dict (knd := mixKind X.prog X.w) (kvs := vs) (ep := ep) lo) (I.ok.hd hc) hat (by rw [← hl]; exact z) fun h' tk acc hkeep hacc => ?_
  have I2 : Inv X pins σ H { s with heap := h', toks := tk } := I.kept hkeep
  refine ⟨.ref h'.objs.size, upd H h'.objs.size (.tup (kvs.map fun kv => kV kv.1)), I2.laid (t' := tk) (fun b o e => Heap.get?_push_of_some _ e) (Nat.le_refl _) (show ObjOk X.prog X.w _ _ _ (.tup (kvs.map fun kv => kV kv.1)) from ⟨by rw [List.length_map]; exact z, acc.toList, ?_, ?_⟩), rfl, q _ (I2.hok.fresh (Nat.le_refl _))⟩
  · have el : acc.toList.length = acc.size := by simp
    refine vals_of_at (by rw [List.length_map, el, hacc.1, hl]) fun j x u h1 h2 => ?_
    obtain ⟨k, y, hky, hi⟩ := hacc.2 j u (by rw [← Array.getElem?_toList]; exact h2)
    have e1 : (kvs.map (·.1))[j]? = some k := by rw [KV.keys rk, List.getElem?_map, hky]; rfl
    rw [List.getElem?_map] at e1 h1
    cases hx : kvs[j]? with
    | none => rw [hx] at e1; cases e1
    | some kv =>
      rw [hx] at e1 h1
      simp only [Option.map_some, Option.some.injEq] at e1 h1
      rw [← h1, e1]
      exact keyIs_rel hi
  · rw [Array.toArray_toList]; exact IsTup.new _ _
end FW

set_option maxRecDepth 100000
set_option maxHeartbeats 4000000
/-! a dict beside a tuple: != -/
namespace FW
open PySem PySem.Spec PySem.Calls PySem.SeqAt PySem.MeetsSeq PySem.MeetsSeq2 PySem.MeetsSeq3 PyProof.Rows L2
open PySem.AutoSeq1 (wpAny_loadPart')
theorem tuple_ne_declines_dict (l b : Addr) (items : Array Value) (n : Nat) (dd : Option Addr) (sl : Array (Option Value)) (o : Obj) (hc : o.cls = .type "dict") :
    Meets (Builtin.«tuple.__ne__» ⟨[.ref l, .ref b], []⟩) (fun _ R s => s.heap.get? l = some { cls := .type "tuple", dict := dd, data := .seq items n, slots := sl } ∧ s.heap.get? b = some o ∧ R (.ok (.ret .notImplemented)) s) :=
  .of_wp fun prog w A R s h => by
    obtain ⟨c, d2, da, s2⟩ := o
    dsimp only at hc
    subst hc
    obtain ⟨hp, g, d, tk, os⟩ := s; obtain ⟨hl, hb, h⟩ := h; have f1 := F.sub_dict_tuple; wp_walk using wpAny_loadPart' hl, wpAny_loadPart' hb; exact ⟨_, rfl, h⟩
def rNeDT (K : PySem.W.Frag) : R2 := fun x y H Q => ∃ a b kvs ys, x = .ref a ∧ y = .ref b ∧ H a = some (.dK kvs) ∧ SqT K H b ys ∧ Q (.bl true) H
theorem op_neDT {X : Cx} (hu : X.A.units < cLine) : OpR X (compareOp .NotEq) (rNeDT X.K) := by
  intro pins s σ H x y v u Q I rx ry h
  obtain ⟨a, b, kvs, ys, rfl, rfl, ea, eb, q⟩ := h
  obtain rfl : v = Value.ref a := rx
  obtain rfl : u = Value.ref b := ry
  obtain ⟨_, hs, va, ra, da⟩ := dk_of I.hok ea
  obtain ⟨its, r, ⟨o, ho, hc, n, hd⟩, hz⟩ := I.tuple eb
  obtain ⟨cls, dd, data, sl⟩ := o
  dsimp only at hc hd
  subst hc hd
  have tb : s.heap.get? b = some { cls := .type "tuple", dict := dd, data := .seq its.toArray n, slots := sl } := ho
  obtain ⟨oa, es, ep, hoa, hx, hda, _⟩ := id da
  have hca : oa.cls = .type "dict" := hx.1
  have hne : a ≠ b := fun e => by
    rw [e, tb] at hoa
    cases hoa
    cases hda
  refine rc_ne_decline_or (k := false) da.typeIs ⟨_, tb, rfl⟩ (by decide) F.sub_tuple_dict F.slot_dict_ne F.slot_tuple_ne_refl ?_
    (fun _ hq => call_meets F.slot_tuple_ne_refl ⟨_, tb, rfl⟩ F.entry_tuple_ne (F.args_tuple_ne_2 _ _) (tuple_ne_declines_dict b a its.toArray n dd sl oa hca) ⟨tb, hoa, hq⟩)
    (fun _ hq => wpAny_isSame_ref_other hne hoa tb (by simp [hca]) hq) (.inr hu) ⟨.bl true, H, I, rfl, q⟩
  intro Q' hq
  refine wpAny_call_entry PySem.F.slot_dict_ne da.typeIs PySem.F.entry_dict_ne ?_ (PySem.F.args_dict_ne_2 _ _)
  show wpAny _ _ (Builtin.Dict.dictSlotArgs "__ne__" ⟨[.ref a, .ref b], []⟩ >>= _) _ _ s
  refine wpAny_bind ?_
  unfold Builtin.Dict.dictSlotArgs
  refine wpAny_bind (wpAny_notOrdered_dict da.typeIs ?_)
  show wpAny _ _ (pure (Value.ref a, Value.ref b)) _ _ s
  refine wpAny_pure ?_
  refine wpAny_bind (wpAny_isInstance (T := "tuple") (show s.TypeIs (.ref b) "tuple" from ⟨_, tb, rfl⟩) PySem.F.sub_tuple_dict ?_)
  simp only [Bool.not_false, if_true]
  first | exact wpAny_bind (wpAny_pure (wpAny_pure ⟨_, rfl, hq⟩)) | exact wpAny_bind (wpAny_rule (wpAny_pure ⟨_, rfl, hq⟩)) | trace_state
theorem tuple_eq_declines_dict (l b : Addr) (items : Array Value) (n : Nat) (dd : Option Addr) (sl : Array (Option Value)) (o : Obj) (hc : o.cls = .type "dict") :
    Meets (Builtin.«tuple.__eq__» ⟨[.ref l, .ref b], []⟩) (fun _ R s => s.heap.get? l = some { cls := .type "tuple", dict := dd, data := .seq items n, slots := sl } ∧ s.heap.get? b = some o ∧ R (.ok (.ret .notImplemented)) s) :=
  .of_wp fun prog w A R s h => by
    obtain ⟨c, d2, da, s2⟩ := o
    dsimp only at hc
    subst hc
    obtain ⟨hp, g, d, tk, os⟩ := s; obtain ⟨hl, hb, h⟩ := h; have f1 := F.sub_dict_tuple; wp_walk using wpAny_loadPart' hl, wpAny_loadPart' hb; exact ⟨_, rfl, h⟩
theorem list_eq_declines_dict (l b : Addr) (items : Array Value) (n : Nat) (dd : Option Addr) (sl : Array (Option Value)) (o : Obj) (hc : o.cls = .type "dict") :
    Meets (Builtin.«list.__eq__» ⟨[.ref l, .ref b], []⟩) (fun _ R s => s.heap.get? l = some { cls := .type "list", dict := dd, data := .seq items n, slots := sl } ∧ s.heap.get? b = some o ∧ R (.ok (.ret .notImplemented)) s) :=
  .of_wp fun prog w A R s h => by
    obtain ⟨c, d2, da, s2⟩ := o
    dsimp only at hc
    subst hc
    obtain ⟨hp, g, d, tk, os⟩ := s; obtain ⟨hl, hb, h⟩ := h; have f1 := F.sub_dict_list; wp_walk using wpAny_loadPart' hl, wpAny_loadPart' hb; exact ⟨_, rfl, h⟩
def rEqDS (K : PySem.W.Frag) : R2 := fun x y H Q => ∃ a b kvs ys, x = .ref a ∧ y = .ref b ∧ H a = some (.dK kvs) ∧ (SqT K H b ys ∨ SqL K H b ys) ∧ Q (.bl false) H
theorem op_eqDS {X : Cx} (hu : X.A.units < cLine) : OpR X (compareOp .Eq) (rEqDS X.K) := by
  intro pins s σ H x y v u Q I rx ry h
  obtain ⟨a, b, kvs, ys, rfl, rfl, ea, eb, q⟩ := h
  obtain rfl : v = Value.ref a := rx
  obtain rfl : u = Value.ref b := ry
  obtain ⟨_, hs, va, ra, da⟩ := dk_of I.hok ea
  obtain ⟨oa, es, ep, hoa, hx, hda, _⟩ := id da
  have hca : oa.cls = .type "dict" := hx.1
  have left : ∀ (T : String), s.TypeIs (.ref b) T → isSubtype (.type T) (.type "dict") = pure false → ∀ Q' : Value → Shared → Prop, Q' .notImplemented s → wpAny (model X.prog X.w) X.A (call (.builtin "dict.__eq__") [.ref a, .ref b]) Q' X.xe s := fun T hT hsub Q' hq => by
    refine wpAny_call_entry PySem.F.slot_dict_eq da.typeIs PySem.F.entry_dict_eq ?_ (PySem.F.args_dict_eq_2 _ _)
    show wpAny _ _ (Builtin.Dict.dictSlotArgs "__eq__" ⟨[.ref a, .ref b], []⟩ >>= _) _ _ s
    refine wpAny_bind ?_
    unfold Builtin.Dict.dictSlotArgs
    refine wpAny_bind (wpAny_notOrdered_dict da.typeIs ?_)
    show wpAny _ _ (pure (Value.ref a, Value.ref b)) _ _ s
    refine wpAny_pure ?_
    refine wpAny_bind (wpAny_isInstance (T := T) hT hsub ?_)
    simp only [Bool.not_false, if_true]
    exact wpAny_bind (wpAny_rule (wpAny_pure ⟨_, rfl, hq⟩))
  rcases eb with eb | eb
  · obtain ⟨its, r, ⟨o, ho, hc, n, hd⟩, hz⟩ := I.tuple eb
    obtain ⟨cls, dd, data, sl⟩ := o
    dsimp only at hc hd
    subst hc hd
    have tb : s.heap.get? b = some { cls := .type "tuple", dict := dd, data := .seq its.toArray n, slots := sl } := ho
    have hne : a ≠ b := fun e => by rw [e, tb] at hoa; cases hoa; cases hda
    exact rc_eq_decline_or (k := false) da.typeIs ⟨_, tb, rfl⟩ (by decide) F.sub_tuple_dict F.slot_dict_eq F.slot_tuple_eq_refl (left "tuple" ⟨_, tb, rfl⟩ F.sub_tuple_dict)
      (fun _ hq => call_meets F.slot_tuple_eq_refl ⟨_, tb, rfl⟩ F.entry_tuple_eq (F.args_tuple_eq_2 _ _) (tuple_eq_declines_dict b a its.toArray n dd sl oa hca) ⟨tb, hoa, hq⟩)
      (fun _ hq => wpAny_isSame_ref_other hne hoa tb (by simp [hca]) hq) (.inr hu) ⟨.bl false, H, I, rfl, q⟩
  · obtain ⟨its, r, ⟨o, n, ho, hc, hdd, hd⟩, hz⟩ := I.list eb
    obtain ⟨cls, dd, data, sl⟩ := o
    dsimp only at hc hd
    subst hc hd
    have tb : s.heap.get? b = some { cls := .type "list", dict := dd, data := .seq its.toArray n, slots := sl } := ho
    have hne : a ≠ b := fun e => by rw [e, tb] at hoa; cases hoa; cases hda
    exact rc_eq_decline_or (k := false) da.typeIs ⟨_, tb, rfl⟩ (by decide) F.sub_list_dict F.slot_dict_eq F.slot_list_eq_refl (left "list" ⟨_, tb, rfl⟩ F.sub_list_dict)
      (fun _ hq => call_meets F.slot_list_eq_refl ⟨_, tb, rfl⟩ F.entry_list_eq (F.args_list_eq_2 _ _) (list_eq_declines_dict b a its.toArray n dd sl oa hca) ⟨tb, hoa, hq⟩)
      (fun _ hq => wpAny_isSame_ref_other hne hoa tb (by simp [hca]) hq) (.inr hu) ⟨.bl false, H, I, rfl, q⟩
end FW

set_option maxRecDepth 100000
set_option maxHeartbeats 4000000
/-! sets of tuples of integers that grow: set(), add, in -/
namespace FW
open PySem L2 PySem.Spec PyProof.Rows
section
variable {P : Program} {w : World} {A : Around} {E : Value → Shared → Prop} {s : Shared} {a : Addr} {L : List (Addr × List Int)} {es : Array (Int × Value)} {ep : Nat} {t : SetTable}
def stepAt (t : SetTable) (h : Int) (c : Nat) : SetTable.Probe := nth t.mask (t.probeStart h) c
theorem stepAt_add (t : SetTable) (h : Int) (c q : Nat) : nth t.mask (stepAt t h c) q = stepAt t h (c + q) := (nth_add t.mask c (t.probeStart h) q).symm
theorem no_dummy (m : Nat) : ∀ (n : Nat) (p : SetTable.Probe), p.dummy = none → (nth m p n).dummy = none
  | 0, _, h => h
  | n + 1, p, h => no_dummy m n (adv m p) (by unfold adv; split <;> exact h)
/-- asking whether the tuple k is there, from step c of its way on -/
theorem ask_from (R : SetTR P w s.heap a L es ep t) {x : Addr} {k : List Int} (hx : IsT P w s.heap k x) (hu : A.units < cLine) {K : Nat} (hb : K < 10 * SetTable.turns t.mask) (hK : (stepAt t (thash P w k) K).j ∉ t.place.toList) (hKb : ∀ c, c < K → (stepAt t (thash P w k) c).j ∈ t.place.toList)
    {Q : SetFound → Shared → Prop} (yes : k ∈ L.map (·.2) → ∀ i, Q (.there (some i)) s) (no : k ∉ L.map (·.2) → ∀ j, Q (.free j false) s) : ∀ (f c : Nat) (st : Option SetTable.Probe), st.getD (t.probeStart (thash P w k)) = stepAt t (thash P w k) c → c ≤ K → K - c < f →
      (∀ (i : Nat) p, L[i]? = some p → p.2 = k → ∃ d, c ≤ d ∧ d < K ∧ t.place.toList[i]? = some (stepAt t (thash P w k) d).j) → wpAny (model P w) A (setSearchFrom a (.ref x) (thash P w k) false f st) Q E s := by
  intro f
  induction f with
  | zero => exact fun c st _ _ z _ => absurd z (Nat.not_lt_zero _)
  | succ f again =>
    intro c st es0 ck kf still
    obtain ⟨o, look, _, dat⟩ := R.ob
    have hashes : ∀ {i : Nat} {p : Addr × List Int}, L[i]? = some p → (es[i]?.map (·.1)).getD 0 = thash P w p.2 := fun {i p} e => by rw [R.entry e]; rfl
    rw [setSearchFrom_succ]
    apply wpAny_bind
    apply wpAny_setState_of look dat R.fits
    show wpAny (model P w) A (if t.gaveWay = true then _ else _) Q E s
    rw [if_neg R.gw]
    rw [es0]
    have two := go_spec t R.tab.ris R.tab.dm (fun i => (es[i]?.map (·.1)).getD 0) (thash P w k) (10 * SetTable.turns t.mask) (K - c) (stepAt t (thash P w k) c) (no_dummy _ _ _ rfl) (by omega) (fun q hq => by rw [stepAt_add]; exact hKb _ (by omega)) (by rw [stepAt_add, show c + (K - c) = K by omega]; exact hK)
    simp only [stepAt_add] at two
    rcases two with ⟨q, i, qK, at_i, hi, passed, met⟩ | ⟨passed, met⟩
    · have e1 : t.probe (fun i => (es[i]?.map (·.1)).getD 0) (thash P w k) (stepAt t (thash P w k) c) = some (.candidate (stepAt t (thash P w k) (c + q)).j i (stepAt t (thash P w k) (c + (q + 1)))) := met
      rw [e1]
      have il : i < L.length := by
        have u1 := (List.getElem?_eq_some_iff.mp at_i).1
        have u2 := R.tab.sz
        rw [Array.length_toList] at u1
        rw [List.length_map] at u2
        omega
      have ip : L[i]? = some L[i] := List.getElem?_eq_getElem il
      have pin : L[i] ∈ L := List.getElem_mem il
      have live : t.slot (stepAt t (thash P w k) (c + q)).j = .live i := slot_live R.tab.ris at_i
      have tail : wpAny (model P w) A (searchRest a (.ref x) (thash P w k) false f es t (stepAt t (thash P w k) (c + q)).j i (stepAt t (thash P w k) (c + (q + 1)))) Q E s := by
        unfold searchRest
        rw [R.entry ip]
        apply wpAny_bind
        apply wpAny_holding
        apply wpAny_eqBool_tuple hu (R.tup _ pin) hx
        apply wpAny_bind
        apply wpAny_setState_of look dat R.fits
        dsimp only
        rw [Bool.false_and, if_neg Bool.false_ne_true, sameMem]
        dsimp only
        rw [if_pos rfl, live]
        simp only [R.entry ip]
        apply wpAny_bind
        apply wpAny_isSame_ref_self
        apply wpAny_bind
        apply wpAny_pure
        rw [if_pos rfl]
        dsimp only
        by_cases kk : L[i].2 = k
        · rw [if_pos (by simpa using kk)]
          exact wpAny_pure (yes (List.mem_map.mpr ⟨_, pin, kk⟩) i)
        · rw [if_neg (by simpa using kk)]
          refine again (c + (q + 1)) _ rfl (by omega) (by omega) fun j p hp e => ?_
          obtain ⟨d, d1, d2, d3⟩ := still j p hp e
          refine ⟨d, ?_, d2, d3⟩
          rcases Nat.lt_trichotomy d (c + q) with z | z | z
          · exact absurd ((hashes hp).trans (by rw [e])) (passed (d - c) j (by omega) (by rw [show c + (d - c) = d by omega]; exact d3))
          · subst z
            have both := (slot_live R.tab.ris d3).symm.trans live
            injection both with both
            subst both
            rw [ip] at hp
            cases hp
            exact absurd e kk
          · omega
      dsimp only
      by_cases led : t.led = true
      · rw [if_neg (by rw [led]; decide)]
        exact tail
      · rw [if_pos (by simpa using led)]
        refine wpAny_bind (seen_tup (ys := (es.filter fun e => e.1 == thash P w k).toList.map fun e => e.2) hx ?_ ?_)
        · intro y hy
          have hy' := List.mem_map.mp hy
          obtain ⟨e, he, rfl⟩ := hy'
          have h2 : e ∈ es.toList := by
            have : e ∈ es ∧ e.1 = thash P w k := by simpa using he
            simpa using this.1
          rw [R.rows] at h2
          obtain ⟨p, hp, rfl⟩ := List.mem_map.mp h2
          exact ⟨p.2, p.1, rfl, R.tup p hp⟩
        · rw [if_neg Bool.false_ne_true]
          exact tail
    · have e1 : t.probe (fun i => (es[i]?.map (·.1)).getD 0) (thash P w k) (stepAt t (thash P w k) c) = some (.empty (stepAt t (thash P w k) (c + (K - c))).j none) := met
      rw [e1]
      refine wpAny_pure (no (fun there => ?_) _)
      obtain ⟨p, hp, e⟩ := List.mem_map.mp there
      obtain ⟨i, hi, rfl⟩ := List.getElem_of_mem hp
      have hp' : L[i]? = some L[i] := List.getElem?_eq_getElem hi
      obtain ⟨d, d1, d2, d3⟩ := still i _ hp' e
      exact passed (d - c) i (by omega) (by rw [show c + (d - c) = d by omega]; exact d3) ((hashes hp').trans (by rw [e]))
/-- is the tuple k in the set -/
theorem ask_at (R : SetTR P w s.heap a L es ep t) {x : Addr} {k : List Int} (hx : IsT P w s.heap k x) (hu : A.units < cLine) {Q : Option Nat → Shared → Prop} (q : ∀ r : Option Nat, r.isSome = decide (k ∈ L.map (·.2)) → Q r s) : wpAny (model P w) A (setFind a (.ref x) (thash P w k)) Q E s := by
  obtain ⟨o, look, _, dat⟩ := R.ob
  obtain ⟨K, h1, h2, h3⟩ := R.tab.first (by rw [List.length_map]; have := R.room; omega) (thash P w k)
  have few : 10 * SetTable.turns t.mask ≤ 1420 := by
    unfold SetTable.turns
    rcases R.tab.mok with e | e | e <;> rw [e] <;> decide
  unfold setFind setFindIn
  apply wpAny_bind
  apply wpAny_setState_of look dat R.fits
  dsimp only
  rw [if_neg (by simp [byScan, Value.scannable])]
  refine wpAny_bind ?_
  unfold setSearch
  refine ask_from R hx hu h1 h2 h3 (fun there i => wpAny_pure (q (some i) (by rw [decide_eq_true there]; rfl))) (fun out j => wpAny_pure (q none (by rw [decide_eq_false out]; rfl))) 100000 0 none rfl (Nat.zero_le _) (by omega) fun i p hp e => ?_
  have hh : (L.map fun p => thash P w p.2)[i]? = some (thash P w k) := by rw [List.getElem?_map, hp, ← e]; rfl
  have il : i < t.place.toList.length := by
    have u1 := (List.getElem?_eq_some_iff.mp hp).1
    have u2 := R.tab.sz
    rw [List.length_map] at u2
    rw [Array.length_toList]
    omega
  have at_ := List.getElem?_eq_getElem il
  obtain ⟨d, d1, d2⟩ := R.tab.before h2 hh at_
  exact ⟨d, Nat.zero_le _, d1, by rw [at_]; exact congrArg some d2.symm⟩
end
/-! ### set(), add, in -/
section
variable {X : Cx}
def rSet0T (P : Program) (w : World) : List V → Hp → VK → Prop := fun xs H Q => xs = [] ∧ ∀ p, H p = none → Q (.ref p) (upd H p (SetTO P w p []))
theorem cr_set0T : CallR X (.type "set") (rSet0T X.prog X.w) := by
  intro pins s σ H xs us Q I rv ⟨e, q⟩
  subst e
  cases rv
  apply setR_new
  intro o
  have fresh := (setTR_fresh (P := X.prog) (w := X.w) (h := s.heap.push { cls := .type "set", dict := none, data := .set #[] 0 (.fresh 0 0 (!X.w.params.followText "set-order")) }) (a := s.heap.objs.size) (Heap.get?_push_size _ rfl)).t0
  exact ⟨.ref _, _, I.laid (t' := s.toks) (fun _ _ z => Heap.get?_push_of_some _ z) (Nat.le_refl _) (setTO_new fresh), rfl, q _ (I.hok.fresh (Nat.le_refl _))⟩
/-- the tuple at b, of the numbers k, is added to the set at a -/
def rSAddT (K : PySem.W.Frag) (P : Program) (w : World) : V → List V → Hp → VK → Prop := fun x xs H Q => ∃ (a b : Addr) (k : List Int) (L : List (Addr × List Int)), x = .ref a ∧ xs = [.ref b] ∧ H a = some (SetTO P w a L) ∧ SqT K H b (k.map V.int) ∧ (∀ p ∈ L, SqT K H p.1 (p.2.map V.int)) ∧ L.length + 1 < 64 ∧
  ∀ L', (k ∈ L.map (·.2) → L' = L) → (k ∉ L.map (·.2) → L'.Perm ((b, k) :: L)) → Q .non (upd H a (SetTO P w a L'))
theorem mt_saddT (hu : X.A.units + 64 < cLine) : MtR X "set.add" (rSAddT X.K X.prog X.w) := by
  intro pins s σ H x xs v us Q I rx rv ⟨a, b, k, L, e1, e2, ha, hb, hL, few, q⟩
  subst e1 e2
  cases rx
  cases rv with
  | cons ry rt =>
    cases rt
    cases ry
    have S0 : SetT0 X.prog X.w s.heap a L := (I.hok a _ ha).1
    obtain ⟨es, ep, t, R⟩ := S0.full fun p hp => I.isT (hL p hp)
    have hx := I.isT hb
    obtain ⟨o, look, ex, dat⟩ := R.ob
    have ty : s.TypeIs (.ref a) "set" := ⟨o, look, ex.1⟩
    refine wpAny_call_entry F.slot_set_add ty F.entry_set_add ?_ (ha := F.args_set_add_2 _ _)
    unfold Builtin.«set.add» Builtin.Frozenset.oneOther Builtin.Frozenset.addrOf
    dsimp only [List.isEmpty_nil]
    simp only [bind_assoc, pure_bind]
    apply wpAny_bind
    unfold setAdd
    apply wpAny_holding
    apply wpAny_bind
    have room : X.A.in1.units < cLine := by show X.A.units + 1 < cLine; omega
    apply wpAny_pyHash_tuple room hx
    refine add_at (s := { s with toks := s.toks + (k.length + 1) }) R hx room few fun r h' L' es' ep' t' sb R' c1 c2 => ?_
    show wpAny _ _ (ret Value.none) _ _ _
    refine wpAny_pure ⟨_, rfl, .non, upd H a (SetTO X.prog X.w a L'), ?_, rfl, q L' c1 c2⟩
    obtain ⟨o', look', _⟩ := R'.ob
    exact I.write (e := a) (t' := s.toks + (k.length + 1)) (by rw [ha]; trivial) (.inl rfl) (fun c u hc z => (sb.2 c hc).trans z) ⟨o', look'⟩ (setTO_new R'.t0)
/-- is the tuple at b in the set at a -/
def rSInT (K : PySem.W.Frag) (P : Program) (w : World) : R2 := fun x y H Q => ∃ (a b : Addr) (k : List Int) (L : List (Addr × List Int)), x = .ref b ∧ y = .ref a ∧ H a = some (SetTO P w a L) ∧ SqT K H b (k.map V.int) ∧ (∀ p ∈ L, SqT K H p.1 (p.2.map V.int)) ∧ Q (.bl (decide (k ∈ L.map (·.2)))) H
theorem op_inT (hu : X.A.units + 64 < cLine) : OpR X (compareOp .In) (rSInT X.K X.prog X.w) := by
  intro pins s σ H x y v u Q I rx ry ⟨a, b, k, L, e1, e2, ha, hb, hL, q⟩
  subst e1 e2
  cases rx
  cases ry
  have S0 : SetT0 X.prog X.w s.heap a L := (I.hok a _ ha).1
  obtain ⟨es, ep, t, R⟩ := S0.full fun p hp => I.isT (hL p hp)
  have hx := I.isT hb
  obtain ⟨o, look, ex, dat⟩ := R.ob
  have ty : s.TypeIs (.ref a) "set" := ⟨o, look, ex.1⟩
  show wpAny _ _ (contains (.ref a) (.ref b) >>= fun r => pure (Value.bool r)) _ _ s
  apply wpAny_bind
  unfold contains
  apply wpAny_holding
  apply wpAny_bind
  apply wpAny_specialOf ty F.slot_set_contains.lookup
  show wpAny _ _ (if (some (Value.builtin "set.__contains__") == some Value.none) = true then _ else _) _ _ s
  rw [beq_builtin_none, if_neg Bool.false_ne_true]
  have room : X.A.in1.units < cLine := by show X.A.units + 1 < cLine; omega
  refine wpAny_bind (wpAny_callSpecialUnlessNone?_slot (name := Str.ofString "__contains__") ty F.slot_set_contains ?_)
  refine wpAny_call_entry F.slot_set_contains ty entry_set_contains ?_ (ha := F.args_set_contains_2 _ _)
  unfold Builtin.«frozenset.__contains__» Builtin.Frozenset.oneOther Builtin.Frozenset.addrOf Builtin.Frozenset.withSetAsKey setContains
  dsimp only [List.isEmpty_nil]
  simp only [bind_assoc, pure_bind]
  apply wpAny_bind
  apply wpAny_tryCatch
  apply wpAny_holding
  apply wpAny_bind
  apply wpAny_pyHash_tuple room hx
  apply wpAny_bind
  refine ask_at (s := { s with toks := s.toks + (k.length + 1) }) R hx room fun r hr => wpAny_pure ?_
  show wpAny _ _ (ret (Value.bool r.isSome)) _ _ _
  rw [hr]
  exact wpAny_pure ⟨_, rfl, wpAny_truthy_bool (wpAny_pure ⟨.bl _, H, I.tok _, rfl, q⟩)⟩
def tSAddT (K : PySem.W.Frag) (P : Program) (w : World) (to : TE) (t : TA) : TE := fun σ H Q => to σ H fun x H1 => (∃ a L, x = V.ref a ∧ H1 a = some (SetTO P w a L)) ∧ t σ H1 fun xs H2 => rSAddT K P w x xs H2 Q
/-- found.add(t), t a tuple of integers -/
theorem pe_saddT {o e : Expr} {es : List Expr} {to : TE} {t : TA} {apos cpos : Pos} (hu : X.A.units + 64 < cLine) (po : PE X o to) (pa : PA X (e :: es) t) (b1 : attributeBase o "add" X.env (eval o X.env) = eval o X.env := by rfl)
    (b2 : ((backTo cpos (starEach (e :: es) X.env)).all (fun x => !x.1) && (backToKw cpos (keywordEach [] X.env)).all (fun x => x.1.isSome) && decide ((e :: es).length + ([] : List Keyword).length + (if ([] : List Keyword).isEmpty then 0 else 1) < 30)) = true := by rfl)
    (b3 : (apos.endLine == cpos.line) = true := by rfl) (b4 : starEach (e :: es) X.env = (false, eval e X.env) :: starEach es X.env := by rfl) (b5 : (backTo cpos (starEach es X.env)).any (·.1) = false := by rfl) : PE X (.Call (.Attribute o "add" apos) (e :: es) [] cpos) (tSAddT X.K X.prog X.w to t) := by
  constructor
  intro pins s σ H Q I q
  refine wpAny_Call_method_late b1 b2 b3 rfl (thn (po.run pins s σ H _ I q) fun v s1 z => ?_)
  obtain ⟨x, H1, I1, r1, ⟨a, L, e1, ha⟩, q1⟩ := z
  subst e1
  cases r1
  obtain ⟨es', ep, tt, ⟨ob, look, ex, dat⟩, _⟩ := (show SetT0 X.prog X.w s1.heap a L from (I1.hok a _ ha).1).ex
  refine ⟨"set", "set.add", F.plainAttrs_set, F.slot_set_add, F.type_set_add, ⟨ob, look, ex.1⟩, fun c hc => by cases hc; exact ⟨ob, look, ex.2.1⟩, ?_⟩
  have args := pa.run cpos pins s1 σ H1 _ I1 q1
  rw [b4] at args ⊢
  refine Calls.callWith_builtin (by show (false || (backTo cpos (starEach es X.env)).any (fun x => x.1)) = false; rw [b5]; rfl) (Calls.evalArgs_plain (thn args fun us s2 z => ?_))
  obtain ⟨vs, H2, I2, r2, q2⟩ := z
  exact mt_saddT hu pins s2 σ H2 (.ref a) vs (.ref a) us Q I2 rfl r2 q2
end
end FW

set_option maxRecDepth 100000
set_option maxHeartbeats 4000000
/-! sorted of a tuple of pairs of integers -/
namespace FW
open PySem L2 PySem.Spec PyProof.Rows
section
variable {prog : Program} {w : World} {A : Around} {E : Value → Shared → Prop} {s : Shared}
def gathered (h : Heap) (vs : List Value) : Heap := (h.push (seqObj "list" #[] 0)).update h.objs.size (Obj.mapSeq (· ++ vs.toArray))
theorem collect_tup {l : Addr} {vs : List Value} {Q : List Value → Shared → Prop} (hl : s.heap.IsTuple l vs.toArray) (hz : vs.length ≤ sizeLine) (q : Q vs { s with heap := gathered s.heap vs }) : wpAny (model prog w) A (collect (.ref l)) Q E s := by
  obtain ⟨o, look, cls, n, dat⟩ := id hl
  unfold collect
  apply wpAny_bind
  apply wpAny_runValue
  apply codeAny_builtin entry_proto_collect'
  show wpAny _ _ (newList [] >>= fun r => again (.builtin "list.__iadd__" ⟨[r, .ref l], []⟩)) _ _ s
  apply wpAny_bind
  refine wpAny_newList (wpAny_pure ⟨Code.quiet_builtin _ (by decide +kernel), codeAny_builtin entry_list_iadd' ?_⟩)
  show wpAny _ _ (Builtin.List.listExtendWith (.ref s.heap.objs.size) (.ref l) (.ref s.heap.objs.size)) _ _ { s with heap := s.heap.push (seqObj "list" #[] 0) }
  have look' : (s.heap.push (seqObj "list" #[] 0)).get? l = some o := Heap.get?_push_of_some _ look
  unfold Builtin.List.listExtendWith
  refine wpAny_bind (wpAny_typeOf (T := "tuple") ⟨o, look', cls⟩ ?_)
  rw [if_pos (by rw [show (Value.type "tuple" == Value.type "tuple") = true from rfl, Bool.or_true])]
  have mine : (s.heap.push (seqObj "list" #[] 0)).get? s.heap.objs.size = some (seqObj "list" #[] 0) := Heap.get?_push_size _ rfl
  apply wpAny_bind
  apply listItems_at look' dat
  apply wpAny_bind
  apply listItems_at mine rfl
  rw [if_neg (by simp)]
  apply wpAny_bind
  refine listUpdate_at mine rfl ?_ (Nat.zero_le _) (by rw [Array.size_append, List.size_toArray]; show 0 + vs.length ≤ _; omega)
  apply wpAny_pure
  show wpAny (model prog w) A (load s.heap.objs.size >>= fun o => match o.data with
    | .seq xs _ => pure xs.toList
    | _ => unsupported "internal:collect") Q E { s with heap := gathered s.heap vs }
  apply wpAny_bind
  apply wpAny_load (get?_update_seq mine _)
  have e : ((#[] : Array Value) ++ vs.toArray).toList = vs := by simp
  show wpAny _ _ (pure ((#[] : Array Value) ++ vs.toArray).toList) Q E _
  rw [e]
  exact wpAny_pure q
/-- sorted(l), l a tuple of pairs of integers -/
theorem sorted_tupP {l : Addr} {vs : List Value} {k : Value → Int × Int} {Q : Value → Shared → Prop} (hl : s.heap.IsTuple l vs.toArray) (hz : vs.length ≤ sizeLine) (hp : ∀ v ∈ vs, Srt.IsPair s.heap v (k v).1 (k v).2)
    (q : ∀ (h' : Heap) (d : Addr) (out : List Value), SrtO.Srtd (fun v u => SrtO.lexB (k v) (k u)) out → SrtO.Stb (fun v u => SrtO.lexB (k v) (k u)) out vs → (∀ b o, s.heap.get? b = some o → h'.get? b = some o) → s.heap.objs.size ≤ d → (∃ n, h'.get? d = some (seqObj "list" out.toArray n)) → Q (.ref d) { s with heap := h' }) :
    wpAny (model prog w) A (call (.builtin "sorted") [.ref l]) Q E s := by
  apply Calls.call_function_entry kind_sorted plain_sorted entry_sorted (args_sorted1 _)
  unfold Builtin.«sorted»
  apply wpAny_bind (m := checkCount "sorted" 1 1 _)
  apply wpAny_pure
  apply wpAny_bind
  apply collect_tup hl hz
  apply wpAny_bind
  refine wpAny_newList ?_ hz
  have size : (gathered s.heap vs).objs.size = s.heap.objs.size + 1 := by unfold gathered; rw [Heap.size_update, size_push']
  have it : ((gathered s.heap vs).push (seqObj "list" vs.toArray 0)).get? (s.heap.objs.size + 1) = some (seqObj "list" vs.toArray 0) := by rw [← size]; exact Heap.get?_push_size _ rfl
  have keep : ∀ b o, s.heap.get? b = some o → b ≠ s.heap.objs.size + 1 ∧ ((gathered s.heap vs).push (seqObj "list" vs.toArray 0)).get? b = some o := fun b o e => by
    have lt : b < s.heap.objs.size := Heap.lt_size e
    exact ⟨Nat.ne_of_lt (Nat.lt_succ_of_lt lt), Heap.get?_push_of_some _ (by unfold gathered; rw [Heap.get?_update_ne _ _ _ _ (Nat.ne_of_lt lt)]; exact Heap.get?_push_of_some _ e)⟩
  show wpAny _ _ _ _ _ { s with heap := (gathered s.heap vs).push (seqObj "list" vs.toArray 0) }
  rw [size]
  apply wpAny_bind
  apply wpAny_holding
  refine wpAny_call_entry slot_list_sort ⟨_, it, rfl⟩ entry_list_sort (SrtO.list_sort_ord (SrtO.swo_lex k) it hz (fun two => ?_) fun out hs hb => ⟨_, rfl, ?_⟩) (ha := args_list_sort _)
  · refine SrtO.pairs_sortableO (s := { s with heap := (gathered s.heap vs).push (seqObj "list" vs.toArray 0) }) (by omega) (fun v hv => (hp v hv).keeps fun b o e _ => (keep b o e).2) fun o e c => ?_
    rw [show ((gathered s.heap vs).push (seqObj "list" vs.toArray 0)).get? (s.heap.objs.size + 1) = some o from e] at it
    cases it
    exact absurd (Value.type.inj c) (by decide)
  · exact wpAny_pure ⟨_, rfl, q _ _ out hs hb (fun b o e => sortedAll_old e) (Nat.le_succ _) (sortedAll_at s.heap vs out.toArray)⟩
end
theorem pair_one {h : Heap} {v : Value} {p q : Int × Int} (a : Srt.IsPair h v p.1 p.2) (b : Srt.IsPair h v q.1 q.2) : p = q := by
  obtain ⟨a1, o1, t1, u1, n1, e1, g1, _, d1⟩ := a
  obtain ⟨a2, o2, t2, u2, n2, e2, g2, _, d2⟩ := b
  subst e1
  cases e2
  rw [g1] at g2
  cases g2
  rw [d1] at d2
  injection d2 with d2 _
  have d3 := congrArg Array.toList d2
  simp only [List.cons.injEq, Value.int.injEq] at d3
  exact Prod.ext d3.1.1 d3.2.1.1
open Classical in
noncomputable def pairAt (h : Heap) (v : Value) : Int × Int := if e : ∃ p : Int × Int, Srt.IsPair h v p.1 p.2 then e.choose else (0, 0)
theorem pairAt_eq {h : Heap} {v : Value} {p : Int × Int} (a : Srt.IsPair h v p.1 p.2) : pairAt h v = p := by
  unfold pairAt
  rw [dif_pos ⟨p, a⟩]
  exact pair_one (Exists.choose_spec (⟨p, a⟩ : ∃ p : Int × Int, Srt.IsPair h v p.1 p.2)) a
/-- sorted(xs), xs a tuple of the pairs ps: a new list of the same with their pairs, sorted -/
def rSortedPT (K : PySem.W.Frag) : List V → Hp → VK → Prop := fun vs H Q => ∃ (a : Addr) (xs : List V) (ps : List (Int × Int)), vs = [V.ref a] ∧ SqT K H a xs ∧ xs.length = ps.length ∧ (∀ (i : Nat) x p, xs[i]? = some x → ps[i]? = some p → ∃ t, x = V.ref t ∧ SqT K H t [.int p.1, .int p.2]) ∧
  ∀ (zs : List (V × (Int × Int))) q, zs.Perm (xs.zip ps) → (zs.map (·.2)).Pairwise (fun p q => SrtO.lexB q p = false) → H q = none → Q (.ref q) (upd H q (.lst (zs.map (·.1))))
theorem cr_sortedPT {X : Cx} : CallR X (.builtin "sorted") (rSortedPT X.K) := by
  intro pins s σ H vs us Q I r ⟨a, xs, ps, e, hs, hn, hx, q⟩
  subst e
  obtain ⟨u, rfl, ru⟩ := vals1 r
  obtain rfl : u = Value.ref a := ru
  obtain ⟨its, rv, hl, hz⟩ := I.tuple hs
  have refs : ∀ x ∈ xs, ∃ t, x = V.ref t := fun x m => by
    obtain ⟨i, hi, rfl⟩ := List.getElem_of_mem m
    obtain ⟨t, e, _⟩ := hx i _ ps[i] (List.getElem?_eq_getElem hi) (List.getElem?_eq_getElem (by omega))
    exact ⟨t, e⟩
  obtain ⟨e1, e2⟩ := refs_back rv refs
  have il : its.length = ps.length := by rw [← hn, rv.length]
  have each : ∀ (i : Nat) v p, its[i]? = some v → ps[i]? = some p → Srt.IsPair s.heap v p.1 p.2 := fun i v p hv hp => by
    have hx1 : xs[i]? = some (backV v) := by rw [e1, List.getElem?_map, hv]; rfl
    obtain ⟨t, e, ht⟩ := hx i _ p hx1 hp
    obtain ⟨t', rfl⟩ := e2 v (List.mem_of_getElem? hv)
    cases e
    obtain ⟨its2, r2, ⟨o, ho, hc, n, hd⟩, _⟩ := I.tuple ht
    obtain ⟨u1, u2, rfl, ri, rj⟩ := vals2 r2
    obtain ⟨t1, rfl⟩ := ri
    obtain ⟨t2, rfl⟩ := rj
    exact ⟨_, o, t1, t2, n, rfl, ho, hc, hd⟩
  have pairs : xs.zip ps = its.map fun v => (backV v, pairAt s.heap v) := by
    refine List.ext_getElem? fun i => ?_
    rw [List.getElem?_map]
    cases hv : its[i]? with
    | none =>
      have hlt : its.length ≤ i := List.getElem?_eq_none_iff.mp hv
      rw [List.getElem?_eq_none (by rw [List.length_zip]; omega)]
      rfl
    | some v =>
      have hlt := (List.getElem?_eq_some_iff.mp hv).1
      have hp : ps[i]? = some ps[i] := List.getElem?_eq_getElem (by omega)
      have hx1 : xs[i]? = some (backV v) := by rw [e1, List.getElem?_map, hv]; rfl
      rw [List.getElem?_zip_eq_some.mpr (show xs[i]? = some (backV v, ps[i]).1 ∧ ps[i]? = some (backV v, ps[i]).2 from ⟨hx1, hp⟩)]
      exact congrArg (fun p => some (backV v, p)) (pairAt_eq (each i v _ hv hp)).symm
  refine sorted_tupP (k := pairAt s.heap) hl (by rw [← rv.length]; exact hz) (fun v hv => ?_) fun h' d out h1 h2 kp hd hn2 => ?_
  · obtain ⟨i, hi, rfl⟩ := List.getElem_of_mem hv
    have := each i its[i] ps[i] (List.getElem?_eq_getElem hi) (List.getElem?_eq_getElem (by omega))
    rw [pairAt_eq this]
    exact this
  · have h3 : ∀ u ∈ out, ∃ a, u = Value.ref a := fun u hu => e2 u (h2.perm.mem_iff.mp hu)
    obtain ⟨n, hn2⟩ := hn2
    have ez : (out.map fun v => (backV v, pairAt s.heap v)).map (·.1) = out.map backV := by rw [List.map_map]; rfl
    have ep : (out.map fun v => (backV v, pairAt s.heap v)).map (·.2) = out.map (pairAt s.heap) := by rw [List.map_map]; rfl
    have done := q (out.map fun v => (backV v, pairAt s.heap v)) d (by rw [pairs]; exact h2.perm.map _) (by rw [ep]; exact List.pairwise_map.mpr h1) (I.hok.fresh hd)
    rw [ez] at done
    exact ⟨.ref d, upd H d (.lst (out.map backV)), I.laid (t' := s.toks) kp hd ⟨by rw [List.length_map, h2.len, ← rv.length]; exact hz, out, n, vals_back h3, hn2⟩, rfl, done⟩
end FW

set_option maxRecDepth 100000
set_option maxHeartbeats 4000000
/-! max of a dict's values -/
namespace FW
open PySem L2 PySem.Spec PyProof.Rows
/-- max(o.values()), a dict with int values, one at least -/
def tMaxVals (td : TE) : TE := fun σ H Q => td σ H fun x H1 => ∃ (a : Addr) (kvs : List (Key × V)) (ns : List Int), x = V.ref a ∧ H1 a = some (.dK kvs) ∧ kvs.map (·.2) = ns.map V.int ∧ ns ≠ [] ∧ ∀ m, m ∈ ns → (∀ y ∈ ns, y ≤ m) → Q (.int m) H1
theorem pe_maxVals {X : Cx} {o : Expr} {p pos apos mpos : Pos} {td : TE} (calm : X.calm = true) (gl : Gl X "max") (free : X.mg "max" = none) (po : PE X o td) (b1 : attributeBase o "values" X.env (eval o X.env) = eval o X.env := by rfl) (b2 : (apos.endLine == mpos.line) = true := by rfl)
    (b3 : starEach [Expr.Call (.Attribute o "values" apos) [] [] mpos] X.env = [(false, eval (Expr.Call (.Attribute o "values" apos) [] [] mpos) X.env)] := by rfl) : PE X (.Call (.Name "max" p) [.Call (.Attribute o "values" apos) [] [] mpos] [] pos) (tMaxVals td) := by
  constructor
  intro pins s σ H Q I start
  refine wpAny_Call_Name_kw (ld_blt I gl free (u := .builtin "max") (by first | rfl | decide +kernel) ?_ (by first | decide +kernel | decide) (by first | decide +kernel | decide))
  rw [b3]
  refine PySem.callWith_builtin1 (wpAny_Call_method0_late b1 b2 (thn (po.run pins s σ H _ I start) fun v s1 z => ?_))
  obtain ⟨x, H1, I1, rx, a, kvs, ns, ex, at_a, vals, some1, q⟩ := z
  subst ex
  cases (show v = Value.ref a from rx)
  obtain ⟨_, nosys, ws, rel, dict⟩ := dk_of I1.hok at_a
  obtain ⟨ep, dat⟩ := dict.dictAt
  obtain ⟨ob, es, look, exact_, hdat, _⟩ := id dat
  refine ⟨"dict", "dict.values", F.plainAttrs_dict, F.slot_dict_values, F.type_dict_values, ⟨ob, look, exact_.1⟩, fun b z => by cases z; exact ⟨ob, look, exact_.2.1⟩, Calls.callWith_builtin rfl (PySem.evalArgs_none (call_meetsIn F.slot_dict_values ⟨ob, look, exact_.1⟩ F.entry_dict_values (F.args_dict_values_1 _) (meets_dict_values (mixKind X.prog X.w) a nosys) ⟨⟨ws, dict⟩, ?_⟩))⟩
  have grow : ∀ b u, s1.heap.get? b = some u → (s1.heap.push { cls := .type "dict_values", data := .fields #[.ref a] }).get? b = some u := fun b u z => Heap.get?_push_of_some _ z
  have size : (s1.heap.push { cls := .type "dict_values", data := .fields #[.ref a] }).objs.size = s1.heap.objs.size + 1 := Heap.size_push _ _
  have below : a < s1.heap.objs.size := Heap.lt_size look
  have many : ws.length = ns.length := by
    have z := congrArg List.length vals
    rw [List.length_map, List.length_map] at z
    rw [← z, KV.length rel]
  have one1 : 0 < ws.length := by rw [many]; exact List.length_pos_iff.mpr some1
  have item : ∀ (i : Nat) (u : Value), (∃ k, ws[i]? = some (k, u)) → ∃ t, u = Value.int (ns.getD i 0) t := fun i u ⟨k, hk⟩ => by
    obtain ⟨y, h1, t2⟩ := KV.at' rel hk
    have h2 : (ns.map V.int)[i]? = some y := by rw [← vals, List.getElem?_map, h1]; rfl
    rw [List.getElem?_map] at h2
    obtain ⟨j, hj, rfl⟩ := Option.map_eq_some_iff.mp h2
    obtain ⟨t, rfl⟩ := t2
    exact ⟨t, by rw [List.getD_eq_getElem?_getD, hj]; rfl⟩
  refine call_max_walk (wpAny_pyIter_values (v := s1.heap.objs.size) (d := a) ⟨_, Heap.get?_push_size _ rfl, rfl, rfl⟩ (dat.keep grow) ?_)
  refine ⟨_, _, _, _, _, _, _, rfl, Walks.dictValues (knd := mixKind X.prog X.w) (A := X.A.in1) (I.ok.hd calm) (s1.heap.push { cls := .type "dict_values", data := .fields #[.ref a] }).objs.size a (by rw [size]; exact Nat.ne_of_lt (Nat.lt_succ_of_lt below)) ws ep,
    ⟨⟨_, Heap.get?_push_size _ rfl, rfl, rfl⟩, (dat.keep grow).keep fun b u z => Heap.get?_push_of_some _ z⟩, fun b hb => ?_, one1, CmpOf.ints_gt (fun i => ns.getD i 0) item, fun u h' tk hP hk => ?_⟩
  · show b < ((s1.heap.push _).push _).objs.size
    rw [Heap.size_push, Heap.size_push]
    rw [size] at hb
    simp only [List.mem_cons, List.not_mem_nil, or_false] at hb
    rcases hb with z | z
    · rw [z]; exact Nat.lt_succ_self _
    · rw [z]; exact Nat.lt_succ_of_lt (Nat.lt_succ_of_lt below)
  · obtain ⟨t, rfl⟩ := item _ u hP
    obtain ⟨g1, g2⟩ := argBest_gt (fun i => ns.getD i 0) (ws.length - 1)
    have inside : argBest (fun i j => decide (ns.getD i 0 > ns.getD j 0)) (ws.length - 1) < ns.length := by
      have : argBest (fun i j => decide (ns.getD i 0 > ns.getD j 0)) (ws.length - 1) ≤ ws.length - 1 := g1
      omega
    refine ⟨.int _, H1, I1.kept (t' := tk) fun b u z => hk b u (fun z2 => ?_) (Heap.get?_push_of_some _ (grow b u z)), ⟨t, rfl⟩, q _ (PySem.getD_mem inside) fun y hy => ?_⟩
    · rw [List.mem_singleton.mp z2, size] at z
      exact absurd (Heap.lt_size z) (Nat.not_lt.mpr (Nat.le_succ _))
    · obtain ⟨i, hi, e⟩ := List.mem_iff_getElem.mp hy
      have e2 : ns.getD i 0 = y := by rw [List.getD_eq_getElem?_getD, List.getElem?_eq_getElem hi, ← e]; rfl
      rw [← e2]
      exact g2 i (by omega)
end FW

set_option maxRecDepth 100000
set_option maxHeartbeats 4000000
/-! values as trees: what a heap's values are, without addresses; what may change stands in a store of its own -/
namespace VL
open PySem L2 FW PyProof.Rows

/-- a value: a tree; `ref` is a thing that may change, or that nothing is known of -/
inductive D where
  | non | bl (b : Bool) | int (i : Int) | str (s : Str) | ty (n : String) | ref (a : Addr)
  | lst (xs : List D) | tup (xs : List D) | sq (xs : List D) | dic (ks : List Key) (xs : List D)
  | obj (C : Addr) (ns : List Str) (xs : List D) | exc (C : Addr) (ns : List Str) (xs : List D)
/-- what may change -/
inductive MO where
  | lst (xs : List D) | dic (ks : List Key) (xs : List D) | ins (C : Addr) (ns : List Str) (xs : List D) | raw (o : HO)
  /-- what holds tuples of numbers, that stay, at these places -/
  | rawT (o : HO) (L : List (Addr × List Int))
abbrev Mu := Addr → Option MO
def Mu.set (μ : Mu) (a : Addr) (m : MO) : Mu := fun b => if b = a then some m else μ b
def Mu.del (μ : Mu) (a : Addr) : Mu := fun b => if b = a then none else μ b
theorem Mu.same {μ : Mu} {a : Addr} {m : MO} : (μ.set a m) a = some m := by unfold Mu.set; rw [if_pos rfl]
theorem Mu.ne {μ : Mu} {a b : Addr} {m : MO} (h : b ≠ a) : (μ.set a m) b = μ b := by unfold Mu.set; rw [if_neg h]
theorem Mu.dsame {μ : Mu} {a : Addr} : (μ.del a) a = none := by unfold Mu.del; rw [if_pos rfl]
theorem Mu.dne {μ : Mu} {a b : Addr} (h : b ≠ a) : (μ.del a) b = μ b := by unfold Mu.del; rw [if_neg h]
theorem Mu.set_set {μ : Mu} {a : Addr} {m n : MO} : (μ.set a m).set a n = μ.set a n := by
  funext b; unfold Mu.set; split <;> rfl
theorem Mu.del_set {μ : Mu} {a : Addr} {m : MO} (h : μ a = none) : (μ.set a m).del a = μ := by
  funext b; unfold Mu.set Mu.del; split
  · rename_i e; rw [e]; exact h.symm
  · rename_i e; exact if_neg e

/-- a list that stays, at a; perhaps one that is the text's or the script -/
def AtL (K : PySem.W.Frag) (μ : Mu) (H : Hp) (a : Addr) (vs : List V) : Prop := μ a = none ∧ H a = some (.lst vs)
def AtS (K : PySem.W.Frag) (μ : Mu) (H : Hp) (a : Addr) (vs : List V) : Prop := (μ a = none ∧ Rd H a (.lst vs)) ∨ SqL K (fun _ => none) a vs
def AtT (K : PySem.W.Frag) (μ : Mu) (H : Hp) (a : Addr) (vs : List V) : Prop := (μ a = none ∧ H a = some (.tup vs)) ∨ SqT K (fun _ => none) a vs
mutual
inductive Is (K : PySem.W.Frag) (μ : Mu) (H : Hp) : V → D → Prop where
  | non : Is K μ H .non .non
  | bl (b : Bool) : Is K μ H (.bl b) (.bl b)
  | int (i : Int) : Is K μ H (.int i) (.int i)
  | str (s : Str) : Is K μ H (.str s) (.str s)
  | ty (n : String) : Is K μ H (.ty n) (.ty n)
  | ref (a : Addr) : Is K μ H (.ref a) (.ref a)
  | lst {a : Addr} {vs : List V} {ds : List D} : AtL K μ H a vs → IsAll K μ H vs ds → Is K μ H (.ref a) (.lst ds)
  | sq {a : Addr} {vs : List V} {ds : List D} : AtS K μ H a vs → IsAll K μ H vs ds → Is K μ H (.ref a) (.sq ds)
  | tup {a : Addr} {vs : List V} {ds : List D} : AtT K μ H a vs → IsAll K μ H vs ds → Is K μ H (.ref a) (.tup ds)
  | dic {a : Addr} {ks : List Key} {vs : List V} {ds : List D} : μ a = none → H a = some (.dK (ks.zip vs)) → ks.length = vs.length → IsAll K μ H vs ds → Is K μ H (.ref a) (.dic ks ds)
  | obj {a C dx : Addr} {ns : List Str} {vs : List V} {ds : List D} : μ a = none → H a = some (.ins C dx (ns.zip vs)) → ns.length = vs.length → IsAll K μ H vs ds → Is K μ H (.ref a) (.obj C ns ds)
  | exc {a C dd : Addr} {ns : List Str} {vs : List V} {ds : List D} : μ a = none → H a = some (ExT a (.ref C) (some dd)) → μ dd = none → H dd = some (.xd (ns.zip vs)) → ns.length = vs.length → IsAll K μ H vs ds → Is K μ H (.ref a) (.exc C ns ds)
inductive IsAll (K : PySem.W.Frag) (μ : Mu) (H : Hp) : List V → List D → Prop where
  | nil : IsAll K μ H [] []
  | cons {v : V} {vs : List V} {d : D} {ds : List D} : Is K μ H v d → IsAll K μ H vs ds → IsAll K μ H (v :: vs) (d :: ds)
end
/-- what is no part of the store stays, and becomes no part of it -/
def Step (μ : Mu) (H : Hp) (μ' : Mu) (H' : Hp) : Prop := ∀ a o, H a = some o → μ a = none → (∀ ps, o ≠ .tbl ps) → H' a = some o ∧ μ' a = none
theorem Step.refl (μ : Mu) (H : Hp) : Step μ H μ H := fun _ _ h m _ => ⟨h, m⟩
theorem Step.trans {μ μ1 μ2 : Mu} {H H1 H2 : Hp} (a : Step μ H μ1 H1) (b : Step μ1 H1 μ2 H2) : Step μ H μ2 H2 := fun x o h m n => by
  obtain ⟨h1, m1⟩ := a x o h m n
  exact b x o h1 m1 n
theorem AtL.sq {K : PySem.W.Frag} {μ : Mu} {H : Hp} {a : Addr} {vs : List V} (h : AtL K μ H a vs) : SqL K H a vs := SqL.of h.2
theorem AtS.sq {K : PySem.W.Frag} {μ : Mu} {H : Hp} {a : Addr} {vs : List V} (h : AtS K μ H a vs) : SqL K H a vs := by
  rcases h with ⟨_, h⟩ | h
  · exact .inl h
  · rcases h with (h | ⟨o, h⟩) | h
    · cases h
    · cases h
    · exact .inr h
theorem AtT.sq {K : PySem.W.Frag} {μ : Mu} {H : Hp} {a : Addr} {vs : List V} (h : AtT K μ H a vs) : SqT K H a vs := by
  rcases h with ⟨_, h⟩ | h
  · exact SqT.of h
  · rcases h with (h | ⟨o, h⟩) | h
    · cases h
    · cases h
    · exact .inr h
theorem Step.rd {μ μ' : Mu} {H H' : Hp} {a : Addr} {u : HO} (s : Step μ H μ' H') (m : μ a = none) (h : Rd H a u) (n : ∀ ps, u ≠ .tbl ps) : μ' a = none ∧ Rd H' a u := by
  rcases h with h | ⟨o, h⟩
  · exact ⟨(s _ _ h m n).2, .inl (s _ _ h m n).1⟩
  · exact ⟨(s _ _ h m nofun).2, .inr ⟨o, (s _ _ h m nofun).1⟩⟩
theorem AtL.step {K : PySem.W.Frag} {μ μ' : Mu} {H H' : Hp} {a : Addr} {vs : List V} (s : Step μ H μ' H') (h : AtL K μ H a vs) : AtL K μ' H' a vs := ⟨(s _ _ h.2 h.1 nofun).2, (s _ _ h.2 h.1 nofun).1⟩
theorem AtS.step {K : PySem.W.Frag} {μ μ' : Mu} {H H' : Hp} {a : Addr} {vs : List V} (s : Step μ H μ' H') (h : AtS K μ H a vs) : AtS K μ' H' a vs := by
  rcases h with ⟨m, h⟩ | h
  · exact .inl (s.rd m h nofun)
  · exact .inr h
theorem AtT.step {K : PySem.W.Frag} {μ μ' : Mu} {H H' : Hp} {a : Addr} {vs : List V} (s : Step μ H μ' H') (h : AtT K μ H a vs) : AtT K μ' H' a vs := by
  rcases h with ⟨m, h⟩ | h
  · exact .inl ⟨(s _ _ h m nofun).2, (s _ _ h m nofun).1⟩
  · exact .inr h
mutual
theorem Is.step {K : PySem.W.Frag} {μ μ' : Mu} {H H' : Hp} (s : Step μ H μ' H') : ∀ {d : D} {v : V}, Is K μ H v d → Is K μ' H' v d
  | _, _, .non => .non
  | _, _, .bl b => .bl b
  | _, _, .int i => .int i
  | _, _, .str x => .str x
  | _, _, .ty n => .ty n
  | _, _, .ref a => .ref a
  | _, _, .lst a i => .lst (a.step s) (IsAll.step s i)
  | _, _, .tup a i => .tup (a.step s) (IsAll.step s i)
  | _, _, .sq a i => .sq (a.step s) (IsAll.step s i)
  | _, _, .dic m h l i => .dic (s _ _ h m nofun).2 (s _ _ h m nofun).1 l (IsAll.step s i)
  | _, _, .obj m h l i => .obj (s _ _ h m nofun).2 (s _ _ h m nofun).1 l (IsAll.step s i)
  | _, _, .exc m h m2 h2 l i => .exc (s _ _ h m nofun).2 (s _ _ h m nofun).1 (s _ _ h2 m2 nofun).2 (s _ _ h2 m2 nofun).1 l (IsAll.step s i)
theorem IsAll.step {K : PySem.W.Frag} {μ μ' : Mu} {H H' : Hp} (s : Step μ H μ' H') : ∀ {ds : List D} {vs : List V}, IsAll K μ H vs ds → IsAll K μ' H' vs ds
  | _, _, .nil => .nil
  | _, _, .cons a b => .cons (Is.step s a) (IsAll.step s b)
end
section
variable {K : PySem.W.Frag} {μ : Mu} {H : Hp}
theorem IsAll.len : ∀ {vs : List V} {ds : List D}, IsAll K μ H vs ds → vs.length = ds.length
  | _, _, .nil => rfl
  | _, _, .cons _ b => by rw [List.length_cons, List.length_cons, IsAll.len b]
theorem IsAll.get : ∀ {vs : List V} {ds : List D} {i : Nat} {d : D}, IsAll K μ H vs ds → ds[i]? = some d → ∃ v, vs[i]? = some v ∧ Is K μ H v d
  | _, _, _, _, .nil, e => by simp at e
  | _, _, 0, _, .cons a _, e => by simp at e; subst e; exact ⟨_, rfl, a⟩
  | _, _, i + 1, _, .cons _ b, e => by
    obtain ⟨v, e1, h⟩ := IsAll.get (i := i) b (by simpa using e)
    exact ⟨v, by simpa using e1, h⟩
theorem IsAll.app : ∀ {vs us : List V} {ds es : List D}, IsAll K μ H vs ds → IsAll K μ H us es → IsAll K μ H (vs ++ us) (ds ++ es)
  | _, _, _, _, .nil, h => h
  | _, _, _, _, .cons a b, h => .cons a (IsAll.app b h)
theorem IsAll.take : ∀ {vs : List V} {ds : List D} (n : Nat), IsAll K μ H vs ds → IsAll K μ H (vs.take n) (ds.take n)
  | _, _, 0, _ => by simp; exact .nil
  | _, _, _ + 1, .nil => .nil
  | _, _, n + 1, .cons a b => .cons a (IsAll.take n b)
theorem IsAll.drop : ∀ {vs : List V} {ds : List D} (n : Nat), IsAll K μ H vs ds → IsAll K μ H (vs.drop n) (ds.drop n)
  | _, _, 0, h => h
  | _, _, _ + 1, .nil => .nil
  | _, _, n + 1, .cons _ b => IsAll.drop n b
theorem IsAll.set {v : V} {d : D} (h : Is K μ H v d) : ∀ {vs : List V} {ds : List D} (i : Nat), IsAll K μ H vs ds → IsAll K μ H (vs.set i v) (ds.set i d)
  | _, _, _, .nil => .nil
  | _, _, 0, .cons _ b => .cons h b
  | _, _, i + 1, .cons a b => .cons a (IsAll.set h i b)
theorem IsAll.erase : ∀ {vs : List V} {ds : List D} (i : Nat), IsAll K μ H vs ds → IsAll K μ H (vs.eraseIdx i) (ds.eraseIdx i)
  | _, _, _, .nil => .nil
  | _, _, 0, .cons _ b => b
  | _, _, i + 1, .cons a b => .cons a (IsAll.erase i b)
theorem IsAll.rev {vs : List V} {ds : List D} (h : IsAll K μ H vs ds) : IsAll K μ H vs.reverse ds.reverse := by
  have go : ∀ {vs : List V} {ds : List D} {us : List V} {es : List D}, IsAll K μ H vs ds → IsAll K μ H us es → IsAll K μ H (vs.reverseAux us) (ds.reverseAux es) := by
    intro vs
    induction vs with
    | nil => intro ds us es h g; cases h; exact g
    | cons v vs ih => intro ds us es h g; cases h with | @cons _ _ d ds a b => exact ih (ds := ds) (us := v :: us) (es := d :: es) b (.cons a g)
  exact go h .nil
theorem IsAll.rep {vs : List V} {ds : List D} (h : IsAll K μ H vs ds) : ∀ k : Nat, IsAll K μ H (List.replicate k vs).flatten (List.replicate k ds).flatten
  | 0 => .nil
  | k + 1 => by rw [List.replicate_succ, List.replicate_succ, List.flatten_cons, List.flatten_cons]; exact h.app (IsAll.rep h k)
theorem IsAll.dropLast {vs : List V} {ds : List D} (h : IsAll K μ H vs ds) : IsAll K μ H vs.dropLast ds.dropLast := by
  rw [List.dropLast_eq_take, List.dropLast_eq_take, h.len]; exact h.take _
theorem isAll_ints : ∀ ns : List Int, IsAll K μ H (ns.map V.int) (ns.map D.int)
  | [] => .nil
  | n :: ns => .cons (.int n) (isAll_ints ns)
theorem vs_ints : ∀ {ns : List Int} {vs : List V}, IsAll K μ H vs (ns.map D.int) → vs = ns.map V.int
  | [], _, .nil => rfl
  | n :: ns, _, .cons (.int _) b => by rw [vs_ints b]; rfl
theorem vs_strs : ∀ {ns : List Str} {vs : List V}, IsAll K μ H vs (ns.map D.str) → vs = ns.map V.str
  | [], _, .nil => rfl
  | n :: ns, _, .cons (.str _) b => by rw [vs_strs b]; rfl
theorem vs_bls : ∀ {ns : List Bool} {vs : List V}, IsAll K μ H vs (ns.map D.bl) → vs = ns.map V.bl
  | [], _, .nil => rfl
  | n :: ns, _, .cons (.bl _) b => by rw [vs_bls b]; rfl
end
/-- tables of code objects stay where an object that is none is changed -/
theorem tabs_extC {T : List (Addr × Str)} {H H' : Hp} {x : Addr} {o : HO} (t : LamX.Tabs T H) (hx : H x = some o) (n1 : ∀ ps, o ≠ .tbl ps) (n2 : ∀ c q, o ≠ LamX.CodeO c q) (e : FW.Ext x H H') : LamX.Tabs T H' := by
  intro p hp
  obtain ⟨ps, t1, t2, t3⟩ := t p hp
  refine ⟨ps, e _ _ (fun z => n1 ps (by rw [z, hx] at t1; exact Option.some.inj t1)) t1, t2, fun pos cv hcv => ?_⟩
  obtain ⟨d, e1, e2⟩ := t3 pos cv hcv
  refine ⟨d, e1, e _ _ (fun z => ?_) e2⟩
  rw [z, hx] at e2
  exact n2 _ _ (Option.some.inj e2)
/-- how a part of the store stands in the heap -/
def MOk (K : PySem.W.Frag) (μ : Mu) (H : Hp) (a : Addr) : MO → Prop
  | .lst ds => ∃ vs, H a = some (.lst vs) ∧ IsAll K μ H vs ds
  | .dic ks ds => ∃ vs, H a = some (.dK (ks.zip vs)) ∧ ks.length = vs.length ∧ IsAll K μ H vs ds
  | .ins C ns ds => ∃ dx vs, H a = some (.ins C dx (ns.zip vs)) ∧ ns.length = vs.length ∧ IsAll K μ H vs ds
  | .raw o => H a = some o ∧ (∀ ps, o ≠ .tbl ps) ∧ (∀ c q, o ≠ LamX.CodeO c q) ∧ ∃ φ, o = .ext φ
  | .rawT o L => (H a = some o ∧ (∀ ps, o ≠ .tbl ps) ∧ (∀ c q, o ≠ LamX.CodeO c q) ∧ ∃ φ, o = .ext φ) ∧ ∀ p ∈ L, AtT K μ H p.1 (p.2.map V.int)
structure Sto (K : PySem.W.Frag) (T : List (Addr × Str)) (μ : Mu) (H : Hp) : Prop where
  mo : ∀ a m, μ a = some m → MOk K μ H a m
  tab : LamX.Tabs T H
theorem MOk.there {K : PySem.W.Frag} {μ : Mu} {H : Hp} {a : Addr} {m : MO} (h : MOk K μ H a m) : ∃ o, H a = some o ∧ (∀ ps, o ≠ .tbl ps) ∧ ∀ c q, o ≠ LamX.CodeO c q := by
  cases m with
  | lst ds => obtain ⟨vs, h, _⟩ := h; exact ⟨_, h, nofun, fun c q => by unfold LamX.CodeO; exact nofun⟩
  | dic ks ds => obtain ⟨vs, h, _⟩ := h; exact ⟨_, h, nofun, fun c q => by unfold LamX.CodeO; exact nofun⟩
  | ins C ns ds => obtain ⟨dx, vs, h, _⟩ := h; exact ⟨_, h, nofun, fun c q => by unfold LamX.CodeO; exact nofun⟩
  | raw o => exact ⟨o, h.1, h.2.1, h.2.2.1⟩
  | rawT o L => exact ⟨o, h.1.1, h.1.2.1, h.1.2.2.1⟩
theorem MOk.at_ {K : PySem.W.Frag} {μ μ' : Mu} {H H' : Hp} {a : Addr} {m : MO} (h : MOk K μ H a m) (s : Step μ H μ' H') (e : H' a = H a) : MOk K μ' H' a m := by
  cases m with
  | lst ds => obtain ⟨vs, h, i⟩ := h; exact ⟨vs, by rw [e]; exact h, i.step s⟩
  | dic ks ds => obtain ⟨vs, h, l, i⟩ := h; exact ⟨vs, by rw [e]; exact h, l, i.step s⟩
  | ins C ns ds => obtain ⟨dx, vs, h, l, i⟩ := h; exact ⟨dx, vs, by rw [e]; exact h, l, i.step s⟩
  | raw o => exact ⟨by rw [e]; exact h.1, h.2⟩
  | rawT o L => exact ⟨⟨by rw [e]; exact h.1.1, h.1.2⟩, fun p hp => (h.2 p hp).step s⟩
section
variable {K : PySem.W.Frag} {T : List (Addr × Str)} {μ : Mu} {H : Hp} {p a : Addr} {o : HO} {m m' : MO}
theorem Sto.free (st : Sto K T μ H) (h : H p = none) : μ p = none := by
  match e : μ p with
  | none => rfl
  | some m => obtain ⟨o, h2, _⟩ := (st.mo p m e).there; rw [h] at h2; cases h2
/-- a new thing that stays -/
theorem step_new (h : H p = none) (n : μ p = none) : Step μ H μ (upd H p o) := fun b u e me _ => ⟨by rw [upd_ne (ne_of_none e h)]; exact e, me⟩
theorem Sto.new (st : Sto K T μ H) (h : H p = none) : Sto K T μ (upd H p o) := by
  have s := step_new (o := o) h (st.free h)
  refine ⟨fun b m e => (st.mo b m e).at_ s ?_, st.tab.ext fun b u e => by rw [upd_ne (ne_of_none e h)]; exact e⟩
  obtain ⟨u, hu, _⟩ := (st.mo b m e).there
  rw [upd_ne (ne_of_none hu h)]
/-- a new thing that may change -/
theorem step_newM (h : H p = none) : Step μ H (μ.set p m) (upd H p o) := fun b u e me _ => by
  have n := ne_of_none e h
  exact ⟨by rw [upd_ne n]; exact e, by rw [Mu.ne n]; exact me⟩
theorem Sto.newM (st : Sto K T μ H) (h : H p = none) (k : MOk K (μ.set p m) (upd H p o) p m) : Sto K T (μ.set p m) (upd H p o) := by
  have s := step_newM (μ := μ) (m := m) (o := o) h
  refine ⟨fun b n e => ?_, st.tab.ext fun b u e => by rw [upd_ne (ne_of_none e h)]; exact e⟩
  by_cases hb : b = p
  · subst hb; rw [Mu.same] at e; cases e; exact k
  · rw [Mu.ne hb] at e
    obtain ⟨u, hu, _⟩ := (st.mo b n e).there
    exact (st.mo b n e).at_ s (by rw [upd_ne (ne_of_none hu h)])
/-- a part of the store is changed -/
theorem step_set (e : μ a = some m) : Step μ H (μ.set a m') (upd H a o) := fun b u h me _ => by
  have n : b ≠ a := fun z => by rw [z, e] at me; cases me
  exact ⟨by rw [upd_ne n]; exact h, by rw [Mu.ne n]; exact me⟩
theorem Sto.set (st : Sto K T μ H) (e : μ a = some m) (k : MOk K (μ.set a m') (upd H a o) a m') : Sto K T (μ.set a m') (upd H a o) := by
  have s := step_set (H := H) (m' := m') (o := o) e
  obtain ⟨u, hu, n1, n2⟩ := (st.mo a m e).there
  refine ⟨fun b n q => ?_, tabs_extC st.tab hu n1 n2 (fun b u n e => by rw [upd_ne n]; exact e)⟩
  by_cases hb : b = a
  · subst hb; rw [Mu.same] at q; cases q; exact k
  · rw [Mu.ne hb] at q
    exact (st.mo b n q).at_ s (by rw [upd_ne hb])
/-- a part of the store changes no more -/
theorem step_del : Step μ H (μ.del a) H := fun b u h me _ => ⟨h, by unfold Mu.del; split; rfl; exact me⟩
theorem Sto.del (st : Sto K T μ H) : Sto K T (μ.del a) H := ⟨fun b n q => by
  unfold Mu.del at q
  split at q
  · cases q
  · exact (st.mo b n q).at_ step_del rfl, st.tab⟩
theorem Sto.is_lst (st : Sto K T μ H) {ds : List D} (e : μ a = some (.lst ds)) : Is K (μ.del a) H (.ref a) (.lst ds) := by
  obtain ⟨vs, h, i⟩ := st.mo a _ e
  exact .lst ⟨Mu.dsame, h⟩ (i.step step_del)
theorem Sto.is_obj (st : Sto K T μ H) {C : Addr} {ns : List Str} {ds : List D} (e : μ a = some (.ins C ns ds)) : Is K (μ.del a) H (.ref a) (.obj C ns ds) := by
  obtain ⟨dx, vs, h, l, i⟩ := st.mo a _ e
  exact .obj Mu.dsame h l (i.step step_del)
theorem Sto.is_dic (st : Sto K T μ H) {ks : List Key} {ds : List D} (e : μ a = some (.dic ks ds)) : Is K (μ.del a) H (.ref a) (.dic ks ds) := by
  obtain ⟨vs, h, l, i⟩ := st.mo a _ e
  exact .dic Mu.dsame h l (i.step step_del)
end
/-! ### slots, ends, readings over trees -/
abbrev Ro := List (Option D)
abbrev WK := D → Mu → Prop
abbrev EV := Addr → List Str → List D → Mu → Prop
abbrev WE := Ro → Mu → EV → WK → Prop
abbrev WT := Ro → Mu → EV → (Bool → Mu → Prop) → Prop
abbrev WA := Ro → Mu → EV → (List D → Mu → Prop) → Prop
abbrev WG := D → Ro → Mu → EV → (Ro → Mu → Prop) → Prop
abbrev WGs := List D → Ro → Mu → EV → (Ro → Mu → Prop) → Prop
structure VEnds where
  nx : Ro → Mu → Prop
  rt : WK
  bk : Ro → Mu → Prop := fun _ _ => False
  ct : Ro → Mu → Prop := fun _ _ => False
abbrev WS := VEnds → Ro → Mu → EV → Prop
abbrev VSp := List D → Mu → EV → WK → Prop
def Sl (K : PySem.W.Frag) (μ : Mu) (H : Hp) (σ : L2.St) (ρ : Ro) : Prop := σ.length = ρ.length ∧ ∀ (i : Nat) (d : D), ρ[i]? = some (some d) → ∃ v, σ[i]? = some (some v) ∧ Is K μ H v d
def XOk (K : PySem.W.Frag) (T : List (Addr × Str)) (μ : Mu) (H : Hp) (ev : EV) (E : XK) : Prop := ∀ (C : Addr) (ns : List Str) (ds : List D) (vs : List V) (dd : Addr) (μ' : Mu) (H' : Hp), ev C ns ds μ' → H' dd = some (.xd (ns.zip vs)) → μ' dd = none → ns.length = vs.length → IsAll K μ' H' vs ds → Sto K T μ' H' → Step μ H μ' H' → E (.ref C) (some dd) H'
def EndsOk (K : PySem.W.Frag) (T : List (Addr × Str)) (μ : Mu) (H : Hp) (DD : VEnds) (Dn : Ends) : Prop :=
  (∀ ρ' μ' σ' H', DD.nx ρ' μ' → Sl K μ' H' σ' ρ' → Sto K T μ' H' → Step μ H μ' H' → Dn.nx σ' H') ∧
  (∀ d μ' v H', DD.rt d μ' → Is K μ' H' v d → Sto K T μ' H' → Step μ H μ' H' → Dn.rt v H') ∧
  (∀ ρ' μ' σ' H', DD.bk ρ' μ' → Sl K μ' H' σ' ρ' → Sto K T μ' H' → Step μ H μ' H' → Dn.bk σ' H') ∧
  (∀ ρ' μ' σ' H', DD.ct ρ' μ' → Sl K μ' H' σ' ρ' → Sto K T μ' H' → Step μ H μ' H' → Dn.ct σ' H')
def KOk (K : PySem.W.Frag) (T : List (Addr × Str)) (μ : Mu) (H : Hp) (Φ : WK) (Q : VK) : Prop := ∀ d μ' v H', Φ d μ' → Is K μ' H' v d → Sto K T μ' H' → Step μ H μ' H' → Q v H'
section
variable (K : PySem.W.Frag) (T : List (Addr × Str)) (E : XK)
def up (w : WE) : TE := fun σ H Q => ∃ ρ μ ev Φ, Sl K μ H σ ρ ∧ Sto K T μ H ∧ XOk K T μ H ev E ∧ w ρ μ ev Φ ∧ KOk K T μ H Φ Q
def upT (w : WT) : TT := fun σ H Q => ∃ ρ μ ev Φ, Sl K μ H σ ρ ∧ Sto K T μ H ∧ XOk K T μ H ev E ∧ w ρ μ ev Φ ∧ ∀ b μ' H', Φ b μ' → Sto K T μ' H' → Step μ H μ' H' → Q b H'
def upA (w : WA) : TA := fun σ H Q => ∃ ρ μ ev Φ, Sl K μ H σ ρ ∧ Sto K T μ H ∧ XOk K T μ H ev E ∧ w ρ μ ev Φ ∧ ∀ ds μ' vs H', Φ ds μ' → IsAll K μ' H' vs ds → Sto K T μ' H' → Step μ H μ' H' → Q vs H'
def upG (w : WG) : TG := fun v σ H Q => ∃ d ρ μ ev Φ, Is K μ H v d ∧ Sl K μ H σ ρ ∧ Sto K T μ H ∧ XOk K T μ H ev E ∧ w d ρ μ ev Φ ∧ ∀ ρ' μ' σ' H', Φ ρ' μ' → Sl K μ' H' σ' ρ' → Sto K T μ' H' → Step μ H μ' H' → Q σ' H'
def upGs (w : WGs) : TGs := fun vs σ H Q => ∃ ds ρ μ ev Φ, IsAll K μ H vs ds ∧ Sl K μ H σ ρ ∧ Sto K T μ H ∧ XOk K T μ H ev E ∧ w ds ρ μ ev Φ ∧ ∀ ρ' μ' σ' H', Φ ρ' μ' → Sl K μ' H' σ' ρ' → Sto K T μ' H' → Step μ H μ' H' → Q σ' H'
def upS (w : WS) : TS := fun Dn σ H => ∃ ρ μ ev DD, Sl K μ H σ ρ ∧ Sto K T μ H ∧ XOk K T μ H ev E ∧ w DD ρ μ ev ∧ EndsOk K T μ H DD Dn
/-- a def's promise, told over trees -/
def lift (sp : VSp) : Sp := fun vs H Q E => ∃ ds μ ev Φ, IsAll K μ H vs ds ∧ Sto K T μ H ∧ XOk K T μ H ev E ∧ sp ds μ ev Φ ∧ KOk K T μ H Φ Q
end
section
variable {K : PySem.W.Frag} {T : List (Addr × Str)} {E : XK} {μ μ' μ1 : Mu} {H H' H1 : Hp} {σ : L2.St} {ρ : Ro} {ev : EV} {Φ : WK} {Q : VK} {DD : VEnds} {Dn : Ends}
theorem Sl.step (s : Step μ H μ' H') (e : Sl K μ H σ ρ) : Sl K μ' H' σ ρ := ⟨e.1, fun i d h => by
  obtain ⟨v, e1, e2⟩ := e.2 i d h
  exact ⟨v, e1, e2.step s⟩⟩
theorem Sl.set {v : V} {d : D} (e : Sl K μ H σ ρ) (i : Nat) (h : Is K μ H v d) : Sl K μ H (σ.set i (some v)) (ρ.set i (some d)) := by
  refine ⟨by rw [List.length_set, List.length_set]; exact e.1, fun j x q => ?_⟩
  by_cases hj : i = j
  · subst hj
    by_cases hl : i < ρ.length
    · rw [List.getElem?_set_self hl] at q
      cases q
      exact ⟨v, by rw [List.getElem?_set_self (by rw [e.1]; exact hl)], h⟩
    · rw [List.getElem?_eq_none (by rw [List.length_set]; omega)] at q; cases q
  · rw [List.getElem?_set_ne hj] at q
    obtain ⟨u, e1, e2⟩ := e.2 j x q
    exact ⟨u, by rw [List.getElem?_set_ne hj]; exact e1, e2⟩
theorem XOk.step (s : Step μ H μ' H') (x : XOk K T μ H ev E) : XOk K T μ' H' ev E := fun C ns ds vs dd m h a b c d e f g => x C ns ds vs dd m h a b c d e f (s.trans g)
theorem EndsOk.step (s : Step μ H μ' H') (x : EndsOk K T μ H DD Dn) : EndsOk K T μ' H' DD Dn :=
  ⟨fun a b c d e f g h => x.1 a b c d e f g (s.trans h), fun a b c d e f g h => x.2.1 a b c d e f g (s.trans h), fun a b c d e f g h => x.2.2.1 a b c d e f g (s.trans h), fun a b c d e f g h => x.2.2.2 a b c d e f g (s.trans h)⟩
theorem KOk.step (s : Step μ H μ' H') (x : KOk K T μ H Φ Q) : KOk K T μ' H' Φ Q := fun a b c d e f g h => x a b c d e f g (s.trans h)
/-- no exception is let out -/
def ev0 : EV := fun _ _ _ _ => False
theorem xok0 : XOk K T μ H ev0 E := fun _ _ _ _ _ _ _ z => z.elim
end
section
variable {X : Cx}
theorem pe_mono {e : Expr} {t t' : TE} (p : PE X e t) (h : ∀ σ H Q, t' σ H Q → t σ H Q) : PE X e t' := ⟨fun pins s σ H Q I q => p.run pins s σ H Q I (h σ H Q q)⟩
theorem pt_mono {e : Expr} {t t' : TT} (p : PT X e t) (h : ∀ σ H Q, t' σ H Q → t σ H Q) : PT X e t' := ⟨fun pins s σ H Q I q => p.run pins s σ H Q I (h σ H Q q)⟩
theorem pw_mono {e : Expr} {t t' : TT} (p : PW X e t) (h : ∀ σ H Q, t' σ H Q → t σ H Q) : PW X e t' := ⟨fun w pins s σ H Q I q => p.run w pins s σ H Q I (h σ H Q q)⟩
theorem pa_mono {e : List Expr} {t t' : TA} (p : PA X e t) (h : ∀ σ H Q, t' σ H Q → t σ H Q) : PA X e t' := ⟨fun pos pins s σ H Q I q => p.run pos pins s σ H Q I (h σ H Q q)⟩
theorem pk_mono {e : List Keyword} {t t' : TA} (p : PK X e t) (h : ∀ σ H Q, t' σ H Q → t σ H Q) : PK X e t' := ⟨fun pos pins s σ H Q I q => p.run pos pins s σ H Q I (h σ H Q q)⟩
theorem ps_mono {e : Stmt} {t t' : TS} (p : PS X e t) (h : ∀ D σ H, t' D σ H → t D σ H) : PS X e t' := ⟨fun pins s σ H D I q => p.run pins s σ H D I (h D σ H q)⟩
theorem pss_mono {e : List Stmt} {t t' : TS} (p : PSs X e t) (h : ∀ D σ H, t' D σ H → t D σ H) : PSs X e t' := ⟨fun pins s σ H D I q => p.run pins s σ H D I (h D σ H q)⟩
theorem pg_mono {e : Expr} {t t' : TG} (p : PG X e t) (h : ∀ v σ H Q, t' v σ H Q → t v σ H Q) : PG X e t' := ⟨fun pins s σ H v u Q I r q => p.run pins s σ H v u Q I r (h v σ H Q q)⟩
theorem pgs_mono {e : List Expr} {t t' : TGs} (p : PGs X e t) (h : ∀ v σ H Q, t' v σ H Q → t v σ H Q) : PGs X e t' := ⟨fun pins s σ H v u Q I r q => p.run pins s σ H v u Q I r (h v σ H Q q)⟩
end
end VL

set_option maxRecDepth 100000
set_option maxHeartbeats 4000000
/-! values as trees: expressions -/
namespace VL
open PySem L2 FW PyProof.Rows

/-! ### what is read of a value -/
def seqOf (μ : Mu) : D → Option (List D)
  | .lst ds => some ds
  | .tup ds => some ds
  | .sq ds => some ds
  | .ref a => match μ a with
    | some (.lst ds) => some ds
    | _ => none
  | _ => none
/-- lists alone -/
def lstOf (μ : Mu) : D → Option (List D)
  | .lst ds => some ds
  | .ref a => match μ a with
    | some (.lst ds) => some ds
    | _ => none
  | _ => none
def insOf (μ : Mu) : D → Option (Addr × List Str × List D)
  | .obj C ns ds => some (C, ns, ds)
  | .ref a => match μ a with
    | some (.ins C ns ds) => some (C, ns, ds)
    | _ => none
  | _ => none
/-- a changing thing, from now on one that stays -/
def frzOf (μ : Mu) (a : Addr) : Option D := match μ a with
  | some (.lst ds) => some (.lst ds)
  | some (.dic ks ds) => some (.dic ks ds)
  | some (.ins C ns ds) => some (.obj C ns ds)
  | _ => none
mutual
def toPy (μ : Mu) : D → Option PyData
  | .non => some .none
  | .bl b => some (.bool b)
  | .int i => some (.int i)
  | .str s => some (.str s)
  | .lst ds => (toPys μ ds).map .list
  | .sq ds => (toPys μ ds).map .list
  | .tup ds => (toPys μ ds).map .tuple
  | _ => none
def toPys (μ : Mu) : List D → Option (List PyData)
  | [] => some []
  | d :: ds => match toPy μ d, toPys μ ds with
    | some p, some ps => some (p :: ps)
    | _, _ => none
end
/-- of a changing list, too, at the top -/
def toPyT (μ : Mu) : D → Option PyData
  | .ref a => match μ a with
    | some (.lst ds) => (toPys μ ds).map .list
    | _ => none
  | d => toPy μ d
theorem seqOf_ref {μ : Mu} {a : Addr} {ds : List D} (e : seqOf μ (.ref a) = some ds) : μ a = some (.lst ds) := by
  have e2 : (match μ a with | some (.lst ds) => some ds | _ => none) = some ds := e
  cases q : μ a with
  | none => rw [q] at e2; cases e2
  | some m => rw [q] at e2; cases m <;> first | (cases e2; rfl) | cases e2
theorem lstOf_ref {μ : Mu} {a : Addr} {ds : List D} (e : lstOf μ (.ref a) = some ds) : μ a = some (.lst ds) := by
  have e2 : (match μ a with | some (.lst ds) => some ds | _ => none) = some ds := e
  cases q : μ a with
  | none => rw [q] at e2; cases e2
  | some m => rw [q] at e2; cases m <;> first | (cases e2; rfl) | cases e2
theorem insOf_ref {μ : Mu} {a C : Addr} {ns : List Str} {ds : List D} (e : insOf μ (.ref a) = some (C, ns, ds)) : μ a = some (.ins C ns ds) := by
  have e2 : (match μ a with | some (.ins C ns ds) => some (C, ns, ds) | _ => none) = some (C, ns, ds) := e
  cases q : μ a with
  | none => rw [q] at e2; cases e2
  | some m => rw [q] at e2; cases m <;> first | (cases e2; rfl) | cases e2
theorem frzOf_lst {μ : Mu} {a : Addr} {ds : List D} (e : μ a = some (.lst ds)) : frzOf μ a = some (.lst ds) := by unfold frzOf; rw [e]
theorem frzOf_ins {μ : Mu} {a C : Addr} {ns : List Str} {ds : List D} (e : μ a = some (.ins C ns ds)) : frzOf μ a = some (.obj C ns ds) := by unfold frzOf; rw [e]
theorem seqOf_of {μ : Mu} {a : Addr} {ds : List D} (e : μ a = some (.lst ds)) : seqOf μ (.ref a) = some ds := by show (match μ a with | some (.lst ds) => some ds | _ => none) = some ds; rw [e]
theorem lstOf_of {μ : Mu} {a : Addr} {ds : List D} (e : μ a = some (.lst ds)) : lstOf μ (.ref a) = some ds := by show (match μ a with | some (.lst ds) => some ds | _ => none) = some ds; rw [e]
theorem insOf_of {μ : Mu} {a C : Addr} {ns : List Str} {ds : List D} (e : μ a = some (.ins C ns ds)) : insOf μ (.ref a) = some (C, ns, ds) := by show (match μ a with | some (.ins C ns ds) => some (C, ns, ds) | _ => none) = some (C, ns, ds); rw [e]
section
variable {K : PySem.W.Frag} {T : List (Addr × Str)} {μ : Mu} {H : Hp}
theorem is_seq (st : Sto K T μ H) {v : V} {d : D} {ds : List D} (h : Is K μ H v d) (e : seqOf μ d = some ds) : ∃ a vs, v = .ref a ∧ (SqL K H a vs ∨ SqT K H a vs) ∧ IsAll K μ H vs ds := by
  cases h with
  | lst a i => simp [seqOf] at e; subst e; exact ⟨_, _, rfl, .inl a.sq, i⟩
  | sq a i => simp [seqOf] at e; subst e; exact ⟨_, _, rfl, .inl a.sq, i⟩
  | tup a i => simp [seqOf] at e; subst e; exact ⟨_, _, rfl, .inr a.sq, i⟩
  | ref a =>
    obtain ⟨vs, h1, h2⟩ := st.mo _ _ (seqOf_ref e)
    exact ⟨_, vs, rfl, .inl (SqL.of h1), h2⟩
  | _ => simp [seqOf] at e
theorem is_lst (st : Sto K T μ H) {v : V} {d : D} {ds : List D} (h : Is K μ H v d) (e : lstOf μ d = some ds) : ∃ a vs, v = .ref a ∧ H a = some (.lst vs) ∧ IsAll K μ H vs ds := by
  cases h with
  | lst a i => simp [lstOf] at e; subst e; exact ⟨_, _, rfl, a.2, i⟩
  | ref a =>
    obtain ⟨vs, h1, h2⟩ := st.mo _ _ (lstOf_ref e)
    exact ⟨_, vs, rfl, h1, h2⟩
  | _ => simp [lstOf] at e
theorem is_ins (st : Sto K T μ H) {v : V} {d : D} {C : Addr} {ns : List Str} {ds : List D} (h : Is K μ H v d) (e : insOf μ d = some (C, ns, ds)) : ∃ a dx vs, v = .ref a ∧ H a = some (.ins C dx (ns.zip vs)) ∧ ns.length = vs.length ∧ IsAll K μ H vs ds := by
  cases h with
  | obj m h l i => simp [insOf] at e; obtain ⟨rfl, rfl, rfl⟩ := e; exact ⟨_, _, _, rfl, h, l, i⟩
  | ref a =>
    obtain ⟨dx, vs, h1, h2, h3⟩ := st.mo _ _ (insOf_ref e)
    exact ⟨_, dx, vs, rfl, h1, h2, h3⟩
  | _ => simp [insOf] at e
theorem is_frz (st : Sto K T μ H) {a : Addr} {d : D} (e : frzOf μ a = some d) : Is K (μ.del a) H (.ref a) d := by
  unfold frzOf at e
  split at e
  · rename_i q; cases e; exact st.is_lst q
  · rename_i q; cases e; exact st.is_dic q
  · rename_i q; cases e; exact st.is_obj q
  · cases e
mutual
theorem is_py : ∀ {d : D} {v : V} {p : PyData}, Is K μ H v d → toPy μ d = some p → Dp K H v p
  | .non, _, _, .non, e => by simp [toPy] at e; subst e; exact .non
  | .bl b, _, _, .bl _, e => by simp [toPy] at e; subst e; exact .bl b
  | .int i, _, _, .int _, e => by simp [toPy] at e; subst e; exact .int i
  | .str s, _, _, .str _, e => by simp [toPy] at e; subst e; exact .str s
  | .lst ds, _, _, .lst a i, e => by
    simp [toPy] at e; obtain ⟨ps, h, rfl⟩ := e; exact .lst a.sq (is_pys i h)
  | .sq ds, _, _, .sq a i, e => by
    simp [toPy] at e; obtain ⟨ps, h, rfl⟩ := e; exact .lst a.sq (is_pys i h)
  | .tup ds, _, _, .tup a i, e => by
    simp [toPy] at e; obtain ⟨ps, h, rfl⟩ := e; exact .tup a.sq (is_pys i h)
  | .ref _, _, _, _, e => by simp [toPy] at e
  | .ty _, _, _, _, e => by simp [toPy] at e
  | .dic _ _, _, _, _, e => by simp [toPy] at e
  | .obj _ _ _, _, _, _, e => by simp [toPy] at e
  | .exc _ _ _, _, _, _, e => by simp [toPy] at e
theorem is_pys : ∀ {ds : List D} {vs : List V} {ps : List PyData}, IsAll K μ H vs ds → toPys μ ds = some ps → DpAll K H vs ps
  | [], _, _, .nil, e => by simp [toPys] at e; subst e; exact .nil
  | d :: ds, _, _, .cons a b, e => by
    unfold toPys at e
    split at e
    · rename_i p ps h1 h2
      cases e
      exact .cons (is_py a h1) (is_pys b h2)
    · cases e
end
theorem is_pyT (st : Sto K T μ H) {v : V} {d : D} {p : PyData} (h : Is K μ H v d) (e : toPyT μ d = some p) : Dp K H v p := by
  unfold toPyT at e
  split at e
  · rename_i a
    split at e
    · rename_i ds q
      cases h
      obtain ⟨vs, h1, h2⟩ := st.mo _ _ q
      cases hp : toPys μ ds with
      | none => rw [hp] at e; cases e
      | some ps => rw [hp] at e; cases e; exact .lst (SqL.of h1) (is_pys h2 hp)
    · cases e
  · exact is_py h e
end
/-! ### pieces of readings: what an operator, a built-in does -/
abbrev V2 := D → D → Mu → WK → Prop
abbrev V1 := D → Mu → WK → Prop
abbrev VL_ := List D → Mu → WK → Prop
def Sim2 (K : PySem.W.Frag) (T : List (Addr × Str)) (r : R2) (rd : V2) : Prop := ∀ x y v w μ H Φ Q, Is K μ H v x → Is K μ H w y → Sto K T μ H → rd x y μ Φ → KOk K T μ H Φ Q → r v w H Q
def Sim1 (K : PySem.W.Frag) (T : List (Addr × Str)) (r : V → Hp → VK → Prop) (rd : V1) : Prop := ∀ x v μ H Φ Q, Is K μ H v x → Sto K T μ H → rd x μ Φ → KOk K T μ H Φ Q → r v H Q
def SimL (K : PySem.W.Frag) (T : List (Addr × Str)) (r : List V → Hp → VK → Prop) (rd : VL_) : Prop := ∀ xs vs μ H Φ Q, IsAll K μ H vs xs → Sto K T μ H → rd xs μ Φ → KOk K T μ H Φ Q → r vs H Q
section
variable {K : PySem.W.Frag} {T : List (Addr × Str)} {μ : Mu} {H : Hp} {Φ : WK} {Q : VK}
theorem KOk.now {d : D} {v : V} (k : KOk K T μ H Φ Q) (h : Φ d μ) (i : Is K μ H v d) (st : Sto K T μ H) : Q v H := k d μ v H h i st (Step.refl _ _)
/-- a new list or tuple that stays -/
theorem KOk.lst {vs : List V} {ds : List D} (k : KOk K T μ H Φ Q) (h : Φ (.lst ds) μ) (i : IsAll K μ H vs ds) (st : Sto K T μ H) (p : Addr) (hp : H p = none) : Q (.ref p) (upd H p (.lst vs)) :=
  have s := step_new (o := .lst vs) hp (st.free hp)
  k _ μ _ _ h (.lst ⟨st.free hp, upd_same⟩ (i.step s)) (st.new hp) s
theorem KOk.tup {vs : List V} {ds : List D} (k : KOk K T μ H Φ Q) (h : Φ (.tup ds) μ) (i : IsAll K μ H vs ds) (st : Sto K T μ H) (p : Addr) (hp : H p = none) : Q (.ref p) (upd H p (.tup vs)) :=
  have s := step_new (o := .tup vs) hp (st.free hp)
  k _ μ _ _ h (.tup (.inl ⟨st.free hp, upd_same⟩) (i.step s)) (st.new hp) s
/-- a new list that may change -/
theorem KOk.lstM {vs : List V} {ds : List D} (k : KOk K T μ H Φ Q) (h : ∀ p, μ p = none → Φ (.ref p) (μ.set p (.lst ds))) (i : IsAll K μ H vs ds) (st : Sto K T μ H) (p : Addr) (hp : H p = none) : Q (.ref p) (upd H p (.lst vs)) :=
  have s := step_newM (μ := μ) (m := .lst ds) (o := .lst vs) hp
  k _ _ _ _ (h p (st.free hp)) (.ref p) (st.newM hp ⟨vs, upd_same, i.step s⟩) s
theorem KOk.dicM {ks : List Key} {vs : List V} {ds : List D} (k : KOk K T μ H Φ Q) (h : ∀ p, μ p = none → Φ (.ref p) (μ.set p (.dic ks ds))) (i : IsAll K μ H vs ds) (l : ks.length = vs.length) (st : Sto K T μ H) (p : Addr) (hp : H p = none) : Q (.ref p) (upd H p (.dK (ks.zip vs))) :=
  have s := step_newM (μ := μ) (m := .dic ks ds) (o := .dK (ks.zip vs)) hp
  k _ _ _ _ (h p (st.free hp)) (.ref p) (st.newM hp ⟨vs, upd_same, l, i.step s⟩) s
theorem KOk.dic {ks : List Key} {vs : List V} {ds : List D} (k : KOk K T μ H Φ Q) (h : Φ (.dic ks ds) μ) (i : IsAll K μ H vs ds) (l : ks.length = vs.length) (st : Sto K T μ H) (p : Addr) (hp : H p = none) : Q (.ref p) (upd H p (.dK (ks.zip vs))) :=
  have s := step_new (o := .dK (ks.zip vs)) hp (st.free hp)
  k _ μ _ _ h (.dic (st.free hp) upd_same l (i.step s)) (st.new hp) s
/-- a list in the store is changed -/
theorem KOk.setL {a : Addr} {m : MO} {vs : List V} {ds : List D} {d : D} {v : V} (k : KOk K T μ H Φ Q) (e : μ a = some m) (h : Φ d (μ.set a (.lst ds))) (i : IsAll K μ H vs ds) (iv : Is K μ H v d) (st : Sto K T μ H) : Q v (upd H a (.lst vs)) :=
  have s := step_set (H := H) (m' := .lst ds) (o := .lst vs) e
  k _ _ _ _ h (iv.step s) (st.set e ⟨vs, upd_same, i.step s⟩) s
end
def isNon : D → Bool
  | .non => true
  | _ => false
theorem isNon_v {K : PySem.W.Frag} {μ : Mu} {H : Hp} {v : V} {x : D} (h : Is K μ H v x) : decide (v = .non) = isNon x := by cases h <;> rfl
def vIsN : V1 := fun x μ Φ => Φ (.bl (isNon x)) μ
def vNotN : V1 := fun x μ Φ => Φ (.bl (!isNon x)) μ
/-! ### combinators -/
def wVar (i : Nat) : WE := fun ρ μ _ Φ => ∃ d, ρ[i]? = some (some d) ∧ Φ d μ
def wC (d : D) : WE := fun _ μ _ Φ => Φ d μ
def wZ (w : WE) : WE := fun ρ μ ev Φ => w ρ μ ev fun d μ1 => ∃ a t, d = .ref a ∧ frzOf μ1 a = some t ∧ Φ t (μ1.del a)
def wOp (r : V2) (wa wb : WE) : WE := fun ρ μ ev Φ => wa ρ μ ev fun x μ1 => wb ρ μ1 ev fun y μ2 => r x y μ2 Φ
def wUn (r : V1) (wa : WE) : WE := fun ρ μ ev Φ => wa ρ μ ev fun x μ1 => r x μ1 Φ
def wNil : WA := fun _ μ _ Φ => Φ [] μ
def wCons (wa : WE) (w : WA) : WA := fun ρ μ ev Φ => wa ρ μ ev fun x μ1 => w ρ μ1 ev fun xs μ2 => Φ (x :: xs) μ2
def wStar (wa : WE) (w : WA) : WA := fun ρ μ ev Φ => wa ρ μ ev fun x μ1 => ∃ ds, seqOf μ1 x = some ds ∧ w ρ μ1 ev fun xs μ2 => Φ (ds ++ xs) μ2
def wCB (r : VL_) (w : WA) : WE := fun ρ μ ev Φ => w ρ μ ev fun xs μ1 => r xs μ1 Φ
def wTup (w : WA) : WE := fun ρ μ ev Φ => w ρ μ ev fun xs μ1 => xs.length ≤ sizeLine ∧ Φ (.tup xs) μ1
def wLst (w : WA) : WE := fun ρ μ ev Φ => w ρ μ ev fun xs μ1 => xs.length ≤ sizeLine ∧ Φ (.lst xs) μ1
def wLstM (w : WA) : WE := fun ρ μ ev Φ => w ρ μ ev fun xs μ1 => xs.length ≤ sizeLine ∧ ∀ p, μ1 p = none → Φ (.ref p) (μ1.set p (.lst xs))
def wDicM : WE := fun _ μ _ Φ => ∀ p, μ p = none → Φ (.ref p) (μ.set p (.dic [] []))
def wDic : WE := fun _ μ _ Φ => Φ (.dic [] []) μ
def wTest (w : WE) : WT := fun ρ μ ev Φ => w ρ μ ev fun x μ1 => ∃ c, x = .bl c ∧ Φ c μ1
def wAnd (t u : WT) : WT := fun ρ μ ev Φ => t ρ μ ev fun c μ1 => if c = true then u ρ μ1 ev Φ else Φ false μ1
def wOr (t u : WT) : WT := fun ρ μ ev Φ => t ρ μ ev fun c μ1 => if c = true then Φ true μ1 else u ρ μ1 ev Φ
def wNot (t : WT) : WT := fun ρ μ ev Φ => t ρ μ ev fun c μ1 => Φ (!c) μ1
def wAndV (wa wb : WE) : WE := fun ρ μ ev Φ => wa ρ μ ev fun x μ1 => ∃ c, x = .bl c ∧ if c = true then wb ρ μ1 ev Φ else Φ (.bl false) μ1
def wOrV (wa wb : WE) : WE := fun ρ μ ev Φ => wa ρ μ ev fun x μ1 => ∃ c, x = .bl c ∧ if c = true then Φ (.bl true) μ1 else wb ρ μ1 ev Φ
def wNotV (wa : WE) : WE := fun ρ μ ev Φ => wa ρ μ ev fun x μ1 => ∃ c, x = .bl c ∧ Φ (.bl (!c)) μ1
def wIf (t : WT) (wa wb : WE) : WE := fun ρ μ ev Φ => t ρ μ ev fun c μ1 => if c = true then wa ρ μ1 ev Φ else wb ρ μ1 ev Φ
def wChain (r r' : V2) (wa wb wc : WE) : WE := fun ρ μ ev Φ => wa ρ μ ev fun x μ1 => wb ρ μ1 ev fun y μ2 => r x y μ2 fun z μ3 => ∃ k, z = .bl k ∧ if k = true then wc ρ μ3 ev fun u μ4 => r' y u μ4 Φ else Φ (.bl false) μ3
abbrev WO := Ro → Mu → EV → (Option Int → Mu → Prop) → Prop
def wNoPart : WO := fun _ μ _ Φ => Φ none μ
def wPart (w : WE) : WO := fun ρ μ ev Φ => w ρ μ ev fun x μ1 => ∃ i, x = .int i ∧ Φ (some i) μ1
def upO (K : PySem.W.Frag) (T : List (Addr × Str)) (E : XK) (w : WO) : TO := fun σ H Q => ∃ ρ μ ev Φ, Sl K μ H σ ρ ∧ Sto K T μ H ∧ XOk K T μ H ev E ∧ w ρ μ ev Φ ∧ ∀ o μ' H', Φ o μ' → Sto K T μ' H' → Step μ H μ' H' → Q o H'
abbrev VS := D → Option Int → Option Int → Mu → WK → Prop
def wSl (r : VS) (w : WE) (l h : WO) : WE := fun ρ μ ev Φ => w ρ μ ev fun x μ1 => l ρ μ1 ev fun lo μ2 => h ρ μ2 ev fun hi μ3 => r x lo hi μ3 Φ
def SimS (K : PySem.W.Frag) (T : List (Addr × Str)) (r : V → Option Int → Option Int → Hp → VK → Prop) (rd : VS) : Prop := ∀ x v lo hi μ H Φ Q, Is K μ H v x → Sto K T μ H → rd x lo hi μ Φ → KOk K T μ H Φ Q → r v lo hi H Q
section
variable {X : Cx} {T : List (Addr × Str)} {E : XK} {e a b c : Expr} {pos : Pos} {rest : List Expr}
theorem ve_var {i : Nat} {x : Str} {pos : Pos} (hN : X.N[i]? = some x) (hv : Vis X.env.scope x) (hd : (x == ("__debug__" : Str)) = false := by decide) (hcd : (x == ("__classdict__" : Str)) = false := by decide) : PE X (.Name x pos) (up X.K T E (wVar i)) :=
  pe_mono (pe_var hN hv hd hcd) fun σ H Q ⟨ρ, μ, ev, Φ, en, st, xo, ⟨d, hd, h⟩, k⟩ => by
    obtain ⟨v, e1, e2⟩ := en.2 i d hd
    exact ⟨v, e1, k.now h e2 st⟩
theorem ve_c {v : V} {d : D} (p : PE X e (tC v)) (hi : ∀ μ H, Is X.K μ H v d) : PE X e (up X.K T E (wC d)) :=
  pe_mono p fun σ H Q ⟨ρ, μ, ev, Φ, en, st, xo, h, k⟩ => k.now h (hi μ H) st
theorem ve_int {i : Int} {j} {pos : Pos} : PE X (.Constant (.int i) j pos) (up X.K T E (wC (.int i))) := ve_c pe_int fun _ _ => .int i
theorem ve_bl {i : Bool} {j} {pos : Pos} : PE X (.Constant (.bool i) j pos) (up X.K T E (wC (.bl i))) := ve_c pe_bl fun _ _ => .bl i
theorem ve_str {i : Str} {j} {pos : Pos} : PE X (.Constant (.str i) j pos) (up X.K T E (wC (.str i))) := ve_c pe_str fun _ _ => .str i
theorem ve_non {j} {pos : Pos} : PE X (.Constant .none j pos) (up X.K T E (wC .non)) := ve_c pe_non fun _ _ => .non
/-- a constant of the text -/
theorem ve_gc {x : Str} {v : V} {d : D} {pos : Pos} (hg : Gl X x) (h : ∃ u, X.mg x = some u ∧ RelV v u) (hi : ∀ μ H, Is X.K μ H v d) (hd : (x == ("__debug__" : Str)) = false := by decide) : PE X (.Name x pos) (up X.K T E (wC d)) := ve_c (pe_gc hg h hd) hi
theorem ve_gref {x : Str} {f : Addr} {pos : Pos} (hg : Gl X x) (h : X.mg x = some (.ref f)) (hd : (x == ("__debug__" : Str)) = false := by decide) : PE X (.Name x pos) (up X.K T E (wC (.ref f))) := ve_c (v := .ref f) (pe_gc hg ⟨_, h, rfl⟩ hd) fun _ _ => .ref f
/-- a built-in class's name -/
theorem ve_ty {x : Str} {n : String} {pos : Pos} (hg : Gl X x) (hm : X.mg x = none) (hv : bootBuiltins x = some (.type n)) (hn : x ≠ "__name__" := by decide) (hd : (x == ("__debug__" : Str)) = false := by decide) : PE X (.Name x pos) (up X.K T E (wC (.ty n))) :=
  ve_c (pe_bltn hg hm hv (v := .ty n) rfl hn hd) fun _ _ => .ty n
theorem ve_z {w : WE} (h : PE X e (up X.K T E w)) : PE X e (up X.K T E (wZ w)) :=
  pe_mono h fun σ H Q ⟨ρ, μ, ev, Φ, en, st, xo, h, k⟩ => ⟨ρ, μ, ev, _, en, st, xo, h, fun d μ1 v H1 ⟨a, t, e1, e2, q⟩ i st1 s => by
    subst e1
    cases i with
    | ref a => exact k _ _ _ _ q (is_frz st1 e2) st1.del (s.trans step_del)⟩
theorem ve_op {op : Operator} {r : R2} {rd : V2} {wa wb : WE} (ho : OpR X (binaryOp op) r) (sim : Sim2 X.K T r rd) (ha : PE X a (up X.K T E wa)) (hb : PE X b (up X.K T E wb)) : PE X (.BinOp a op b pos) (up X.K T E (wOp rd wa wb)) :=
  pe_mono (pe_op ho ha hb) fun σ H Q ⟨ρ, μ, ev, Φ, en, st, xo, h, k⟩ => ⟨ρ, μ, ev, _, en, st, xo, h, fun x μ1 v H1 hx ix st1 s1 =>
    ⟨ρ, μ1, ev, _, en.step s1, st1, xo.step s1, hx, fun y μ2 w H2 hy iy st2 s2 => sim x y v w μ2 H2 Φ Q (ix.step s2) iy st2 hy (k.step (s1.trans s2))⟩⟩
theorem ve_un {op : UnaryOp} {r : V → Hp → VK → Prop} {rd : V1} {wa : WE} (ho : UnR X (unaryOp op) r) (sim : Sim1 X.K T r rd) (ha : PE X a (up X.K T E wa)) : PE X (.UnaryOp op a pos) (up X.K T E (wUn rd wa)) :=
  pe_mono (pe_un ho ha) fun σ H Q ⟨ρ, μ, ev, Φ, en, st, xo, h, k⟩ => ⟨ρ, μ, ev, _, en, st, xo, h, fun x μ1 v H1 hx ix st1 s1 => sim x v μ1 H1 Φ Q ix st1 hx (k.step s1)⟩
theorem ve_cmp {op : CmpOp} {r : R2} {rd : V2} {wa wb : WE} (ho : OpR X (compareOp op) r) (sim : Sim2 X.K T r rd) (ha : PE X a (up X.K T E wa)) (hb : PE X b (up X.K T E wb)) (hm : behindInMarks op b = false) : PE X (.Compare a [op] [b] pos) (up X.K T E (wOp rd wa wb)) :=
  pe_mono (pe_cmpR ho ha hb hm) fun σ H Q ⟨ρ, μ, ev, Φ, en, st, xo, h, k⟩ => ⟨ρ, μ, ev, _, en, st, xo, h, fun x μ1 v H1 hx ix st1 s1 =>
    ⟨ρ, μ1, ev, _, en.step s1, st1, xo.step s1, hx, fun y μ2 w H2 hy iy st2 s2 => sim x y v w μ2 H2 Φ Q (ix.step s2) iy st2 hy (k.step (s1.trans s2))⟩⟩
/-- one of both is known to be None -/
theorem ve_isN {wa : WE} {j} {pos' : Pos} (ha : PE X a (up X.K T E wa)) : PE X (.Compare a [.Is] [.Constant .none j pos'] pos) (up X.K T E (wUn vIsN wa)) :=
  pe_mono (pe_cmp (pc_isN ha)) fun σ H Q ⟨ρ, μ, ev, Φ, en, st, xo, h, k⟩ => ⟨ρ, μ, ev, _, en, st, xo, h, fun x μ1 v H1 hx ix st1 s1 => by
    show Q (.bl (decide (v = .non))) H1
    rw [isNon_v ix]; exact (k.step s1).now hx (.bl _) st1⟩
theorem ve_notN {wa : WE} {j} {pos' : Pos} (ha : PE X a (up X.K T E wa)) : PE X (.Compare a [.IsNot] [.Constant .none j pos'] pos) (up X.K T E (wUn vNotN wa)) :=
  pe_mono (pe_cmp (pc_notN ha)) fun σ H Q ⟨ρ, μ, ev, Φ, en, st, xo, h, k⟩ => ⟨ρ, μ, ev, _, en, st, xo, h, fun x μ1 v H1 hx ix st1 s1 => by
    show Q (.bl (!decide (v = .non))) H1
    rw [isNon_v ix]; exact (k.step s1).now hx (.bl _) st1⟩
theorem ve_chain {op op' : CmpOp} {r r' : R2} {rd rd' : V2} {wa wb wc : WE} (ho : OpR X (compareOp op) r) (sim : Sim2 X.K T r rd) (ho' : OpR X (compareOp op') r') (sim' : Sim2 X.K T r' rd') (ha : PE X a (up X.K T E wa)) (hb : PE X b (up X.K T E wb)) (hc : PE X c (up X.K T E wc))
    (hm : lastMarks [op, op'] [b, c] = false := by with_unfolding_all rfl) : PE X (.Compare a [op, op'] [b, c] pos) (up X.K T E (wChain rd rd' wa wb wc)) :=
  pe_mono (pe_chain ho ho' ha hb hc hm) fun σ H Q ⟨ρ, μ, ev, Φ, en, st, xo, h, k⟩ => ⟨ρ, μ, ev, _, en, st, xo, h, fun x μ1 v H1 hx ix st1 s1 =>
    ⟨ρ, μ1, ev, _, en.step s1, st1, xo.step s1, hx, fun y μ2 w H2 hy iy st2 s2 => sim x y v w μ2 H2 _ _ (ix.step s2) iy st2 hy fun z μ3 u H3 ⟨kk, e, q⟩ iz st3 s3 => by
      subst e
      cases iz
      refine ⟨kk, rfl, ?_⟩
      cases kk with
      | true => exact ⟨ρ, μ3, ev, _, en.step (s1.trans (s2.trans s3)), st3, xo.step (s1.trans (s2.trans s3)), q, fun u μ4 w' H4 hu iu st4 s4 => sim' y u w w' μ4 H4 Φ Q (iy.step (s3.trans s4)) iu st4 hu (k.step (s1.trans (s2.trans (s3.trans s4))))⟩
      | false => exact (k.step (s1.trans (s2.trans s3))).now q (.bl false) st3⟩⟩
/-! tests -/
theorem vt_val {w : WE} (h : PE X e (up X.K T E w)) (he : ∀ whole, isTrue e X.env whole = (do let v ← whole; standAt e.pos; holding [v] (truthy v)) := by intro _; rfl) : PT X e (upT X.K T E (wTest w)) :=
  pt_mono (pt_val h he) fun σ H Q ⟨ρ, μ, ev, Φ, en, st, xo, h, k⟩ => ⟨ρ, μ, ev, _, en, st, xo, h, fun x μ1 v H1 ⟨c, e, hx⟩ ix st1 s1 => by
    subst e; cases ix; exact ⟨c, rfl, k c μ1 H1 hx st1 s1⟩⟩
theorem vt_cmp {op : CmpOp} {r : R2} {rd : V2} {wa wb : WE} (ho : OpR X (compareOp op) r) (sim : Sim2 X.K T r rd) (ha : PE X a (up X.K T E wa)) (hb : PE X b (up X.K T E wb)) (hm : behindInMarks op b = false) : PT X (.Compare a [op] [b] pos) (upT X.K T E (wTest (wOp rd wa wb))) :=
  pt_mono (pt_cmpR ho ha hb hm) fun σ H Q ⟨ρ, μ, ev, Φ, en, st, xo, h, k⟩ => ⟨ρ, μ, ev, _, en, st, xo, h, fun x μ1 v H1 hx ix st1 s1 =>
    ⟨ρ, μ1, ev, _, en.step s1, st1, xo.step s1, hx, fun y μ2 w H2 hy iy st2 s2 => sim x y v w μ2 H2 _ _ (ix.step s2) iy st2 hy fun z μ3 u H3 ⟨c, e, q⟩ iz st3 s3 => by
      subst e; cases iz; exact ⟨c, rfl, k c μ3 H3 q st3 (s1.trans (s2.trans s3))⟩⟩⟩
theorem vt_isN {wa : WE} {j} {pos' : Pos} (ha : PE X a (up X.K T E wa)) : PT X (.Compare a [.Is] [.Constant .none j pos'] pos) (upT X.K T E (wTest (wUn vIsN wa))) :=
  pt_mono (pt_cmp (pc_isN ha)) fun σ H Q ⟨ρ, μ, ev, Φ, en, st, xo, h, k⟩ => ⟨ρ, μ, ev, _, en, st, xo, h, fun x μ1 v H1 ⟨c, e, hx⟩ ix st1 s1 => by
    have e2 : decide (v = .non) = c := by rw [isNon_v ix]; injection e
    exact ⟨c, by rw [e2], k c μ1 H1 hx st1 s1⟩⟩
theorem vt_notN {wa : WE} {j} {pos' : Pos} (ha : PE X a (up X.K T E wa)) : PT X (.Compare a [.IsNot] [.Constant .none j pos'] pos) (upT X.K T E (wTest (wUn vNotN wa))) :=
  pt_mono (pt_cmp (pc_notN ha)) fun σ H Q ⟨ρ, μ, ev, Φ, en, st, xo, h, k⟩ => ⟨ρ, μ, ev, _, en, st, xo, h, fun x μ1 v H1 ⟨c, e, hx⟩ ix st1 s1 => by
    have e2 : (!decide (v = .non)) = c := by rw [isNon_v ix]; injection e
    exact ⟨c, by rw [e2], k c μ1 H1 hx st1 s1⟩⟩
theorem vt_chain {op op' : CmpOp} {r r' : R2} {rd rd' : V2} {wa wb wc : WE} (ho : OpR X (compareOp op) r) (sim : Sim2 X.K T r rd) (ho' : OpR X (compareOp op') r') (sim' : Sim2 X.K T r' rd') (ha : PE X a (up X.K T E wa)) (hb : PE X b (up X.K T E wb)) (hc : PE X c (up X.K T E wc))
    (hm : lastMarks [op, op'] [b, c] = false := by with_unfolding_all rfl) : PT X (.Compare a [op, op'] [b, c] pos) (upT X.K T E (wTest (wChain rd rd' wa wb wc))) :=
  pt_mono (pt_chain ho ho' ha hb hc hm) fun σ H Q ⟨ρ, μ, ev, Φ, en, st, xo, h, k⟩ => ⟨ρ, μ, ev, _, en, st, xo, h, fun x μ1 v H1 hx ix st1 s1 =>
    ⟨ρ, μ1, ev, _, en.step s1, st1, xo.step s1, hx, fun y μ2 w H2 hy iy st2 s2 => sim x y v w μ2 H2 _ _ (ix.step s2) iy st2 hy fun z μ3 u H3 ⟨kk, e, q⟩ iz st3 s3 => by
      subst e
      cases iz
      refine ⟨kk, rfl, ?_⟩
      cases kk with
      | true => exact ⟨ρ, μ3, ev, _, en.step (s1.trans (s2.trans s3)), st3, xo.step (s1.trans (s2.trans s3)), q, fun u μ4 w' H4 hu iu st4 s4 => sim' y u w w' μ4 H4 _ _ (iy.step (s3.trans s4)) iu st4 hu fun z μ5 u5 H5 ⟨c, e, q⟩ i5 st5 s5 => by
          subst e; cases i5; exact ⟨c, rfl, k c μ5 H5 q st5 (s1.trans (s2.trans (s3.trans (s4.trans s5))))⟩⟩
      | false =>
        obtain ⟨c, e, q⟩ := q
        cases e
        exact ⟨false, rfl, k false μ3 H3 q st3 (s1.trans (s2.trans s3))⟩⟩⟩
variable {t u : WT}
theorem vw_and1 (h : PT X a (upT X.K T E t)) : PW X (.BoolOp .And [a] pos) (upT X.K T E t) := pw_and1 h
theorem vw_or1 (h : PT X a (upT X.K T E t)) : PW X (.BoolOp .Or [a] pos) (upT X.K T E t) := pw_or1 h
theorem vw_and (ha : PT X a (upT X.K T E t)) (hb : PW X (.BoolOp .And (b :: rest) pos) (upT X.K T E u)) : PW X (.BoolOp .And (a :: b :: rest) pos) (upT X.K T E (wAnd t u)) :=
  pw_mono (pw_and ha hb) fun σ H Q ⟨ρ, μ, ev, Φ, en, st, xo, h, k⟩ => ⟨ρ, μ, ev, _, en, st, xo, h, fun c μ1 H1 hx st1 s1 => by
    cases c with
    | true => exact ⟨ρ, μ1, ev, _, en.step s1, st1, xo.step s1, hx, fun b μ' H' hb st' s' => k b μ' H' hb st' (s1.trans s')⟩
    | false => exact k false μ1 H1 hx st1 s1⟩
theorem vw_or (ha : PT X a (upT X.K T E t)) (hb : PW X (.BoolOp .Or (b :: rest) pos) (upT X.K T E u)) : PW X (.BoolOp .Or (a :: b :: rest) pos) (upT X.K T E (wOr t u)) :=
  pw_mono (pw_or ha hb) fun σ H Q ⟨ρ, μ, ev, Φ, en, st, xo, h, k⟩ => ⟨ρ, μ, ev, _, en, st, xo, h, fun c μ1 H1 hx st1 s1 => by
    cases c with
    | true => exact k true μ1 H1 hx st1 s1
    | false => exact ⟨ρ, μ1, ev, _, en.step s1, st1, xo.step s1, hx, fun b μ' H' hb st' s' => k b μ' H' hb st' (s1.trans s')⟩⟩
theorem vt_not (ha : PT X a (upT X.K T E t)) : PT X (.UnaryOp .Not a pos) (upT X.K T E (wNot t)) :=
  pt_mono (pt_not ha) fun σ H Q ⟨ρ, μ, ev, Φ, en, st, xo, h, k⟩ => ⟨ρ, μ, ev, _, en, st, xo, h, fun c μ1 H1 hx st1 s1 => k (!c) μ1 H1 hx st1 s1⟩
variable {wa wb : WE}
theorem ve_one {op} (h : PE X a (up X.K T E wa)) : PE X (.BoolOp op [a] pos) (up X.K T E wa) := pe_one h
theorem ve_and (ha : PE X a (up X.K T E wa)) (hb : PE X (.BoolOp .And (b :: rest) pos) (up X.K T E wb)) : PE X (.BoolOp .And (a :: b :: rest) pos) (up X.K T E (wAndV wa wb)) :=
  pe_mono (pe_and ha hb) fun σ H Q ⟨ρ, μ, ev, Φ, en, st, xo, h, k⟩ => ⟨ρ, μ, ev, _, en, st, xo, h, fun x μ1 v H1 ⟨c, e, hx⟩ ix st1 s1 => by
    subst e; cases ix
    refine ⟨c, rfl, ?_⟩
    cases c with
    | true => exact ⟨ρ, μ1, ev, _, en.step s1, st1, xo.step s1, hx, k.step s1⟩
    | false => exact (k.step s1).now hx (.bl false) st1⟩
theorem ve_or (ha : PE X a (up X.K T E wa)) (hb : PE X (.BoolOp .Or (b :: rest) pos) (up X.K T E wb)) : PE X (.BoolOp .Or (a :: b :: rest) pos) (up X.K T E (wOrV wa wb)) :=
  pe_mono (pe_or ha hb) fun σ H Q ⟨ρ, μ, ev, Φ, en, st, xo, h, k⟩ => ⟨ρ, μ, ev, _, en, st, xo, h, fun x μ1 v H1 ⟨c, e, hx⟩ ix st1 s1 => by
    subst e; cases ix
    refine ⟨c, rfl, ?_⟩
    cases c with
    | true => exact (k.step s1).now hx (.bl true) st1
    | false => exact ⟨ρ, μ1, ev, _, en.step s1, st1, xo.step s1, hx, k.step s1⟩⟩
theorem ve_not (ha : PE X a (up X.K T E wa)) : PE X (.UnaryOp .Not a pos) (up X.K T E (wNotV wa)) :=
  pe_mono (pe_not ha) fun σ H Q ⟨ρ, μ, ev, Φ, en, st, xo, h, k⟩ => ⟨ρ, μ, ev, _, en, st, xo, h, fun x μ1 v H1 ⟨c, e, hx⟩ ix st1 s1 => by
    subst e; cases ix; exact ⟨c, rfl, (k.step s1).now hx (.bl (!c)) st1⟩⟩
theorem ve_if (hc : PT X c (upT X.K T E t)) (ha : PE X a (up X.K T E wa)) (hb : PE X b (up X.K T E wb)) : PE X (.IfExp c a b pos) (up X.K T E (wIf t wa wb)) :=
  pe_mono (pe_ifExp hc ha hb) fun σ H Q ⟨ρ, μ, ev, Φ, en, st, xo, h, k⟩ => ⟨ρ, μ, ev, _, en, st, xo, h, fun d μ1 H1 hx st1 s1 => by
    cases d with
    | true => exact ⟨ρ, μ1, ev, _, en.step s1, st1, xo.step s1, hx, k.step s1⟩
    | false => exact ⟨ρ, μ1, ev, _, en.step s1, st1, xo.step s1, hx, k.step s1⟩⟩
/-! arguments, displays -/
variable {es : List Expr} {w : WA}
theorem va_nil : PA X [] (upA X.K T E wNil) := pa_mono pa_nil fun σ H Q ⟨ρ, μ, ev, Φ, en, st, xo, h, k⟩ => k [] μ [] H h .nil st (Step.refl _ _)
theorem va_cons (ha : PE X e (up X.K T E wa)) (hr : PA X es (upA X.K T E w)) (hs : starEach (e :: es) X.env = (false, eval e X.env) :: starEach es X.env := by rfl) : PA X (e :: es) (upA X.K T E (wCons wa w)) :=
  pa_mono (pa_cons ha hr hs) fun σ H Q ⟨ρ, μ, ev, Φ, en, st, xo, h, k⟩ => ⟨ρ, μ, ev, _, en, st, xo, h, fun x μ1 v H1 hx ix st1 s1 =>
    ⟨ρ, μ1, ev, _, en.step s1, st1, xo.step s1, hx, fun xs μ2 vs H2 hy iy st2 s2 => k _ μ2 _ H2 hy (.cons (ix.step s2) iy) st2 (s1.trans s2)⟩⟩
theorem va_star {p : Pos} (ha : PE X e (up X.K T E wa)) (hr : PA X es (upA X.K T E w)) : PA X (.Starred e p :: es) (upA X.K T E (wStar wa w)) :=
  pa_mono (StX.pa_star ha hr) fun σ H Q ⟨ρ, μ, ev, Φ, en, st, xo, h, k⟩ => ⟨ρ, μ, ev, _, en, st, xo, h, fun x μ1 v H1 ⟨ds, hs, hx⟩ ix st1 s1 => by
    obtain ⟨a, vs, rfl, sq, ia⟩ := is_seq st1 ix hs
    exact ⟨a, vs, rfl, sq.symm, ρ, μ1, ev, _, en.step s1, st1, xo.step s1, hx, fun xs μ2 us H2 hy iy st2 s2 => k _ μ2 _ H2 hy ((ia.step s2).app iy) st2 (s1.trans s2)⟩⟩
theorem ve_tup {x1} (h : PA X es (upA X.K T E w)) : PE X (.Tuple es x1 pos) (up X.K T E (wTup w)) :=
  pe_mono (pe_tup h) fun σ H Q ⟨ρ, μ, ev, Φ, en, st, xo, h, k⟩ => ⟨ρ, μ, ev, _, en, st, xo, h, fun xs μ1 vs H1 ⟨hl, hx⟩ ix st1 s1 => ⟨by rw [ix.len]; exact hl, fun p hp => (k.step s1).tup hx ix st1 p hp⟩⟩
theorem ve_lst (h : PA X es (upA X.K T E w)) : PE X (.List es pos) (up X.K T E (wLst w)) :=
  pe_mono (pe_lst h) fun σ H Q ⟨ρ, μ, ev, Φ, en, st, xo, h, k⟩ => ⟨ρ, μ, ev, _, en, st, xo, h, fun xs μ1 vs H1 ⟨hl, hx⟩ ix st1 s1 => ⟨by rw [ix.len]; exact hl, fun p hp => (k.step s1).lst hx ix st1 p hp⟩⟩
theorem ve_lstM (h : PA X es (upA X.K T E w)) : PE X (.List es pos) (up X.K T E (wLstM w)) :=
  pe_mono (pe_lst h) fun σ H Q ⟨ρ, μ, ev, Φ, en, st, xo, h, k⟩ => ⟨ρ, μ, ev, _, en, st, xo, h, fun xs μ1 vs H1 ⟨hl, hx⟩ ix st1 s1 => ⟨by rw [ix.len]; exact hl, fun p hp => (k.step s1).lstM hx ix st1 p hp⟩⟩
/-! calls of built-ins by value -/
theorem ve_callB {id : String} {r : List V → Hp → VK → Prop} {rd : VL_} {x : Str} {p : Pos} (hc : CallR X (.builtin id) r) (sim : SimL X.K T r rd) (hg : Gl X x) (hm : X.mg x = none) (hv : bootBuiltins x = some (.builtin id)) (ha : PA X (e :: es) (upA X.K T E w))
    (hn : x ≠ "__name__" := by decide) (hd : (x == ("__debug__" : Str)) = false := by decide) (he : starEach (e :: es) X.env = (false, eval e X.env) :: starEach es X.env := by rfl) (hpl : (backTo pos (starEach es X.env)).any (·.1) = false := by rfl) : PE X (.Call (.Name x p) (e :: es) [] pos) (up X.K T E (wCB rd w)) :=
  pe_mono (pe_callB hc hg hm hv ha (hn := hn) (hdb := hd) (he := he) (hpl := hpl)) fun σ H Q ⟨ρ, μ, ev, Φ, en, st, xo, h, k⟩ => ⟨ρ, μ, ev, _, en, st, xo, h, fun xs μ1 vs H1 hx ix st1 s1 => sim xs vs μ1 H1 Φ Q ix st1 hx (k.step s1)⟩
theorem ve_callTy {id : String} {r : List V → Hp → VK → Prop} {rd : VL_} {x : Str} {p : Pos} (hc : CallR X (.type id) r) (sim : SimL X.K T r rd) (hg : Gl X x) (hm : X.mg x = none) (hv : bootBuiltins x = some (.type id)) (ha : PA X (e :: es) (upA X.K T E w))
    (hn : x ≠ "__name__" := by decide) (hd : (x == ("__debug__" : Str)) = false := by decide) (he : starEach (e :: es) X.env = (false, eval e X.env) :: starEach es X.env := by rfl) (hpl : (backTo pos (starEach es X.env)).any (·.1) = false := by rfl) : PE X (.Call (.Name x p) (e :: es) [] pos) (up X.K T E (wCB rd w)) :=
  pe_mono (pe_callTy hc hg hm hv ha (hn := hn) (hdb := hd) (he := he) (hpl := hpl)) fun σ H Q ⟨ρ, μ, ev, Φ, en, st, xo, h, k⟩ => ⟨ρ, μ, ev, _, en, st, xo, h, fun xs μ1 vs H1 hx ix st1 s1 => sim xs vs μ1 H1 Φ Q ix st1 hx (k.step s1)⟩
/-! subscripts, slices -/
theorem ve_ix {r : R2} {rd : V2} (hr : IxR X r) (sim : Sim2 X.K T r rd) (ha : PE X a (up X.K T E wa)) (hb : PE X b (up X.K T E wb)) (hs : PlainIx b := by exact fun _ _ => rfl) : PE X (.Subscript a b pos) (up X.K T E (wOp rd wa wb)) :=
  pe_mono (pe_ix hr ha hb hs) fun σ H Q ⟨ρ, μ, ev, Φ, en, st, xo, h, k⟩ => ⟨ρ, μ, ev, _, en, st, xo, h, fun x μ1 v H1 hx ix st1 s1 =>
    ⟨ρ, μ1, ev, _, en.step s1, st1, xo.step s1, hx, fun y μ2 w H2 hy iy st2 s2 => sim x y v w μ2 H2 Φ Q (ix.step s2) iy st2 hy (k.step (s1.trans s2))⟩⟩
theorem vo_none : PO X none (upO X.K T E wNoPart) := ⟨fun pins s σ H Q I ⟨ρ, μ, ev, Φ, en, st, xo, h, k⟩ => po_none.run pins s σ H Q I (k none μ H h st (Step.refl _ _))⟩
theorem vo_some (ha : PE X e (up X.K T E wa)) : PO X (some e) (upO X.K T E (wPart wa)) := ⟨fun pins s σ H Q I ⟨ρ, μ, ev, Φ, en, st, xo, h, k⟩ => (po_some ha).run pins s σ H Q I ⟨ρ, μ, ev, _, en, st, xo, h, fun x μ1 v H1 ⟨i, e, hx⟩ ix st1 s1 => by
  subst e; cases ix; exact ⟨i, rfl, k _ μ1 H1 hx st1 s1⟩⟩⟩
theorem ve_slice {r : V → Option Int → Option Int → Hp → VK → Prop} {rd : VS} {lo hi : Option Expr} {wl wh : WO} {p2 : Pos} (hr : SlR X r) (sim : SimS X.K T r rd) (he : PE X e (up X.K T E wa)) (hl : PO X lo (upO X.K T E wl)) (hh : PO X hi (upO X.K T E wh)) : PE X (.Subscript e (.Slice lo hi none p2) pos) (up X.K T E (wSl rd wa wl wh)) :=
  pe_mono (pe_slice hr he hl hh) fun σ H Q ⟨ρ, μ, ev, Φ, en, st, xo, h, k⟩ => ⟨ρ, μ, ev, _, en, st, xo, h, fun x μ1 v H1 hx ix st1 s1 =>
    ⟨ρ, μ1, ev, _, en.step s1, st1, xo.step s1, hx, fun l μ2 H2 hy st2 s2 => ⟨ρ, μ2, ev, _, en.step (s1.trans s2), st2, xo.step (s1.trans s2), hy, fun u μ3 H3 hz st3 s3 => sim x v l u μ3 H3 Φ Q (ix.step (s2.trans s3)) st3 hz (k.step (s1.trans (s2.trans s3)))⟩⟩⟩
end
end VL

set_option maxRecDepth 100000
set_option maxHeartbeats 4000000
/-! values as trees: targets, statements, loops, comprehensions -/
namespace VL
open PySem L2 FW PyProof.Rows
/-! ### targets -/
def wName (i : Nat) : WG := fun d ρ μ _ Φ => Φ (ρ.set i (some d)) μ
def wGNil : WGs := fun ds ρ μ _ Φ => ds = [] ∧ Φ ρ μ
def wGCons (g : WG) (gs : WGs) : WGs := fun ds ρ μ ev Φ => ∃ d r, ds = d :: r ∧ g d ρ μ ev fun ρ' μ' => gs r ρ' μ' ev Φ
def tupOf : D → Option (List D)
  | .tup ds => some ds
  | _ => none
def wGTup (n : Nat) (gs : WGs) : WG := fun d ρ μ ev Φ => ∃ ds, tupOf d = some ds ∧ ds.length = n ∧ gs ds ρ μ ev Φ
abbrev VSet := D → D → D → Mu → (Mu → Prop) → Prop
def SimSet (K : PySem.W.Frag) (T : List (Addr × Str)) (r : TSet) (rd : VSet) : Prop := ∀ o i d vo vi vd μ H Φ (Q : Hp → Prop), Is K μ H vo o → Is K μ H vi i → Is K μ H vd d → Sto K T μ H → rd o i d μ Φ → (∀ μ' H', Φ μ' → Sto K T μ' H' → Step μ H μ' H' → Q H') → r vo vi vd H Q
def wSub (wo wi : WE) (r : VSet) : WG := fun d ρ μ ev Φ => wo ρ μ ev fun o μ1 => wi ρ μ1 ev fun i μ2 => r o i d μ2 fun μ3 => Φ ρ μ3
/-- a pattern: names, tuples of patterns -/
inductive Pat where
  | name (i : Nat) | tup (ps : List Pat) | row (ps : List Pat)
mutual
def Pat.bind : Pat → D → Ro → Option Ro
  | .name i, d, ρ => some (ρ.set i (some d))
  | .tup ps, d, ρ => match d with
    | .tup ds => Pat.binds ps ds ρ
    | _ => none
  | .row ps, d, ρ => match d with
    | .lst ds => Pat.binds ps ds ρ
    | _ => none
def Pat.binds : List Pat → List D → Ro → Option Ro
  | [], [], ρ => some ρ
  | p :: ps, d :: ds, ρ => match p.bind d ρ with
    | some ρ' => Pat.binds ps ds ρ'
    | none => none
  | _, _, _ => none
def Pat.slots : Pat → List Nat
  | .name i => [i]
  | .tup ps => Pat.slotss ps
  | .row ps => Pat.slotss ps
def Pat.slotss : List Pat → List Nat
  | [] => []
  | p :: ps => p.slots ++ Pat.slotss ps
end
mutual
def Pat.tg (K : PySem.W.Frag) : Pat → TG
  | .name i => gName i
  | .tup ps => gTup K ps.length (Pat.tgs K ps)
  | .row ps => gLst K ps.length (Pat.tgs K ps)
def Pat.tgs (K : PySem.W.Frag) : List Pat → TGs
  | [] => gNil
  | p :: ps => gCons (p.tg K) (Pat.tgs K ps)
end
/-- the same but for some slots -/
def Same (vs : List Nat) (σ σ' : L2.St) : Prop := σ'.length = σ.length ∧ ∀ i, i ∉ vs → σ'[i]? = σ[i]?
mutual
theorem Pat.run {K : PySem.W.Frag} {μ : Mu} {H : Hp} : ∀ (p : Pat) {d : D} {v : V} {ρ ρ' : Ro} {σ : L2.St} {Q : L2.St → Hp → Prop}, Is K μ H v d → Sl K μ H σ ρ → p.bind d ρ = some ρ' → (∀ σ', Sl K μ H σ' ρ' → Same p.slots σ σ' → Q σ' H) → p.tg K v σ H Q
  | .name i, d, v, ρ, ρ', σ, Q, iv, en, e, k => by
    simp only [Pat.bind, Option.some.injEq] at e
    subst e
    exact k _ (en.set i iv) ⟨List.length_set .., fun j hj => by
      simp only [Pat.slots, List.mem_singleton] at hj
      rw [List.getElem?_set_ne (fun z => hj z.symm)]⟩
  | .tup ps, d, v, ρ, ρ', σ, Q, iv, en, e, k => by
    cases iv with
    | tup a i =>
      rename_i b vs ds
      have e2 : Pat.binds ps ds ρ = some ρ' := by simpa only [Pat.bind] using e
      have hl : ds.length = ps.length := Pat.lenOf ps e2
      refine ⟨b, vs, rfl, a.sq, by rw [i.len]; exact hl, Pat.runs ps i en e2 fun σ' en' s => k σ' en' (by simpa only [Pat.slots] using s)⟩
    | _ => simp [Pat.bind] at e
  | .row ps, d, v, ρ, ρ', σ, Q, iv, en, e, k => by
    cases iv with
    | lst a i =>
      rename_i b vs ds
      have e2 : Pat.binds ps ds ρ = some ρ' := by simpa only [Pat.bind] using e
      have hl : ds.length = ps.length := Pat.lenOf ps e2
      refine ⟨b, vs, rfl, a.sq, by rw [i.len]; exact hl, Pat.runs ps i en e2 fun σ' en' s => k σ' en' (by simpa only [Pat.slots] using s)⟩
    | _ => simp [Pat.bind] at e
theorem Pat.runs {K : PySem.W.Frag} {μ : Mu} {H : Hp} : ∀ (ps : List Pat) {ds : List D} {vs : List V} {ρ ρ' : Ro} {σ : L2.St} {Q : L2.St → Hp → Prop}, IsAll K μ H vs ds → Sl K μ H σ ρ → Pat.binds ps ds ρ = some ρ' → (∀ σ', Sl K μ H σ' ρ' → Same (Pat.slotss ps) σ σ' → Q σ' H) → Pat.tgs K ps vs σ H Q
  | [], ds, vs, ρ, ρ', σ, Q, iv, en, e, k => by
    cases iv with
    | nil =>
      simp only [Pat.binds, Option.some.injEq] at e
      subst e
      exact ⟨rfl, k σ en ⟨rfl, fun _ _ => rfl⟩⟩
    | cons a b => simp [Pat.binds] at e
  | p :: ps, ds, vs, ρ, ρ', σ, Q, iv, en, e, k => by
    cases iv with
    | nil => simp [Pat.binds] at e
    | cons a b =>
      simp only [Pat.binds] at e
      split at e
      · rename_i ρ1 h1
        refine ⟨_, _, rfl, Pat.run p a en h1 fun σ1 en1 s1 => Pat.runs ps b en1 e fun σ2 en2 s2 => k σ2 en2 ⟨by rw [s2.1, s1.1], fun j hj => ?_⟩⟩
        simp only [Pat.slotss, List.mem_append, not_or] at hj
        rw [s2.2 j hj.2, s1.2 j hj.1]
      · cases e
theorem Pat.lenOf : ∀ (ps : List Pat) {ds : List D} {ρ ρ' : Ro}, Pat.binds ps ds ρ = some ρ' → ds.length = ps.length
  | [], [], _, _, _ => rfl
  | [], _ :: _, _, _, e => by simp [Pat.binds] at e
  | _ :: _, [], _, _, e => by simp [Pat.binds] at e
  | p :: ps, d :: ds, ρ, ρ', e => by
    simp only [Pat.binds] at e
    split at e
    · rw [List.length_cons, List.length_cons, Pat.lenOf ps e]
    · cases e
end
section
variable {X : Cx} {T : List (Addr × Str)} {E : XK}
theorem vg_name {i : Nat} {x : Str} {pos : Pos} (hN : X.N.Nodup) (hi : X.N[i]? = some x) (hx : Loc X.env.scope x) (hf : X.fn x = true ∨ X.env.scope.names.lookup x = some .local := by first | exact .inl rfl | exact .inr rfl | assumption) : PG X (.Name x pos) (upG X.K T E (wName i)) :=
  pg_mono (pg_name hN hi hx hf) fun v σ H Q ⟨d, ρ, μ, ev, Φ, iv, en, st, xo, h, k⟩ => k _ μ _ H h (en.set i iv) st (Step.refl _ _)
theorem vgs_nil : PGs X [] (upGs X.K T E wGNil) :=
  pgs_mono pgs_nil fun vs σ H Q ⟨ds, ρ, μ, ev, Φ, iv, en, st, xo, ⟨e, h⟩, k⟩ => by
    subst e; cases iv; exact ⟨rfl, k ρ μ σ H h en st (Step.refl _ _)⟩
theorem vgs_cons {e : Expr} {es : List Expr} {g : WG} {gs : WGs} (h1 : PG X e (upG X.K T E g)) (h2 : PGs X es (upGs X.K T E gs)) (hs : (assignEach (e :: es) X.env).map (·.2) = assign e X.env :: (assignEach es X.env).map (·.2) := by rfl) : PGs X (e :: es) (upGs X.K T E (wGCons g gs)) :=
  pgs_mono (pgs_cons h1 h2 hs) fun vs σ H Q ⟨ds, ρ, μ, ev, Φ, iv, en, st, xo, ⟨d, r, e, h⟩, k⟩ => by
    subst e
    cases iv with
    | cons a b => exact ⟨_, _, rfl, d, ρ, μ, ev, _, a, en, st, xo, h, fun ρ1 μ1 σ1 H1 q en1 st1 s1 => ⟨r, ρ1, μ1, ev, Φ, b.step s1, en1, st1, xo.step s1, q, fun ρ2 μ2 σ2 H2 q2 en2 st2 s2 => k ρ2 μ2 σ2 H2 q2 en2 st2 (s1.trans s2)⟩⟩
theorem vg_tup {es : List Expr} {kk : Nat} {n : Nat} {gs : WGs} {pos : Pos} (p : ∀ t : TGs, PGs X es t → PG X (.Tuple es kk pos) (gTup X.K n t)) (h : PGs X es (upGs X.K T E gs)) : PG X (.Tuple es kk pos) (upG X.K T E (wGTup n gs)) :=
  pg_mono (p _ h) fun v σ H Q ⟨d, ρ, μ, ev, Φ, iv, en, st, xo, ⟨ds, e, hl, h⟩, k⟩ => by
    cases iv with
    | tup a i =>
      simp only [tupOf, Option.some.injEq] at e
      subst e
      exact ⟨_, _, rfl, a.sq, by rw [i.len]; exact hl, _, ρ, μ, ev, Φ, i, en, st, xo, h, k⟩
    | _ => simp [tupOf] at e
theorem vg_sub {o i : Expr} {wo wi : WE} {r : TSet} {rd : VSet} {pos : Pos} (p : ∀ to ti : TE, PE X o to → PE X i ti → PG X (.Subscript o i pos) (gSub to ti r)) (sim : SimSet X.K T r rd) (ho : PE X o (up X.K T E wo)) (hi : PE X i (up X.K T E wi)) : PG X (.Subscript o i pos) (upG X.K T E (wSub wo wi rd)) :=
  pg_mono (p _ _ ho hi) fun v σ H Q ⟨d, ρ, μ, ev, Φ, iv, en, st, xo, h, k⟩ => ⟨ρ, μ, ev, _, en, st, xo, h, fun x μ1 vo H1 hx ix st1 s1 =>
    ⟨ρ, μ1, ev, _, en.step s1, st1, xo.step s1, hx, fun y μ2 vi H2 hy iy st2 s2 => sim x y d vo vi v μ2 H2 _ _ (ix.step s2) iy (iv.step (s1.trans s2)) st2 hy fun μ3 H3 q st3 s3 => k ρ μ3 σ H3 q (en.step (s1.trans (s2.trans s3))) st3 (s1.trans (s2.trans s3))⟩⟩
/-! ### statements -/
def wNext : WS := fun DD ρ μ _ => DD.nx ρ μ
def wSeq (t u : WS) : WS := fun DD ρ μ ev => t { DD with nx := fun ρ' μ' => u DD ρ' μ' ev } ρ μ ev
def wAsg (w : WE) (g : WG) : WS := fun DD ρ μ ev => w ρ μ ev fun d μ1 => g d ρ μ1 ev DD.nx
def wDrop (w : WE) : WS := fun DD ρ μ ev => w ρ μ ev fun _ μ1 => DD.nx ρ μ1
def wRet (w : WE) : WS := fun DD ρ μ ev => w ρ μ ev DD.rt
def wRetN : WS := fun DD _ μ _ => DD.rt .non μ
def wIfS (t : WT) (a b : WS) : WS := fun DD ρ μ ev => t ρ μ ev fun c μ1 => if c = true then a DD ρ μ1 ev else b DD ρ μ1 ev
def wBreak : WS := fun DD ρ μ _ => DD.bk ρ μ
def wCont : WS := fun DD ρ μ _ => DD.ct ρ μ
def wPar (i j : Nat) (w : WA) : WS := fun DD ρ μ ev => w ρ μ ev fun ds μ1 => ∃ d e, ds = [d, e] ∧ DD.nx ((ρ.set i (some d)).set j (some e)) μ1
theorem EndsOk.nx {K : PySem.W.Frag} {μ : Mu} {H : Hp} {DD : VEnds} {Dn : Ends} {ρ : Ro} {σ : L2.St} (k : EndsOk K T μ H DD Dn) (h : DD.nx ρ μ) (en : Sl K μ H σ ρ) (st : Sto K T μ H) : Dn.nx σ H := k.1 ρ μ σ H h en st (Step.refl _ _)
theorem EndsOk.rtK {K : PySem.W.Frag} {μ : Mu} {H : Hp} {DD : VEnds} {Dn : Ends} (k : EndsOk K T μ H DD Dn) : KOk K T μ H DD.rt Dn.rt := k.2.1
variable {st st1 : Stmt} {rest : List Stmt} {t u : WS} {w : WE} {e : Expr} {pos : Pos}
theorem vs_pass : PS X (.Pass pos) (upS X.K T E wNext) := ps_mono ps_pass fun Dn σ H ⟨ρ, μ, ev, DD, en, st, xo, h, k⟩ => k.nx h en st
theorem vs_break : PS X (.Break pos) (upS X.K T E wBreak) := ps_mono ps_break fun Dn σ H ⟨ρ, μ, ev, DD, en, st, xo, h, k⟩ => k.2.2.1 ρ μ σ H h en st (Step.refl _ _)
theorem vss_nil : PSs X [] (upS X.K T E wNext) := pss_mono pss_nil fun Dn σ H ⟨ρ, μ, ev, DD, en, st, xo, h, k⟩ => k.nx h en st
theorem vss_one (h1 : PS X st1 (upS X.K T E t)) : PSs X [st1] (upS X.K T E t) := pss_one h1
theorem vss_cons (h1 : PS X st1 (upS X.K T E t)) (h2 : PSs X rest (upS X.K T E u)) : PSs X (st1 :: rest) (upS X.K T E (wSeq t u)) :=
  pss_mono (pss_cons h1 h2) fun Dn σ H ⟨ρ, μ, ev, DD, en, st, xo, h, k⟩ => ⟨ρ, μ, ev, _, en, st, xo, h, fun ρ1 μ1 σ1 H1 q en1 st1 s1 => ⟨ρ1, μ1, ev, DD, en1, st1, xo.step s1, q, k.step s1⟩, k.2.1, k.2.2.1, k.2.2.2⟩
theorem vs_asg {tg : Expr} {g : WG} (he : PE X e (up X.K T E w)) (hg : PG X tg (upG X.K T E g)) (hs : swapsWithSole [tg] e pos.line X.env = pure false := by rfl) (hw : swappedStores [tg] e X.env = pure none := by rfl) (h1 : (assignEach [tg] X.env).map (·.2) = [assign tg X.env] := by rfl) : PS X (.Assign [tg] e pos) (upS X.K T E (wAsg w g)) :=
  ps_mono (ps_asg he hg hs hw h1) fun Dn σ H ⟨ρ, μ, ev, DD, en, st, xo, h, k⟩ => ⟨ρ, μ, ev, _, en, st, xo, h, fun d μ1 v H1 hd iv st1 s1 => ⟨d, ρ, μ1, ev, _, iv, en.step s1, st1, xo.step s1, hd, (k.step s1).1⟩⟩
theorem vs_set {i : Nat} {x : Str} {pos' : Pos} (hN : X.N.Nodup) (hi : X.N[i]? = some x) (hx : Loc X.env.scope x) (he : PE X e (up X.K T E w)) (hs : swapsWith e (some (.Name x pos')) pos.line X.env = pure false := by rfl) (hf : X.fn x = true ∨ X.env.scope.names.lookup x = some .local := by first | exact .inl rfl | exact .inr rfl | assumption) : PS X (.Assign [.Name x pos'] e pos) (upS X.K T E (wAsg w (wName i))) :=
  ps_mono (ps_set hN hi hx he hs hf) fun Dn σ H ⟨ρ, μ, ev, DD, en, st, xo, h, k⟩ => ⟨ρ, μ, ev, _, en, st, xo, h, fun d μ1 v H1 hd iv st1 s1 => (k.step s1).nx hd ((en.step s1).set i iv) st1⟩
theorem vs_ret (he : PE X e (up X.K T E w)) : PS X (.Return (some e) pos) (upS X.K T E (wRet w)) :=
  ps_mono (ps_ret he) fun Dn σ H ⟨ρ, μ, ev, DD, en, st, xo, h, k⟩ => ⟨ρ, μ, ev, _, en, st, xo, h, k.rtK⟩
theorem vs_retN : PS X (.Return none pos) (upS X.K T E wRetN) :=
  ps_mono ps_retN fun Dn σ H ⟨ρ, μ, ev, DD, en, st, xo, h, k⟩ => k.rtK.now h .non st
theorem vs_expr (he : PE X e (up X.K T E w)) (hs : swapsWith e none pos.line X.env = pure false := by rfl) : PS X (.Expr e pos) (upS X.K T E (wDrop w)) :=
  ps_mono (ps_expr he hs) fun Dn σ H ⟨ρ, μ, ev, DD, en, st, xo, h, k⟩ => ⟨ρ, μ, ev, _, en, st, xo, h, fun d μ1 v H1 hd iv st1 s1 => (k.step s1).nx hd (en.step s1) st1⟩
theorem vs_if {c : Expr} {a b : List Stmt} {tc : WT} (hc : PT X c (upT X.K T E tc)) (ha : PSs X a (upS X.K T E t)) (hb : PSs X b (upS X.K T E u)) : PS X (.If c a b pos) (upS X.K T E (wIfS tc t u)) :=
  ps_mono (ps_if hc ha hb) fun Dn σ H ⟨ρ, μ, ev, DD, en, st, xo, h, k⟩ => ⟨ρ, μ, ev, _, en, st, xo, h, fun d μ1 H1 hd st1 s1 => by
    cases d with
    | true => exact ⟨ρ, μ1, ev, DD, en.step s1, st1, xo.step s1, hd, k.step s1⟩
    | false => exact ⟨ρ, μ1, ev, DD, en.step s1, st1, xo.step s1, hd, k.step s1⟩⟩
/-- a, b = e, f -/
theorem vs_par {i j : Nat} {s : Stmt} {w : WA} (h : PS X s (tPar i j (upA X.K T E w))) : PS X s (upS X.K T E (wPar i j w)) :=
  ps_mono h fun Dn σ H ⟨ρ, μ, ev, DD, en, st, xo, h, k⟩ => ⟨ρ, μ, ev, _, en, st, xo, h, fun ds μ1 vs H1 ⟨d, e, q, hd⟩ iv st1 s1 => by
    subst q
    cases iv with
    | cons a b => cases b with
      | cons b c => cases c; exact ⟨_, _, rfl, (k.step s1).nx hd (((en.step s1).set i a).set j b) st1⟩⟩
/-! ### while -/
def wWhile (c : WT) (b : WS) : WS := fun DD ρ μ ev => ∃ I : Nat → Ro → Mu → Prop, (∃ m, I m ρ μ) ∧ ∀ m ρ μ, I m ρ μ → c ρ μ ev fun k μ1 => if k = true then b { DD with nx := fun ρ' μ' => ∃ m', m' < m ∧ I m' ρ' μ', ct := fun ρ' μ' => ∃ m', m' < m ∧ I m' ρ' μ', bk := DD.nx } ρ μ1 ev else DD.nx ρ μ1
theorem vs_while {c : Expr} {body : List Stmt} {tc : WT} {tb : WS} (hp : PassesOwn (model X.prog X.w) X.A X.env X.xe) (hc : PT X c (upT X.K T E tc)) (hb : PSs X body (upS X.K T E tb)) : PS X (.While c body [] pos) (upS X.K T E (wWhile tc tb)) :=
  ps_mono (ps_while hp hc hb) fun Dn σ H ⟨ρ, μ, ev, DD, en, st, xo, ⟨I, ⟨m0, i0⟩, turn⟩, k⟩ => by
    refine ⟨fun m σ1 H1 => ∃ ρ1 μ1, Sl X.K μ1 H1 σ1 ρ1 ∧ Sto X.K T μ1 H1 ∧ Step μ H μ1 H1 ∧ I m ρ1 μ1, ⟨m0, ρ, μ, en, st, Step.refl _ _, i0⟩, fun m σ1 H1 ⟨ρ1, μ1, en1, st1, s1, i1⟩ => ?_⟩
    refine ⟨ρ1, μ1, ev, _, en1, st1, xo.step s1, turn m ρ1 μ1 i1, fun b μ2 H2 q st2 s2 => ?_⟩
    cases b with
    | true =>
      refine ⟨fun σ3 H3 => ∃ m', m' < m ∧ ∃ ρ3 μ3, Sl X.K μ3 H3 σ3 ρ3 ∧ Sto X.K T μ3 H3 ∧ Step μ H μ3 H3 ∧ I m' ρ3 μ3, fun σ3 H3 z => z, ρ1, μ2, ev, _, en1.step s2, st2, xo.step (s1.trans s2), q, ?_⟩
      exact ⟨fun ρ3 μ3 σ3 H3 ⟨m', l, i3⟩ en3 st3 s3 => ⟨m', l, ρ3, μ3, en3, st3, s1.trans (s2.trans s3), i3⟩, (k.step (s1.trans s2)).2.1, (k.step (s1.trans s2)).1, fun ρ3 μ3 σ3 H3 ⟨m', l, i3⟩ en3 st3 s3 => ⟨m', l, ρ3, μ3, en3, st3, s1.trans (s2.trans s3), i3⟩⟩
    | false => exact (k.step (s1.trans s2)).nx q (en1.step s2) st2
/-! ### what is walked -/
abbrev WI := Ro → Mu → EV → (List D → (Mu → Prop) → Mu → Prop) → Prop
def ItOk (K : PySem.W.Frag) (T : List (Addr × Str)) (J : It) (ds : List D) (P : Mu → Prop) (μ : Mu) (H : Hp) : Prop := ∀ μ' H', Step μ H μ' H' → Sto K T μ' H' → P μ' → ∀ i,
  (∀ d, ds[i]? = some d → J.go i H' ∧ ∀ x H'', J.yld i H' x H'' → Is K μ' H'' x d ∧ Sto K T μ' H'' ∧ Step μ' H' μ' H'') ∧ (ds.length ≤ i → J.stop i H')
def upI (K : PySem.W.Frag) (T : List (Addr × Str)) (E : XK) (w : WI) : TI := fun σ H R => ∃ ρ μ ev Ψ, Sl K μ H σ ρ ∧ Sto K T μ H ∧ XOk K T μ H ev E ∧ w ρ μ ev Ψ ∧ ∀ ds P μ' J H', Ψ ds P μ' → Sto K T μ' H' → Step μ H μ' H' → ItOk K T J ds P μ' H' → R J H'
theorem pi_mono {tg iter : Expr} {wi wi' : TI} (p : PI X tg iter wi) (h : ∀ σ H R, wi' σ H R → wi σ H R) : PI X tg iter wi' := ⟨fun pins s σ H R I q => p.run pins s σ H R I (h σ H R q)⟩
def noP : Mu → Prop := fun _ => True
/-- over a list, a tuple that stays -/
def fzL : D → Option (List D)
  | .lst ds => some ds
  | .sq ds => some ds
  | _ => none
def iwL (w : WE) : WI := fun ρ μ ev Ψ => w ρ μ ev fun d μ1 => ∃ ds, fzL d = some ds ∧ Ψ ds noP μ1
def iwT (w : WE) : WI := fun ρ μ ev Ψ => w ρ μ ev fun d μ1 => ∃ ds, tupOf d = some ds ∧ Ψ ds noP μ1
/-- over a list that may change, as it stands -/
def iwM (w : WE) : WI := fun ρ μ ev Ψ => w ρ μ ev fun d μ1 => ∃ a ds, d = .ref a ∧ μ1 a = some (.lst ds) ∧ Ψ ds (fun μ' => μ' a = some (.lst ds)) μ1
def iwR1 (w : WA) : WI := fun ρ μ ev Ψ => w ρ μ ev fun xs μ1 => ∃ j : Int, xs = [.int j] ∧ -(2 ^ 62) ≤ j ∧ j < 2 ^ 62 ∧ Ψ ((List.range j.toNat).map fun k => .int (k : Nat)) noP μ1
def iwR2 (w : WA) : WI := fun ρ μ ev Ψ => w ρ μ ev fun xs μ1 => ∃ i j : Int, xs = [.int i, .int j] ∧ (-(2 ^ 62) ≤ i ∧ i < 2 ^ 62 ∧ -(2 ^ 62) ≤ j ∧ j < 2 ^ 62) ∧ Ψ ((List.range (j - i).toNat).map fun k => .int (i + (k : Nat))) noP μ1
def enumD (ds : List D) : List D := ds.zipIdx.map fun p => .tup [.int (p.2 : Nat), p.1]
def iwE (w : WA) : WI := fun ρ μ ev Ψ => w ρ μ ev fun xs μ1 => ∃ x ds, xs = [x] ∧ fzL x = some ds ∧ Ψ (enumD ds) noP μ1
def zipD (xs ys : List D) : List D := (xs.zip ys).map fun p => .tup [p.1, p.2]
def iwZ (w : WA) : WI := fun ρ μ ev Ψ => w ρ μ ev fun xs μ1 => ∃ x y ds es, xs = [x, y] ∧ ((fzL x = some ds ∧ fzL y = some es) ∨ (tupOf x = some ds ∧ tupOf y = some es)) ∧ Ψ (zipD ds es) noP μ1
theorem fzL_is {K : PySem.W.Frag} {μ : Mu} {H : Hp} {v : V} {d : D} {ds : List D} (h : Is K μ H v d) (e : fzL d = some ds) : ∃ a vs, v = .ref a ∧ AtS K μ H a vs ∧ IsAll K μ H vs ds := by
  cases h with
  | lst a i => simp only [fzL, Option.some.injEq] at e; subst e; exact ⟨_, _, rfl, .inl ⟨a.1, .inl a.2⟩, i⟩
  | sq a i => simp only [fzL, Option.some.injEq] at e; subst e; exact ⟨_, _, rfl, a, i⟩
  | _ => simp [fzL] at e
theorem tupOf_is {K : PySem.W.Frag} {μ : Mu} {H : Hp} {v : V} {d : D} {ds : List D} (h : Is K μ H v d) (e : tupOf d = some ds) : ∃ a vs, v = .ref a ∧ AtT K μ H a vs ∧ IsAll K μ H vs ds := by
  cases h with
  | tup a i => simp only [tupOf, Option.some.injEq] at e; subst e; exact ⟨_, _, rfl, a, i⟩
  | _ => simp [tupOf] at e
variable {tg iter : Expr}
theorem vi_list {w : WE} (h : PE X iter (up X.K T E w)) : PI X tg iter (upI X.K T E (iwL w)) :=
  pi_mono (pi_list h) fun σ H R ⟨ρ, μ, ev, Ψ, en, st, xo, h, k⟩ => ⟨ρ, μ, ev, _, en, st, xo, h, fun d μ1 v H1 ⟨ds, e, q⟩ iv st1 s1 => by
    obtain ⟨a, vs, rfl, at_, ia⟩ := fzL_is iv e
    refine ⟨a, rfl, ⟨vs, at_.sq⟩, k ds _ μ1 _ H1 q st1 s1 fun μ2 H2 s2 st2 _ i => ⟨fun x hx => ?_, fun hl => ⟨vs, (at_.step s2).sq, by rw [ia.len]; exact hl⟩⟩⟩
    obtain ⟨u, e1, e2⟩ := (ia.step s2).get hx
    exact ⟨⟨vs, u, (at_.step s2).sq, e1⟩, fun y H3 ⟨z1, z2⟩ => by subst z1; have := z2 vs (at_.step s2).sq; rw [e1] at this; cases this; exact ⟨e2, st2, Step.refl _ _⟩⟩⟩
theorem vi_tup {w : WE} (h : PE X iter (up X.K T E w)) : PI X tg iter (upI X.K T E (iwT w)) :=
  pi_mono (pi_tup h) fun σ H R ⟨ρ, μ, ev, Ψ, en, st, xo, h, k⟩ => ⟨ρ, μ, ev, _, en, st, xo, h, fun d μ1 v H1 ⟨ds, e, q⟩ iv st1 s1 => by
    obtain ⟨a, vs, rfl, at_, ia⟩ := tupOf_is iv e
    refine ⟨a, rfl, ⟨vs, at_.sq⟩, k ds _ μ1 _ H1 q st1 s1 fun μ2 H2 s2 st2 _ i => ⟨fun x hx => ?_, fun hl => ⟨vs, (at_.step s2).sq, by rw [ia.len]; exact hl⟩⟩⟩
    obtain ⟨u, e1, e2⟩ := (ia.step s2).get hx
    exact ⟨⟨vs, u, (at_.step s2).sq, e1⟩, fun y H3 ⟨z1, z2⟩ => by subst z1; have := z2 vs (at_.step s2).sq; rw [e1] at this; cases this; exact ⟨e2, st2, Step.refl _ _⟩⟩⟩
theorem vi_mut {w : WE} (h : PE X iter (up X.K T E w)) : PI X tg iter (upI X.K T E (iwM w)) :=
  pi_mono (pi_list h) fun σ H R ⟨ρ, μ, ev, Ψ, en, st, xo, h, k⟩ => ⟨ρ, μ, ev, _, en, st, xo, h, fun d μ1 v H1 ⟨a, ds, e, hm, q⟩ iv st1 s1 => by
    subst e
    cases iv
    obtain ⟨vs, h1, ia⟩ := st1.mo _ _ hm
    refine ⟨a, rfl, ⟨vs, SqL.of h1⟩, k ds _ μ1 _ H1 q st1 s1 fun μ2 H2 s2 st2 hp i => ?_⟩
    obtain ⟨us, h2, ib⟩ := st2.mo _ _ hp
    refine ⟨fun x hx => ?_, fun hl => ⟨us, SqL.of h2, by rw [ib.len]; exact hl⟩⟩
    obtain ⟨u, e1, e2⟩ := ib.get hx
    exact ⟨⟨us, u, SqL.of h2, e1⟩, fun y H3 ⟨z1, z2⟩ => by subst z1; have := z2 us (SqL.of h2); rw [e1] at this; cases this; exact ⟨e2, st2, Step.refl _ _⟩⟩⟩
theorem itOk_range {K : PySem.W.Frag} {T : List (Addr × Str)} {lo : Int} {n : Nat} {μ : Mu} {H : Hp} : ItOk K T (Itr lo n) ((List.range n).map fun k => .int (lo + (k : Nat))) noP μ H := fun μ2 H2 s2 st2 _ i => by
  refine ⟨fun d hd => ?_, fun hl => by rw [List.length_map, List.length_range] at hl; exact hl⟩
  rw [List.getElem?_map] at hd
  by_cases hi : i < n
  · rw [List.getElem?_range hi] at hd
    cases hd
    exact ⟨hi, fun y H3 ⟨z1, z2⟩ => by subst z1; subst z2; exact ⟨.int _, st2, Step.refl _ _⟩⟩
  · rw [List.getElem?_eq_none (by rw [List.length_range]; omega)] at hd; cases hd
theorem vi_range1 {a : Expr} {w : WA} {p pos : Pos} (hg : Gl X "range") (hm : X.mg "range" = none) (h : PA X [a] (upA X.K T E w)) (hs : starEach [a] X.env = [(false, eval a X.env)] := by rfl) : PI X tg (.Call (.Name "range" p) [a] [] pos) (upI X.K T E (iwR1 w)) :=
  pi_mono (pi_range1 hg hm h hs) fun σ H R ⟨ρ, μ, ev, Ψ, en, st, xo, h, k⟩ => ⟨ρ, μ, ev, _, en, st, xo, h, fun ds μ1 vs H1 ⟨j, e, h1, h2, q⟩ iv st1 s1 => by
    subst e
    cases iv with
    | cons a b =>
      cases a; cases b
      refine ⟨j, rfl, h1, h2, k _ _ μ1 _ H1 q st1 s1 ?_⟩
      have := itOk_range (K := X.K) (T := T) (lo := 0) (n := j.toNat) (μ := μ1) (H := H1)
      simp only [Int.zero_add] at this
      exact this⟩
theorem vi_range2 {a b : Expr} {w : WA} {p pos : Pos} (hg : Gl X "range") (hm : X.mg "range" = none) (h : PA X [a, b] (upA X.K T E w)) (hs : starEach [a, b] X.env = [(false, eval a X.env), (false, eval b X.env)] := by rfl) (hs2 : starEach [b] X.env = [(false, eval b X.env)] := by rfl) : PI X tg (.Call (.Name "range" p) [a, b] [] pos) (upI X.K T E (iwR2 w)) :=
  pi_mono (pi_range2 hg hm h hs hs2) fun σ H R ⟨ρ, μ, ev, Ψ, en, st, xo, h, k⟩ => ⟨ρ, μ, ev, _, en, st, xo, h, fun ds μ1 vs H1 ⟨i, j, e, hh, q⟩ iv st1 s1 => by
    subst e
    cases iv with
    | cons a b =>
      cases b with
      | cons b c =>
        cases a; cases b; cases c
        exact ⟨i, j, rfl, hh, k _ _ μ1 _ H1 q st1 s1 itOk_range⟩⟩
theorem enumD_get {ds : List D} {i : Nat} {d : D} (h : (enumD ds)[i]? = some d) : ∃ x, ds[i]? = some x ∧ d = .tup [.int (i : Nat), x] := by
  unfold enumD at h
  rw [List.getElem?_map, List.getElem?_zipIdx] at h
  cases q : ds[i]? with
  | none => rw [q] at h; cases h
  | some x => rw [q] at h; simp only [Option.map_some, Option.some.injEq, Nat.zero_add] at h; exact ⟨x, rfl, h.symm⟩
theorem vi_enum {e : Expr} {w : WA} {p pos tpos : Pos} {elts : List Expr} {kk : Nat} (hg : Gl X "enumerate") (hm : X.mg "enumerate" = none) (h : PA X [e] (upA X.K T E w)) (hs : starEach [e] X.env = [(false, eval e X.env)] := by rfl) : PI X (.Tuple elts kk tpos) (.Call (.Name "enumerate" p) [e] [] pos) (upI X.K T E (iwE w)) :=
  pi_mono (pi_enum hg hm h hs) fun σ H R ⟨ρ, μ, ev, Ψ, en, st, xo, h, k⟩ => ⟨ρ, μ, ev, _, en, st, xo, h, fun xs μ1 us H1 ⟨x, ds, e, hx, q⟩ iv st1 s1 => by
    subst e
    cases iv with
    | cons ix b =>
      cases b
      obtain ⟨a, vs, rfl, at_, ia⟩ := fzL_is ix hx
      refine ⟨a, vs, rfl, at_.sq, k _ _ μ1 _ H1 q st1 s1 fun μ2 H2 s2 st2 _ i => ⟨fun d hd => ?_, fun hl => ⟨vs, (at_.step s2).sq, by rw [ia.len]; unfold enumD at hl; rw [List.length_map, List.length_zipIdx] at hl; exact hl⟩⟩⟩
      obtain ⟨z, hz, rfl⟩ := enumD_get hd
      obtain ⟨u, e1, e2⟩ := (ia.step s2).get hz
      refine ⟨⟨vs, u, (at_.step s2).sq, e1⟩, fun y H3 ⟨Tp, x', hy, nT, hH, hv⟩ => ?_⟩
      subst hy hH
      have := hv vs (at_.step s2).sq
      rw [e1] at this; cases this
      have ss := step_new (μ := μ2) (o := .tup [.int (i : Nat), u]) nT (st2.free nT)
      exact ⟨.tup (.inl ⟨st2.free nT, upd_same⟩) (.cons (.int _) (.cons (e2.step ss) .nil)), st2.new nT, ss⟩⟩
theorem zipD_get {xs ys : List D} {i : Nat} {d : D} (h : (zipD xs ys)[i]? = some d) : ∃ x y, xs[i]? = some x ∧ ys[i]? = some y ∧ d = .tup [x, y] := by
  unfold zipD at h
  rw [List.getElem?_map] at h
  cases q : (xs.zip ys)[i]? with
  | none => rw [q] at h; cases h
  | some p =>
    rw [q] at h
    simp only [Option.map_some, Option.some.injEq] at h
    obtain ⟨h1, h2⟩ := List.getElem?_zip_eq_some.mp (show (xs.zip ys)[i]? = some (p.1, p.2) from q)
    exact ⟨p.1, p.2, h1, h2, h.symm⟩
theorem vi_zip {e e2 : Expr} {w : WA} {p pos tpos : Pos} {elts : List Expr} {kk : Nat} (hg : Gl X "zip") (hm : X.mg "zip" = none) (h : PA X [e, e2] (upA X.K T E w))
    (hs : starEach [e, e2] X.env = (false, eval e X.env) :: starEach [e2] X.env := by rfl) (hpl : (backTo pos (starEach [e2] X.env)).any (·.1) = false := by rfl) : PI X (.Tuple elts kk tpos) (.Call (.Name "zip" p) [e, e2] [] pos) (upI X.K T E (iwZ w)) :=
  pi_mono (RZ.pi_zipA hg hm h hs hpl) fun σ H R ⟨ρ, μ, ev, Ψ, en, st, xo, h, k⟩ => ⟨ρ, μ, ev, _, en, st, xo, h, fun xs μ1 us H1 ⟨x, y, ds, es, e, hx, q⟩ iv st1 s1 => by
    subst e
    cases iv with
    | cons ix b =>
      cases b with
      | cons iy c =>
        cases c
        rcases hx with ⟨hx, hy⟩ | ⟨hx, hy⟩
        · obtain ⟨a, vs, rfl, at_, ia⟩ := fzL_is ix hx
          obtain ⟨b, ws, rfl, bt_, ib⟩ := fzL_is iy hy
          refine ⟨a, b, vs, ws, rfl, .inl ⟨at_.sq, bt_.sq, k _ _ μ1 _ H1 q st1 s1 fun μ2 H2 s2 st2 _ i => ⟨fun d hd => ?_, fun hl => ⟨vs, ws, (at_.step s2).sq, (bt_.step s2).sq, ?_⟩⟩⟩⟩
          · obtain ⟨z, z', hz, hz', rfl⟩ := zipD_get hd
            obtain ⟨u, e1, e2⟩ := (ia.step s2).get hz
            obtain ⟨u', f1, f2⟩ := (ib.step s2).get hz'
            refine ⟨⟨vs, ws, u, u', (at_.step s2).sq, (bt_.step s2).sq, e1, f1⟩, fun y H3 ⟨Tp, x', y', hy, nT, hH, hv, hw⟩ => ?_⟩
            subst hy hH
            have := hv vs (at_.step s2).sq
            rw [e1] at this; cases this
            have := hw ws (bt_.step s2).sq
            rw [f1] at this; cases this
            have ss := step_new (μ := μ2) (o := .tup [u, u']) nT (st2.free nT)
            exact ⟨.tup (.inl ⟨st2.free nT, upd_same⟩) (.cons (e2.step ss) (.cons (f2.step ss) .nil)), st2.new nT, ss⟩
          · unfold zipD at hl
            rw [List.length_map, List.length_zip] at hl
            rw [ia.len, ib.len]; omega
        · obtain ⟨a, vs, rfl, at_, ia⟩ := tupOf_is ix hx
          obtain ⟨b, ws, rfl, bt_, ib⟩ := tupOf_is iy hy
          refine ⟨a, b, vs, ws, rfl, .inr ⟨at_.sq, bt_.sq, k _ _ μ1 _ H1 q st1 s1 fun μ2 H2 s2 st2 _ i => ⟨fun d hd => ?_, fun hl => ⟨vs, ws, (at_.step s2).sq, (bt_.step s2).sq, ?_⟩⟩⟩⟩
          · obtain ⟨z, z', hz, hz', rfl⟩ := zipD_get hd
            obtain ⟨u, e1, e2⟩ := (ia.step s2).get hz
            obtain ⟨u', f1, f2⟩ := (ib.step s2).get hz'
            refine ⟨⟨vs, ws, u, u', (at_.step s2).sq, (bt_.step s2).sq, e1, f1⟩, fun y H3 ⟨Tp, x', y', hy, nT, hH, hv, hw⟩ => ?_⟩
            subst hy hH
            have := hv vs (at_.step s2).sq
            rw [e1] at this; cases this
            have := hw ws (bt_.step s2).sq
            rw [f1] at this; cases this
            have ss := step_new (μ := μ2) (o := .tup [u, u']) nT (st2.free nT)
            exact ⟨.tup (.inl ⟨st2.free nT, upd_same⟩) (.cons (e2.step ss) (.cons (f2.step ss) .nil)), st2.new nT, ss⟩
          · unfold zipD at hl
            rw [List.length_map, List.length_zip] at hl
            rw [ia.len, ib.len]; omega⟩
/-! ### for -/
def forW (P : Mu → Prop) (g : WG) (b : WS) (DD : VEnds) (ev : EV) : List D → Ro → Mu → Prop
  | [], ρ, μ => P μ ∧ DD.nx ρ μ
  | d :: ds, ρ, μ => P μ ∧ g d ρ μ ev fun ρ' μ' => b { DD with nx := forW P g b DD ev ds, ct := forW P g b DD ev ds, bk := DD.nx } ρ' μ' ev
def wFor (wi : WI) (g : WG) (b : WS) : WS := fun DD ρ μ ev => wi ρ μ ev fun ds P μ1 => forW P g b DD ev ds ρ μ1
theorem vs_for {body : List Stmt} {wi : WI} {g : WG} {b : WS} (hp : PassesOwn (model X.prog X.w) X.A X.env X.xe) (hc : X.calm = true) (hi : PI X tg iter (upI X.K T E wi)) (hg : PG X tg (upG X.K T E g)) (hb : PSs X body (upS X.K T E b))
    (hs : ∀ x, foldedSetIterable iter X.env x = pure x := by intro _; rfl) : PS X (.For tg iter body [] pos) (upS X.K T E (wFor wi g b)) :=
  ps_mono (ps_for hp hc hi hg hb hs) fun Dn σ H ⟨ρ, μ, ev, DD, en, st, xo, h, k⟩ => ⟨ρ, μ, ev, _, en, st, xo, h, fun ds P μ1 J H1 q st1 s1 it => by
    refine ⟨fun i m σ2 H2 => m = ds.length - i ∧ i ≤ ds.length ∧ ∃ ρ2 μ2, Sl X.K μ2 H2 σ2 ρ2 ∧ Sto X.K T μ2 H2 ∧ Step μ1 H1 μ2 H2 ∧ forW P g b DD ev (ds.drop i) ρ2 μ2, ⟨_, rfl, Nat.zero_le _, ρ, μ1, en.step s1, st1, Step.refl _ _, q⟩, fun i m σ2 H2 ⟨em, hi, ρ2, μ2, en2, st2, s2, q2⟩ => ?_⟩
    by_cases hl : i < ds.length
    · have ed : ds.drop i = ds[i] :: ds.drop (i + 1) := (List.drop_eq_getElem_cons hl)
      rw [ed] at q2
      obtain ⟨hP, q2⟩ := q2
      have iok := it μ2 H2 s2 st2 hP i
      obtain ⟨go, yl⟩ := iok.1 ds[i] (by simp [hl])
      refine .inr ⟨go, fun σ3 H3 => ∃ ρ3 μ3, Sl X.K μ3 H3 σ3 ρ3 ∧ Sto X.K T μ3 H3 ∧ Step μ1 H1 μ3 H3 ∧ forW P g b DD ev (ds.drop (i + 1)) ρ3 μ3, fun σ3 H3 ⟨ρ3, μ3, z1, z2, z3, z4⟩ => ⟨ds.length - (i + 1), by omega, rfl, by omega, ρ3, μ3, z1, z2, z3, z4⟩, fun x H3 y => ?_⟩
      obtain ⟨ix, st3, s3⟩ := yl x H3 y
      have s13 := s1.trans (s2.trans s3)
      refine ⟨ds[i], ρ2, μ2, ev, _, ix, en2.step s3, st3, xo.step s13, q2, fun ρ4 μ4 σ4 H4 q4 en4 st4 s4 => ⟨ρ4, μ4, ev, _, en4, st4, xo.step (s13.trans s4), q4, ?_⟩⟩
      have k4 := k.step (s13.trans s4)
      exact ⟨fun ρ5 μ5 σ5 H5 q5 en5 st5 s5 => ⟨ρ5, μ5, en5, st5, s2.trans (s3.trans (s4.trans s5)), q5⟩, k4.2.1, k4.1, fun ρ5 μ5 σ5 H5 q5 en5 st5 s5 => ⟨ρ5, μ5, en5, st5, s2.trans (s3.trans (s4.trans s5)), q5⟩⟩
    · have ei : i = ds.length := by omega
      subst ei
      rw [List.drop_length] at q2
      obtain ⟨hP, q2⟩ := q2
      exact .inl ⟨(it μ2 H2 s2 st2 hP _).2 (Nat.le_refl _), (k.step (s1.trans s2)).nx q2 en2 st2⟩⟩
/-! ### list comprehensions -/
def wipeR (ρ : Ro) : List Nat → Ro
  | [] => ρ
  | v :: vs => (wipeR ρ vs).set v none
def lcW (P : Mu → Prop) (p : Pat) (t : WT) (w : WE) (vs : List Nat) (ρ : Ro) (ev : EV) (Ds : Addr) (Φ : WK) : List D → Mu → Prop
  | [], μ => P μ ∧ Φ (.ref Ds) μ
  | d :: ds, μ => P μ ∧ ∃ ρ1, p.bind d (wipeR ρ vs) = some ρ1 ∧ t ρ1 μ ev fun b μ1 => if b = true then w ρ1 μ1 ev fun y μ2 => ∃ acc, μ2 Ds = some (.lst acc) ∧ acc.length < sizeLine ∧ lcW P p t w vs ρ ev Ds Φ ds (μ2.set Ds (.lst (acc ++ [y]))) else lcW P p t w vs ρ ev Ds Φ ds μ1
def wLc (wi : WI) (p : Pat) (t : WT) (w : WE) (vs : List Nat) : WE := fun ρ μ ev Φ => wi ρ μ ev fun ds P μ1 => ∀ Ds, μ1 Ds = none → lcW P p t w vs ρ ev Ds Φ ds (μ1.set Ds (.lst []))
def wYes : WT := fun _ μ _ Φ => Φ true μ
theorem wipeR_length (ρ : Ro) : ∀ vs : List Nat, (wipeR ρ vs).length = ρ.length
  | [] => rfl
  | v :: vs => by rw [wipeR, List.length_set, wipeR_length ρ vs]
theorem Sl.wipe {K : PySem.W.Frag} {μ : Mu} {H : Hp} {σ : L2.St} {ρ : Ro} (en : Sl K μ H σ ρ) : ∀ vs : List Nat, Sl K μ H (wipe σ vs) (wipeR ρ vs)
  | [] => en
  | v :: vs => by
    have ih := Sl.wipe en vs
    refine ⟨by rw [L2.wipe, wipeR, List.length_set, List.length_set]; exact ih.1, fun i d h => ?_⟩
    rw [wipeR] at h
    rw [L2.wipe]
    by_cases hi : v = i
    · subst hi
      by_cases hl : v < (wipeR ρ vs).length
      · rw [List.getElem?_set_self hl] at h; cases h
      · rw [List.getElem?_eq_none (by rw [List.length_set]; omega)] at h; cases h
    · rw [List.getElem?_set_ne hi] at h
      rw [List.getElem?_set_ne hi]
      exact ih.2 i d h
theorem wipe_get (σ : L2.St) : ∀ (vs : List Nat) (i : Nat), i ∉ vs → (wipe σ vs)[i]? = σ[i]?
  | [], _, _ => rfl
  | v :: vs, i, h => by
    rw [List.mem_cons, not_or] at h
    rw [L2.wipe, List.getElem?_set_ne (fun z => h.1 z.symm), wipe_get σ vs i h.2]
theorem wipe_in (σ : L2.St) : ∀ (vs : List Nat) (i : Nat), i ∈ vs → i < σ.length → (wipe σ vs)[i]? = some none
  | [], _, h, _ => nomatch h
  | v :: vs, i, h, hl => by
    rw [L2.wipe]
    by_cases hi : v = i
    · subst hi; rw [List.getElem?_set_self (by rw [wipe_length]; exact hl)]
    · rw [List.getElem?_set_ne hi]
      rcases List.mem_cons.mp h with z | z
      · exact (hi z.symm).elim
      · exact wipe_in σ vs i z hl
theorem Same.wipe {ps vs : List Nat} {σ σ2 : L2.St} (s : Same ps (wipe σ vs) σ2) (h : ∀ i ∈ ps, i ∈ vs) : wipe σ2 vs = wipe σ vs := by
  refine List.ext_getElem? fun i => ?_
  have hl : σ2.length = σ.length := by rw [s.1, wipe_length]
  by_cases hi : i ∈ vs
  · by_cases hb : i < σ.length
    · rw [wipe_in σ vs i hi hb, wipe_in σ2 vs i hi (by rw [hl]; exact hb)]
    · rw [List.getElem?_eq_none (by rw [wipe_length]; omega), List.getElem?_eq_none (by rw [wipe_length]; omega)]
  · rw [wipe_get σ2 vs i hi, s.2 i (fun z => hi (h i z))]
theorem lcD_up {K : PySem.W.Frag} {T : List (Addr × Str)} {J : It} {ds : List D} {P : Mu → Prop} {μ1 : Mu} {H1 : Hp} {p : Pat} {t : WT} {w : WE} {vs : List Nat} {ρ : Ro} {σ : L2.St} {ev : EV} {Φ : WK} {Q : VK} (en : Sl K μ1 H1 σ ρ) (st1 : Sto K T μ1 H1) (xo : XOk K T μ1 H1 ev E) (k : KOk K T μ1 H1 Φ Q) (it : ItOk K T J ds P μ1 H1) (hv : ∀ i ∈ p.slots, i ∈ vs)
    (q : ∀ Ds, μ1 Ds = none → lcW P p t w vs ρ ev Ds Φ ds (μ1.set Ds (.lst []))) (Ds : Addr) (nD : H1 Ds = none) :
    ∃ W : Nat → Nat → Hp → Prop, (∃ m, W 0 m (upd H1 Ds (.lst []))) ∧ ∀ i m H, W i m H → (J.stop i H ∧ Q (.ref Ds) H) ∨ (J.go i H ∧ ∃ Nx : Hp → Prop, (∀ H', Nx H' → ∃ m', m' < m ∧ W (i + 1) m' H') ∧ ∀ x H', J.yld i H x H' → p.tg K x (wipe σ vs) H' fun σ2 H2 => wipe σ2 vs = wipe σ vs ∧ upT K T E t σ2 H2 fun b H3 =>
      if b = true then up K T E w σ2 H3 fun y H4 => ∃ acc, H4 Ds = some (.lst acc) ∧ acc.length < sizeLine ∧ Nx (upd H4 Ds (.lst (acc ++ [y]))) else Nx H3) := by
  have fD := st1.free nD
  have sN := step_newM (μ := μ1) (m := .lst []) (o := .lst []) nD
  refine ⟨fun i m H2 => m = ds.length - i ∧ i ≤ ds.length ∧ ∃ μ2, Sto K T μ2 H2 ∧ Step μ1 H1 μ2 H2 ∧ lcW P p t w vs ρ ev Ds Φ (ds.drop i) μ2, ⟨_, rfl, Nat.zero_le _, _, st1.newM (m := .lst []) (o := .lst []) nD ⟨[], upd_same, .nil⟩, sN, q Ds fD⟩, fun i m H2 ⟨em, hi, μ2, st2, s2, q2⟩ => ?_⟩
  by_cases hl : i < ds.length
  · have ed : ds.drop i = ds[i] :: ds.drop (i + 1) := (List.drop_eq_getElem_cons hl)
    rw [ed] at q2
    obtain ⟨hP, ρ1, hb, q2⟩ := q2
    obtain ⟨go, yl⟩ := (it μ2 H2 s2 st2 hP i).1 ds[i] (by simp [hl])
    refine .inr ⟨go, fun H3 => ∃ μ3, Sto K T μ3 H3 ∧ Step μ1 H1 μ3 H3 ∧ lcW P p t w vs ρ ev Ds Φ (ds.drop (i + 1)) μ3, fun H3 ⟨μ3, z2, z3, z4⟩ => ⟨ds.length - (i + 1), by omega, rfl, by omega, μ3, z2, z3, z4⟩, fun x H3 y => ?_⟩
    obtain ⟨ix, st3, s3⟩ := yl x H3 y
    have s13 := s2.trans s3
    refine Pat.run p ix ((en.step s13).wipe vs) hb fun σ2 en2 sm => ⟨sm.wipe hv, ρ1, μ2, ev, _, en2, st3, xo.step s13, q2, fun b μ4 H4 q4 st4 s4 => ?_⟩
    cases b with
    | false => exact ⟨μ4, st4, s13.trans s4, q4⟩
    | true =>
      refine ⟨ρ1, μ4, ev, _, en2.step s4, st4, xo.step (s13.trans s4), q4, fun y μ5 v H5 ⟨acc, ha, hn, q5⟩ iy st5 s5 => ?_⟩
      obtain ⟨us, hu, iu⟩ := st5.mo _ _ ha
      have s6 := step_set (H := H5) (m' := .lst (acc ++ [y])) (o := .lst (us ++ [v])) ha
      refine ⟨us, hu, by rw [iu.len]; exact hn, _, st5.set (m' := .lst (acc ++ [y])) ha ⟨_, upd_same, (iu.app (.cons iy .nil)).step s6⟩, s13.trans (s4.trans (s5.trans s6)), q5⟩
  · have ei : i = ds.length := by omega
    subst ei
    rw [List.drop_length] at q2
    obtain ⟨hP, q2⟩ := q2
    exact .inl ⟨(it μ2 H2 s2 st2 hP _).2 (Nat.le_refl _), k _ _ _ _ q2 (.ref Ds) st2 s2⟩
theorem ve_lc {elt : Expr} {ifs : List Expr} {scope : Scope} {own : List (Str × Nat)} {wi : WI} {p : Pat} {t : WT} {w : WE} (hc : X.calm = true) (hN : X.N.Nodup) (hi : PI X tg iter (upI X.K T E wi)) (ok : BlkOk X.N X.env.scope scope own)
    (hg : ∀ (s : Shared) (H : Hp) (C : Addr) (cl : List (Str × Addr)) (fp : List Addr), PG (X.blk s H scope (compEnvC scope cl C X.env) fp) tg (p.tg X.K)) (ht : ∀ (s : Shared) (H : Hp) (C : Addr) (cl : List (Str × Addr)) (fp : List Addr), PTs (X.blk s H scope (compEnvC scope cl C X.env) fp) ifs (upT X.K T E0 t))
    (he : ∀ (s : Shared) (H : Hp) (C : Addr) (cl : List (Str × Addr)) (fp : List Addr), PE (X.blk s H scope (compEnvC scope cl C X.env) fp) elt (up X.K T E0 w)) (hv : ∀ i ∈ p.slots, i ∈ own.map (·.2)) (hs : ∀ x, foldedSetIterable iter X.env x = pure x := by intro _; rfl) :
    PE X (.ListComp elt [⟨tg, iter, ifs, 0⟩] scope pos) (up X.K T E (fun ρ μ _ Φ => wLc wi p t w (own.map (·.2)) ρ μ ev0 Φ)) :=
  pe_mono (pe_lc (own := own) hc hN hi ok hg ht he hs) fun σ H Q ⟨ρ, μ, ev, Φ, en, st, xo, h, k⟩ => ⟨ρ, μ, ev0, _, en, st, xok0, h, fun ds P μ1 J H1 q st1 s1 it Ds nD => lcD_up (en.step s1) st1 xok0 (k.step s1) it hv q Ds nD⟩
theorem vs_setLc {i : Nat} {y : Str} {py : Pos} {elt : Expr} {ifs : List Expr} {scope : Scope} {own : List (Str × Nat)} {spos : Pos} {wi : WI} {p : Pat} {t : WT} {w : WE} (hc : X.calm = true) (hN : X.N.Nodup) (hy : X.N[i]? = some y) (hyl : X.env.scope.names.lookup y = some .local)
    (hsw : swapsWith (.ListComp elt [⟨tg, iter, ifs, 0⟩] scope pos) (some (.Name y py)) spos.line X.env = pure true) (hi : PI X tg iter (upI X.K T E wi)) (ok : BlkOk X.N X.env.scope scope own)
    (hg : ∀ (s : Shared) (H : Hp) (C : Addr) (cl : List (Str × Addr)) (fp : List Addr), PG (X.blk s H scope (compEnvC scope cl C X.env) fp) tg (p.tg X.K)) (ht : ∀ (s : Shared) (H : Hp) (C : Addr) (cl : List (Str × Addr)) (fp : List Addr), PTs (X.blk s H scope (compEnvC scope cl C X.env) fp) ifs (upT X.K T E0 t))
    (he : ∀ (s : Shared) (H : Hp) (C : Addr) (cl : List (Str × Addr)) (fp : List Addr), PE (X.blk s H scope (compEnvC scope cl C X.env) fp) elt (up X.K T E0 w)) (hv : ∀ i ∈ p.slots, i ∈ own.map (·.2)) (hs : ∀ x, foldedSetIterable iter X.env x = pure x := by intro _; rfl) :
    PS X (.Assign [.Name y py] (.ListComp elt [⟨tg, iter, ifs, 0⟩] scope pos) spos) (upS X.K T E (wAsg (fun ρ μ _ Φ => wLc wi p t w (own.map (·.2)) ρ μ ev0 Φ) (wName i))) :=
  ps_mono (ps_setLc (own := own) hc hN hy hyl hsw hi ok hg ht he hs) fun Dn σ H ⟨ρ, μ, ev, DD, en, st, xo, h, k⟩ => by
    have kk : KOk X.K T μ H (fun d μ1 => wName i d ρ μ1 ev DD.nx) (fun x H1 => gName i x σ H1 Dn.nx) := fun d μ1 v H1 hd iv st1 s1 => (k.step s1).nx hd ((en.step s1).set i iv) st1
    exact ⟨ρ, μ, ev0, _, en, st, xok0, h, fun ds P μ1 J H1 q st1 s1 it Ds nD => lcD_up (en.step s1) st1 xok0 (kk.step s1) it hv q Ds nD⟩
theorem vts_nil {X : Cx} : PTs X [] (upT X.K T E wYes) := ⟨fun pins s σ H Q I ⟨ρ, μ, ev, Φ, en, st, xo, h, k⟩ => pts_nil.run pins s σ H Q I (k true μ H h st (Step.refl _ _))⟩
theorem vts_one {X : Cx} {c : Expr} {t : WT} (h : PT X c (upT X.K T E t)) : PTs X [c] (upT X.K T E t) := pts_one h
end
end VL

set_option maxRecDepth 100000
set_option maxHeartbeats 4000000
/-! values as trees: defs, calls, methods, classes, attributes, exceptions -/
namespace VL
open PySem L2 FW PyProof.Rows
/-! ### a def's promise from its body -/
def vstart (N : List Str) (ds : List D) : Ro := ds.map some ++ List.replicate (N.length - ds.length) none
theorem env_start {K : PySem.W.Frag} {μ : Mu} {H : Hp} {N : List Str} {vs : List V} {ds : List D} (h : IsAll K μ H vs ds) : Sl K μ H (L2.start N vs) (vstart N ds) := by
  unfold L2.start vstart
  refine ⟨by simp [h.len], fun i d e => ?_⟩
  by_cases hi : i < ds.length
  · rw [List.getElem?_append_left (by rw [List.length_map]; exact hi), List.getElem?_map] at e
    rw [List.getElem?_append_left (by rw [List.length_map, h.len]; exact hi), List.getElem?_map]
    cases q : ds[i]? with
    | none => rw [q] at e; cases e
    | some x =>
      rw [q] at e; cases e
      obtain ⟨v, e1, e2⟩ := h.get q
      exact ⟨v, by rw [e1]; rfl, e2⟩
  · rw [List.getElem?_append_right (by rw [List.length_map]; omega), List.getElem?_replicate] at e
    split at e <;> cases e
section
variable {P : Program} {w : World} {K : PySem.W.Frag} {mg : Str → Option Value} {base : Heap} {CX : CXT} {T : List (Addr × Str)}
theorem fun_okV {x qual : Str} {st : Stmt} {f : Addr} {fd : FuncData} {N ps : List Str} {k : Nat} {sp : VSp} (F : Fun K x qual st f fd) (S : FnScope N ps (defScope st)) (size : ∀ ds μ ev Φ, sp ds μ ev Φ → ds.length = ps.length)
    (walk : ∀ (cdv : Value) (A : Around) (outer : List PySem.Env) (s : Shared) (H : Hp) (E : XK), (A.deeper (envOfC qual (defScope st) s.heap.objs.size f cdv)).guards = some [] → Room k (A.deeper (envOfC qual (defScope st) s.heap.objs.size f cdv)) →
      (∀ oc od kV doc pm an ct osl, K.lookup f = some ⟨oc, od, .func (PySem.W.fnOf x qual (defArgs st) (defBody st) (defScope st) .none kV doc pm an cdv ct), osl⟩ →
      ∃ t, PSs (cxOf CX P w K mg base N qual (defScope st) f cdv A outer s H E) (defBody st) (upS K T E t) ∧ ∀ ds μ ev Φ, sp ds μ ev Φ → t { nx := fun _ μ' => Φ .non μ', rt := Φ } (vstart N ds) μ ev)) : FnG P w K mg base CX (k + 1) f fd ps (lift K T sp) := by
  refine fun_okG F S (fun vs H Q E ⟨ds, μ, ev, Φ, ia, _, _, h, _⟩ => by rw [ia.len]; exact size _ _ _ _ h) (fun cdv A outer s H vs Q E hG hr oc od kV doc pm an ct osl lk ⟨ds, μ, ev, Φ, ia, st, xo, h, k⟩ => ?_)
  obtain ⟨t, ht, hq⟩ := walk cdv A outer s H E hG hr oc od kV doc pm an ct osl lk
  refine ⟨_, ht, vstart N ds, μ, ev, _, env_start ia, st, xo, hq ds μ ev Φ h, fun ρ' μ' σ' H' q en st' s' => ?_, k, fun _ _ _ _ z => z.elim, fun _ _ _ _ z => z.elim⟩
  exact k .non μ' .non H' q .non st' s'
end
/-! ### how arguments come to parameters -/
inductive Arg where
  | pos (i : Nat) | dflt (v : V) (d : D)
def argV (vs : List V) : Arg → V
  | .pos i => vs.getD i .non
  | .dflt v _ => v
def argD (ds : List D) : Arg → D
  | .pos i => ds.getD i .non
  | .dflt _ d => d
def argsV (as : List Arg) (vs zs : List V) : List V := as.map (argV (vs ++ zs))
def argsD (as : List Arg) (ds es : List D) : List D := as.map (argD (ds ++ es))
def Arg.Ok (K : PySem.W.Frag) (n : Nat) : Arg → Prop
  | .pos i => i < n
  | .dflt v d => ∀ μ H, Is K μ H v d
theorem is_argsD {K : PySem.W.Frag} {μ : Mu} {H : Hp} {vs zs : List V} {ds es : List D} (h : IsAll K μ H vs ds) (g : IsAll K μ H zs es) : ∀ as : List Arg, (∀ a ∈ as, a.Ok K (vs.length + zs.length)) → IsAll K μ H (argsV as vs zs) (argsD as ds es)
  | [], _ => .nil
  | .pos i :: as, ok => by
    have o : i < vs.length + zs.length := ok (.pos i) (List.mem_cons_self ..)
    have all := h.app g
    have hl := all.len
    have hi : i < (ds ++ es).length := by rw [← hl, List.length_append]; exact o
    obtain ⟨v, e1, e2⟩ := all.get (i := i) (d := (ds ++ es)[i]) (by simp [hi])
    refine .cons ?_ (is_argsD h g as fun a ha => ok a (List.mem_cons_of_mem _ ha))
    show Is K μ H ((vs ++ zs).getD i .non) ((ds ++ es).getD i .non)
    rw [List.getD_eq_getElem?_getD, List.getD_eq_getElem?_getD, e1, List.getElem?_eq_getElem hi]
    exact e2
  | .dflt v d :: as, ok => .cons (ok (.dflt v d) (List.mem_cons_self ..) μ H) (is_argsD h g as fun a ha => ok a (List.mem_cons_of_mem _ ha))
/-- a def at f, its promise, how n values and the keywords ks come to its parameters -/
structure CanV (P : Program) (w : World) (K : PySem.W.Frag) (mg : Str → Option Value) (base : Heap) (CX : CXT) (T : List (Addr × Str)) (k : Nat) (f : Addr) (n : Nat) (ks : List Str) (as : List Arg) (sp : VSp) : Prop where
  ex : ∃ (fd : FuncData) (ps : List Str) (g : List Value → List Value → List Value), FnG P w K mg base CX k f fd ps (lift K T sp) ∧ PySem.W.keepIn K (.ref f) = true ∧ KBn K fd ps n ks g (argsV as)
  ok : ∀ a ∈ as, a.Ok K (n + ks.length)
section
variable {X : Cx} {CX : CXT} {k j n : Nat} {f C : Addr} {fd : FuncData} {ps ks : List Str} {sp : Sp} {E : XK} {g : List Value → List Value → List Value} {gV : List V → List V → List V} {pins : List (Addr × Obj)} {σ : L2.St} {H : Hp} {s : Shared} {Q : VK} {us ws : List Value} {vs zs : List V}
theorem run_g (F : FnG X.prog X.w X.K X.mg X.base CX k f fd ps sp) (hG : X.A.guards = some []) (hr : Room k X.A) (hb : KBn X.K fd ps n ks g gV) (hx : Passes CX X E) (I : Inv X pins σ H s) (r : Vals vs us) (rz : Vals zs ws) (l1 : vs.length = n) (l2 : zs.length = ks.length) (h : sp (gV vs zs) H Q E) :
    wpAny (model X.prog X.w) X.A (call (.ref f) us (ks.zip ws)) (EP X pins σ Q) X.xe s := by
  have go := F.goes X.A X.stack s H ⟨us, ks.zip ws⟩ (g us ws) (gV vs zs) Q E hG hr I.env0 (hb.to s us ws I.kIn (by rw [← r.length]; exact l1) (by rw [← rz.length]; exact l2)) (hb.rel r rz) h
  refine wpAny_call (codeAny_mono go fun z s2 hz => ?_)
  match z, hz with
  | .error e, hz => exact hx pins σ H s e s2 I hz
  | .ok (.ret u), hz => exact I.after hz
  | .ok .next, hz => exact (show False from hz).elim
  | .ok .brk, hz => exact (show False from hz).elim
  | .ok .cont, hz => exact (show False from hz).elim
theorem run_mg (M : Mk X.K C f) (F : FnG X.prog X.w X.K X.mg X.base CX k f fd ps sp) (hG : X.A.guards = some []) (hr : Room (k + 1) X.A) (hb : KBn X.K fd ps (n + 1) ks g gV) (hx : Passes CX X E) (I : Inv X pins σ H s) (r : Vals vs us) (rz : Vals zs ws) (l1 : vs.length = n) (l2 : zs.length = ks.length)
    (h : ∀ a dx, H a = none → H dx = none → dx ≠ a → sp (gV (.ref a :: vs) zs) (upd (upd H dx (.own a)) a (.ins C dx [])) (fun v H2 => v = .non ∧ Q (.ref a) H2) E) :
    wpAny (model X.prog X.w) X.A (call (.ref C) us (ks.zip ws)) (EP X pins σ Q) X.xe s := by
  have here := h (s.heap.objs.size + 1) s.heap.objs.size (I.hok.fresh (Nat.le_succ _)) (I.hok.fresh (Nat.le_refl _)) (fun z => absurd z (Nat.ne_of_lt (Nat.lt_succ_self _)))
  have J := Inv.made (C := C) I
  have rr : Vals (V.ref (s.heap.objs.size + 1) :: vs) (Value.ref (s.heap.objs.size + 1) :: us) := .cons rfl r
  have n1 : (Value.ref (s.heap.objs.size + 1) :: us).length = n + 1 := by rw [List.length_cons, ← r.length, l1]
  have n2 : ws.length = ks.length := by rw [← rz.length]; exact l2
  have go := F.goes (X.A.under (.builtin "type.__call__" ⟨.ref C :: us, ks.zip ws⟩)) X.stack _ _ ⟨Value.ref (s.heap.objs.size + 1) :: us, ks.zip ws⟩ _ _ _ E (by first | exact hG | (simpa [Around.under] using hG)) (hr.make C us (ks.zip ws)) (J.env0.make C us (ks.zip ws)) (hb.to _ _ ws J.kIn n1 n2) (hb.rel rr rz) here
  refine wpAny_call (make_map (f := f) I.kIn M.makes M.init (beq_iff_eq.mp M.fn) (codeAny_mono go fun z s2 hz => ?_))
  match z, hz with
  | .error e, hz => exact hx pins σ _ _ e s2 J hz
  | .ok (.ret u), hz =>
    obtain ⟨v, H2, J2, rv, ev, q⟩ := J.after hz
    subst ev
    exact ⟨rv, ⟨.ref (s.heap.objs.size + 1), H2, J2, rfl, q⟩⟩
  | .ok .next, hz => exact (show False from hz).elim
  | .ok .brk, hz => exact (show False from hz).elim
  | .ok .cont, hz => exact (show False from hz).elim
end
/-- what is wished of an exception of the callee's, out of what is wished of one here -/
def Sel (E E' : XK) (sel : EV → EV) : Prop := ∀ K T μ H ev, XOk K T μ H ev E → XOk K T μ H (sel ev) E'
theorem sel_id {E : XK} : Sel E E id := fun _ _ _ _ _ h => h
theorem sel_0 {E E' : XK} : Sel E E' fun _ => ev0 := fun _ _ _ _ _ _ => xok0
def wCall (sel : EV → EV) (as : List Arg) (sp : VSp) (n m : Nat) (w wk : WA) : WE := fun ρ μ ev Φ => w ρ μ ev fun ds μ1 => wk ρ μ1 ev fun es μ2 => ds.length = n ∧ es.length = m ∧ sp (argsD as ds es) μ2 (sel ev) Φ
/-- C(..): the instance may change; in __init__ it has nothing at first -/
def wMake (sel : EV → EV) (C : Addr) (as : List Arg) (sp : VSp) (n m : Nat) (w wk : WA) : WE := fun ρ μ ev Φ => w ρ μ ev fun ds μ1 => wk ρ μ1 ev fun es μ2 => ds.length = n ∧ es.length = m ∧ ∀ a, μ2 a = none → sp (argsD as (.ref a :: ds) es) (μ2.set a (.ins C [] [])) (sel ev) fun d μ3 => d = .non ∧ Φ (.ref a) μ3
def wMeth (sel : EV → EV) (C : Addr) (m : Str) (as : List Arg) (sp : VSp) (n mk : Nat) (wo : WE) (w wk : WA) : WE := fun ρ μ ev Φ => wo ρ μ ev fun x μ0 => ∃ ns fs, insOf μ0 x = some (C, ns, fs) ∧ m ∉ ns ∧ w ρ μ0 ev fun ds μ1 => wk ρ μ1 ev fun es μ2 => ds.length = n ∧ es.length = mk ∧ sp (argsD as (x :: ds) es) μ2 (sel ev) Φ
theorem lookup_not {ns : List Str} {vs : List V} {m : Str} (h : m ∉ ns) : (ns.zip vs).lookup m = none := by
  induction ns generalizing vs with
  | nil => rfl
  | cons n ns ih =>
    cases vs with
    | nil => rfl
    | cons v vs =>
      rw [List.mem_cons, not_or] at h
      rw [List.zip_cons_cons, List.lookup_cons]
      have : (m == n) = false := by simp [h.1]
      rw [this]
      exact ih h.2
section
variable {X : Cx} {CX : CXT} {T : List (Addr × Str)} {k j n : Nat} {f C : Addr} {x m : Str} {ks : List Str} {as : List Arg} {sp : VSp} {E E' : XK} {sel : EV → EV} {p pos apos : Pos} {e o : Expr} {es : List Expr} {kws : List Keyword} {w wk : WA} {wo we : WE}
theorem vk_nil : PK X [] (upA X.K T E wNil) := pk_mono pk_nil fun σ H Q ⟨ρ, μ, ev, Φ, en, st, xo, h, k⟩ => k [] μ [] H h .nil st (Step.refl _ _)
theorem vk_cons {nm : Option Str} {kp : Pos} (ha : PE X e (up X.K T E we)) (hr : PK X kws (upA X.K T E w)) : PK X (⟨nm, e, kp⟩ :: kws) (upA X.K T E (wCons we w)) :=
  pk_mono (pk_cons ha hr) fun σ H Q ⟨ρ, μ, ev, Φ, en, st, xo, h, k⟩ => ⟨ρ, μ, ev, _, en, st, xo, h, fun x μ1 v H1 hx ix st1 s1 =>
    ⟨ρ, μ1, ev, _, en.step s1, st1, xo.step s1, hx, fun xs μ2 vs H2 hy iy st2 s2 => k _ μ2 _ H2 hy (.cons (ix.step s2) iy) st2 (s1.trans s2)⟩⟩
/-- what the arguments' reading leaves, for the callee's promise -/
theorem into_call {K : PySem.W.Frag} {μ μ1 μ2 : Mu} {H H1 H2 : Hp} {ev : EV} {Φ : WK} {Q : VK} {ds fs : List D} {vs zs : List V} (hs : Sel E E' sel) (ok : ∀ a ∈ as, a.Ok K (n + ks.length)) (xo : XOk K T μ H ev E) (k : KOk K T μ H Φ Q) (i1 : IsAll K μ1 H1 vs ds) (s1 : Step μ H μ1 H1) (i2 : IsAll K μ2 H2 zs fs) (st2 : Sto K T μ2 H2) (s2 : Step μ1 H1 μ2 H2)
    (l1 : ds.length = n) (l2 : fs.length = ks.length) (h : sp (argsD as ds fs) μ2 (sel ev) Φ) : lift K T sp (argsV as vs zs) H2 Q E' :=
  ⟨_, μ2, _, Φ, is_argsD (i1.step s2) i2 as (by rw [i1.len, i2.len, l1, l2]; exact ok), st2, hs _ _ _ _ _ (xo.step (s1.trans s2)), h, k.step (s1.trans s2)⟩
theorem ve_call (hm : X.mg x = some (.ref f)) (c : CanV X.prog X.w X.K X.mg X.base CX T k f n ks as sp) (hG : X.A.guards = some []) (hr : Room j X.A) (hk : k ≤ j) (hx : Passes CX X E') (hs : Sel E E' sel) (hg : Gl X x) (ha : PA X (e :: es) (upA X.K T E w)) (hkw : PK X kws (upA X.K T E wk))
    (hall : (backToKw pos (keywordEach kws X.env)).all (·.1.isSome) = true := by rfl) (hks : (backToKw pos (keywordEach kws X.env)).filterMap (·.1) = ks := by rfl) (hdb : (x == ("__debug__" : Str)) = false := by decide)
    (he : starEach (e :: es) X.env = (false, eval e X.env) :: starEach es X.env := by rfl) (hpl : ((backTo pos (starEach (e :: es) X.env)).any (·.1) || (backToKw pos (keywordEach kws X.env)).any (·.1.isNone)) = false := by rfl) :
    PE X (.Call (.Name x p) (e :: es) kws pos) (up X.K T E (wCall sel as sp n ks.length w wk)) := by
  obtain ⟨⟨fd, ps, g, F, kp, hb⟩, ok⟩ := c
  refine ⟨fun pins s σ H Q I ⟨ρ, μ, ev, Φ, en, st, xo, h, k⟩ => wpAny_Call_Name_kw (ld_glob I hg hm (PySem.W.callWith_KW (h₀ := X.base) I.ok.mod.kin kp hall ?_ hpl he) hdb)⟩
  refine thn (ha.run pos pins s σ H _ I ⟨ρ, μ, ev, _, en, st, xo, h, fun ds μ1 vs H1 q i1 st1 s1 => (show upA X.K T E wk σ H1 (fun zs H2 => vs.length = n ∧ zs.length = ks.length ∧ lift X.K T sp (argsV as vs zs) H2 Q E') from
    ⟨ρ, μ1, ev, _, en.step s1, st1, xo.step s1, q, fun fs μ2 zs H2 ⟨l1, l2, q2⟩ i2 st2 s2 => ⟨by rw [i1.len]; exact l1, by rw [i2.len]; exact l2, into_call hs ok xo k i1 s1 i2 st2 s2 l1 l2 q2⟩⟩)⟩) fun us s1 y => ?_
  obtain ⟨vs, H1, J1, r, q⟩ := y
  refine thn (hkw.run pos pins s1 σ H1 _ J1 q) fun ws s2 y => ?_
  obtain ⟨zs, H2, J2, rz, l1, l2, q2⟩ := y
  refine ⟨J2.kIn, ?_⟩
  rw [hks]
  exact run_g F hG (hr.mono hk) hb hx J2 r rz l1 l2 q2
theorem ve_callN0 (hm : X.mg x = some (.ref f)) (c : CanV X.prog X.w X.K X.mg X.base CX T k f 0 ks as sp) (hG : X.A.guards = some []) (hr : Room j X.A) (hk : k ≤ j) (hx : Passes CX X E') (hs : Sel E E' sel) (hg : Gl X x) (hkw : PK X kws (upA X.K T E wk))
    (hall : (backToKw pos (keywordEach kws X.env)).all (·.1.isSome) = true := by rfl) (hks : (backToKw pos (keywordEach kws X.env)).filterMap (·.1) = ks := by rfl) (hdb : (x == ("__debug__" : Str)) = false := by decide)
    (hpl : ((backTo pos (starEach [] X.env)).any (·.1) || (backToKw pos (keywordEach kws X.env)).any (·.1.isNone)) = false := by rfl) :
    PE X (.Call (.Name x p) [] kws pos) (up X.K T E (wCall sel as sp 0 ks.length wNil wk)) := by
  obtain ⟨⟨fd, ps, g, F, kp, hb⟩, ok⟩ := c
  refine ⟨fun pins s σ H Q I ⟨ρ, μ, ev, Φ, en, st, xo, h, k⟩ => wpAny_Call_Name_kw (ld_glob I hg hm (PySem.W.callWith_KW0 (h₀ := X.base) I.ok.mod.kin kp hall ?_ hpl) hdb)⟩
  refine thn (hkw.run pos pins s σ H _ I (show upA X.K T E wk σ H (fun zs H2 => zs.length = ks.length ∧ lift X.K T sp (argsV as [] zs) H2 Q E') from
    ⟨ρ, μ, ev, _, en, st, xo, h, fun fs μ2 zs H2 ⟨l1, l2, q2⟩ i2 st2 s2 => ⟨by rw [i2.len]; exact l2, into_call (ds := []) (vs := []) hs ok xo k .nil (Step.refl _ _) i2 st2 s2 l1 l2 q2⟩⟩)) fun ws s2 y => ?_
  obtain ⟨zs, H2, J2, rz, l2, q2⟩ := y
  refine ⟨J2.kIn, ?_⟩
  rw [hks]
  exact run_g (us := []) (vs := []) F hG (hr.mono hk) hb hx J2 .nil rz rfl l2 q2
/-- a local name that holds a def -/
structure HeldV (P : Program) (w : World) (K : PySem.W.Frag) (mg : Str → Option Value) (base : Heap) (T : List (Addr × Str)) (k : Nat) (f : Addr) (n : Nat) (sp : VSp) : Prop where
  ex : ∃ as, CanV P w K mg base CX0 T k f n [] as sp ∧ ∀ ds : List D, ds.length = n → argsD as ds [] = ds
def wHeld (P : Program) (w : World) (K : PySem.W.Frag) (mg : Str → Option Value) (base : Heap) (T : List (Addr × Str)) (k i n : Nat) (wa : WA) : WE := fun ρ μ ev Φ => ∃ f sp, ρ[i]? = some (some (.ref f)) ∧ HeldV P w K mg base T k f n sp ∧ wa ρ μ ev fun ds μ1 => ds.length = n ∧ sp ds μ1 ev0 Φ
theorem ve_held {i : Nat} (hG : X.A.guards = some []) (hr : Room k X.A) (hN : X.N[i]? = some x) (hv : Vis X.env.scope x) (ha : PA X (e :: es) (upA X.K T E w)) (hdb : (x == ("__debug__" : Str)) = false := by decide) (hcd : (x == ("__classdict__" : Str)) = false := by decide)
    (he : starEach (e :: es) X.env = (false, eval e X.env) :: starEach es X.env := by rfl) (hpl : ((backTo pos (starEach (e :: es) X.env)).any (·.1) || (backToKw pos (keywordEach [] X.env)).any (·.1.isNone)) = false := by rfl) :
    PE X (.Call (.Name x p) (e :: es) [] pos) (up X.K T E (wHeld X.prog X.w X.K X.mg X.base T k i n w)) := by
  refine ⟨fun pins s σ H Q I ⟨ρ, μ, ev, Φ, en, st, xo, ⟨f, sp, hf, ⟨as, ⟨⟨fd, ps, g, F, kp, hb⟩, ok⟩, idA⟩, h⟩, k⟩ => ?_⟩
  obtain ⟨v, e1, e2⟩ := en.2 i _ hf
  cases e2
  refine wpAny_Call_Name_kw (thn ((pe_var (pos := p) hN hv hdb hcd).run pins s σ H (fun v H' => v = .ref f ∧ H' = H) I ⟨_, e1, rfl, rfl⟩) fun uf sa y => ?_)
  obtain ⟨v, Ha, Ia, ra, ev1, eH⟩ := y
  subst ev1 eH
  obtain rfl : uf = Value.ref f := ra
  refine PySem.W.callWith_KW (kws := []) (h₀ := X.base) Ia.ok.mod.kin kp rfl ?_ hpl he
  refine thn (ha.run pos pins sa σ Ha _ Ia (show upA X.K T E w σ Ha (fun vs H1 => vs.length = n ∧ lift X.K T sp (argsV as vs []) H1 Q E0) from
    ⟨ρ, μ, ev, _, en, st, xo, h, fun ds μ1 vs H1 ⟨l1, q⟩ i1 st1 s1 => ⟨by rw [i1.len]; exact l1, into_call (E := E) (ks := []) (sel := fun _ => ev0) (fs := []) (zs := []) sel_0 ok xo k i1 s1 .nil st1 (Step.refl _ _) l1 rfl (by rw [idA ds l1]; exact q)⟩⟩)) fun us s1 y => ?_
  obtain ⟨vs, H1, J1, r, l1, q⟩ := y
  exact wpAny_evalAll_nil ⟨J1.kIn, run_g (ws := []) (zs := []) F hG hr hb (fun _ _ _ _ _ _ _ z => z.elim) J1 r .nil l1 rfl q⟩
/-! methods -/
theorem ve_meth {pl : Sem Bool} (cl : Cls X.K C) (hm : Meth X.K C m f) (c : CanV X.prog X.w X.K X.mg X.base CX T k f (n + 1) ks as sp) (hG : X.A.guards = some []) (hr : Room j X.A) (hk : k ≤ j) (hx : Passes CX X E') (hs : Sel E E' sel) (ho : PE X o (up X.K T E wo)) (ha : PA X (e :: es) (upA X.K T E w)) (hkw : PK X kws (upA X.K T E wk))
    (hall : (backToKw pos (keywordEach kws X.env)).all (·.1.isSome) = true := by rfl) (hks : (backToKw pos (keywordEach kws X.env)).filterMap (·.1) = ks := by rfl)
    (he : starEach (e :: es) X.env = (false, eval e X.env) :: starEach es X.env := by rfl) (hpl : ((backTo pos (starEach (e :: es) X.env)).any (·.1) || (backToKw pos (keywordEach kws X.env)).any (·.1.isNone)) = false := by rfl)
    (ht : eval (.Call (.Attribute o m apos) (e :: es) kws pos) X.env = (do let ov ← eval o X.env; standAt apos.atName; let (f, first) ← holding [ov] (getMethod ov m pl); callWith pos f first (backTo pos (starEach (e :: es) X.env)) (backToKw pos (keywordEach kws X.env))) := by rfl) :
    PE X (.Call (.Attribute o m apos) (e :: es) kws pos) (up X.K T E (wMeth sel C m as sp n ks.length wo w wk)) := by
  obtain ⟨⟨fd, ps, g, F, kp, hb⟩, ok⟩ := c
  refine ⟨fun pins s σ H Q I ⟨ρ, μ, ev, Φ, en, st, xo, h, k⟩ => PySem.W.methodCall_KW (pl := pl) (thn (ho.run pins s σ H _ I (show up X.K T E wo σ H (fun x H0 => ∃ a dx fs, x = .ref a ∧ H0 a = some (.ins C dx fs) ∧ fs.lookup m = none ∧ upA X.K T E w σ H0 fun vs H1 => upA X.K T E wk σ H1 fun zs H2 => vs.length = n ∧ zs.length = ks.length ∧ lift X.K T sp (argsV as (.ref a :: vs) zs) H2 Q E') from
    ⟨ρ, μ, ev, _, en, st, xo, h, fun x μ0 v H0 ⟨ns, fs, hi, nm, q⟩ i0 st0 s0 => by
      obtain ⟨a, dx, us, rfl, ha, hl, iu⟩ := is_ins st0 i0 hi
      exact ⟨a, dx, _, rfl, ha, lookup_not nm, ρ, μ0, ev, _, en.step s0, st0, xo.step s0, q, fun ds μ1 vs H1 q i1 st1 s1 => ⟨ρ, μ1, ev, _, en.step (s0.trans s1), st1, xo.step (s0.trans s1), q, fun fs μ2 zs H2 ⟨l1, l2, q2⟩ i2 st2 s2 => ⟨by rw [i1.len]; exact l1, by rw [i2.len]; exact l2,
        into_call hs ok xo k (.cons (i0.step s1) i1) (s0.trans s1) i2 st2 s2 (by rw [List.length_cons, l1]) l2 q2⟩⟩⟩⟩)) fun u s0 y => ?_) ht⟩
  obtain ⟨x, H0, I0, rx, a, dx, fs, ex, ea, l, q⟩ := y
  subst ex
  obtain rfl : u = Value.ref a := rx
  refine getmeth_ok I0 ea cl hm l (PySem.W.callWith_KW (first := [.ref a]) (h₀ := X.base) I0.ok.mod.kin hm.kp hall ?_ hpl he)
  refine thn (ha.run pos pins s0 σ H0 _ I0 q) fun us s1 y => ?_
  obtain ⟨vs, H1, J1, r, q⟩ := y
  refine thn (hkw.run pos pins s1 σ H1 _ J1 q) fun ws s2 y => ?_
  obtain ⟨zs, H2, J2, rz, l1, l2, q2⟩ := y
  refine ⟨J2.kIn, ?_⟩
  rw [hks]
  exact run_g (us := .ref a :: us) (vs := .ref a :: vs) F hG (hr.mono hk) hb hx J2 (.cons rfl r) rz (by rw [List.length_cons, l1]) l2 q2
theorem ve_meth0 {pl : Sem Bool} (cl : Cls X.K C) (hm : Meth X.K C m f) (c : CanV X.prog X.w X.K X.mg X.base CX T k f 1 ks as sp) (hG : X.A.guards = some []) (hr : Room j X.A) (hk : k ≤ j) (hx : Passes CX X E') (hs : Sel E E' sel) (ho : PE X o (up X.K T E wo)) (hkw : PK X kws (upA X.K T E wk))
    (hall : (backToKw pos (keywordEach kws X.env)).all (·.1.isSome) = true := by rfl) (hks : (backToKw pos (keywordEach kws X.env)).filterMap (·.1) = ks := by rfl)
    (hpl : ((backTo pos (starEach [] X.env)).any (·.1) || (backToKw pos (keywordEach kws X.env)).any (·.1.isNone)) = false := by rfl)
    (ht : eval (.Call (.Attribute o m apos) [] kws pos) X.env = (do let ov ← eval o X.env; standAt apos.atName; let (f, first) ← holding [ov] (getMethod ov m pl); callWith pos f first (backTo pos (starEach [] X.env)) (backToKw pos (keywordEach kws X.env))) := by rfl) :
    PE X (.Call (.Attribute o m apos) [] kws pos) (up X.K T E (wMeth sel C m as sp 0 ks.length wo wNil wk)) := by
  obtain ⟨⟨fd, ps, g, F, kp, hb⟩, ok⟩ := c
  refine ⟨fun pins s σ H Q I ⟨ρ, μ, ev, Φ, en, st, xo, h, k⟩ => PySem.W.methodCall_KW (pl := pl) (thn (ho.run pins s σ H _ I (show up X.K T E wo σ H (fun x H0 => ∃ a dx fs, x = .ref a ∧ H0 a = some (.ins C dx fs) ∧ fs.lookup m = none ∧ upA X.K T E wk σ H0 fun zs H2 => zs.length = ks.length ∧ lift X.K T sp (argsV as [.ref a] zs) H2 Q E') from
    ⟨ρ, μ, ev, _, en, st, xo, h, fun x μ0 v H0 ⟨ns, fs, hi, nm, q⟩ i0 st0 s0 => by
      obtain ⟨a, dx, us, rfl, ha, hl, iu⟩ := is_ins st0 i0 hi
      exact ⟨a, dx, _, rfl, ha, lookup_not nm, ρ, μ0, ev, _, en.step s0, st0, xo.step s0, q, fun fs μ2 zs H2 ⟨l1, l2, q2⟩ i2 st2 s2 => ⟨by rw [i2.len]; exact l2, into_call hs ok xo k (.cons i0 .nil) s0 i2 st2 s2 rfl l2 q2⟩⟩⟩)) fun u s0 y => ?_) ht⟩
  obtain ⟨x, H0, I0, rx, a, dx, fs, ex, ea, l, q⟩ := y
  subst ex
  obtain rfl : u = Value.ref a := rx
  refine getmeth_ok I0 ea cl hm l (PySem.W.callWith_KW0 (first := [.ref a]) (h₀ := X.base) I0.ok.mod.kin hm.kp hall ?_ hpl)
  refine thn (hkw.run pos pins s0 σ H0 _ I0 q) fun ws s2 y => ?_
  obtain ⟨zs, H2, J2, rz, l2, q2⟩ := y
  refine ⟨J2.kIn, ?_⟩
  rw [hks]
  exact run_g (us := [.ref a]) (vs := [.ref a]) F hG (hr.mono hk) hb hx J2 (.cons rfl .nil) rz rfl l2 q2
/-! new instances -/
theorem into_make {K : PySem.W.Frag} {μ μ1 μ2 : Mu} {H H1 H2 : Hp} {ev : EV} {Φ : WK} {Q : VK} {ds fs : List D} {vs zs : List V} (hs : Sel E E' sel) (ok : ∀ a ∈ as, a.Ok K (n + 1 + ks.length)) (xo : XOk K T μ H ev E) (k : KOk K T μ H Φ Q) (i1 : IsAll K μ1 H1 vs ds) (s1 : Step μ H μ1 H1) (i2 : IsAll K μ2 H2 zs fs) (st2 : Sto K T μ2 H2) (s2 : Step μ1 H1 μ2 H2)
    (l1 : ds.length = n) (l2 : fs.length = ks.length) (h : ∀ a, μ2 a = none → sp (argsD as (.ref a :: ds) fs) (μ2.set a (.ins C [] [])) (sel ev) fun d μ3 => d = .non ∧ Φ (.ref a) μ3) :
    ∀ a dx, H2 a = none → H2 dx = none → dx ≠ a → lift K T sp (argsV as (.ref a :: vs) zs) (upd (upd H2 dx (.own a)) a (.ins C dx [])) (fun v H3 => v = .non ∧ Q (.ref a) H3) E' := fun a dx na nd ne => by
  have s3 := step_new (o := .own a) nd (st2.free nd)
  have st3 := st2.new (o := .own a) nd
  have na3 : upd H2 dx (.own a) a = none := by rw [upd_ne (Ne.symm ne)]; exact na
  have s4 := step_newM (μ := μ2) (m := .ins C [] []) (o := .ins C dx []) na3
  have st4 := st3.newM (m := .ins C [] []) (o := .ins C dx []) na3 ⟨dx, [], upd_same, rfl, .nil⟩
  have s := s1.trans (s2.trans (s3.trans s4))
  refine ⟨_, _, _, _, is_argsD (.cons (.ref a) (i1.step (s2.trans (s3.trans s4)))) (i2.step (s3.trans s4)) as (by rw [List.length_cons, i1.len, i2.len, l1, l2]; exact ok), st4, hs _ _ _ _ _ (xo.step s), h a (st2.free na), fun d μ' v H' ⟨e, q⟩ iv st' s' => ?_⟩
  subst e
  cases iv
  exact ⟨rfl, k _ _ _ _ q (.ref a) st' (s.trans s')⟩
theorem ve_make (M : Mk X.K C f) (hm : X.mg x = some (.ref C)) (c : CanV X.prog X.w X.K X.mg X.base CX T k f (n + 1) ks as sp) (hG : X.A.guards = some []) (hr : Room j X.A) (hk : k + 1 ≤ j) (hx : Passes CX X E') (hs : Sel E E' sel) (hg : Gl X x) (ha : PA X (e :: es) (upA X.K T E w)) (hkw : PK X kws (upA X.K T E wk))
    (hall : (backToKw pos (keywordEach kws X.env)).all (·.1.isSome) = true := by rfl) (hks : (backToKw pos (keywordEach kws X.env)).filterMap (·.1) = ks := by rfl) (hdb : (x == ("__debug__" : Str)) = false := by decide)
    (he : starEach (e :: es) X.env = (false, eval e X.env) :: starEach es X.env := by rfl) (hpl : ((backTo pos (starEach (e :: es) X.env)).any (·.1) || (backToKw pos (keywordEach kws X.env)).any (·.1.isNone)) = false := by rfl) :
    PE X (.Call (.Name x p) (e :: es) kws pos) (up X.K T E (wMake sel C as sp n ks.length w wk)) := by
  obtain ⟨⟨fd, ps, g, F, kp, hb⟩, ok⟩ := c
  refine ⟨fun pins s σ H Q I ⟨ρ, μ, ev, Φ, en, st, xo, h, k⟩ => wpAny_Call_Name_kw (ld_glob I hg hm (PySem.W.callWith_KW (h₀ := X.base) I.ok.mod.kin M.kp hall ?_ hpl he) hdb)⟩
  refine thn (ha.run pos pins s σ H _ I ⟨ρ, μ, ev, _, en, st, xo, h, fun ds μ1 vs H1 q i1 st1 s1 => (show upA X.K T E wk σ H1 (fun zs H2 => vs.length = n ∧ zs.length = ks.length ∧ ∀ a dx, H2 a = none → H2 dx = none → dx ≠ a → lift X.K T sp (argsV as (.ref a :: vs) zs) (upd (upd H2 dx (.own a)) a (.ins C dx [])) (fun v H3 => v = .non ∧ Q (.ref a) H3) E') from
    ⟨ρ, μ1, ev, _, en.step s1, st1, xo.step s1, q, fun fs μ2 zs H2 ⟨l1, l2, q2⟩ i2 st2 s2 => ⟨by rw [i1.len]; exact l1, by rw [i2.len]; exact l2, into_make hs ok xo k i1 s1 i2 st2 s2 l1 l2 q2⟩⟩)⟩) fun us s1 y => ?_
  obtain ⟨vs, H1, J1, r, q⟩ := y
  refine thn (hkw.run pos pins s1 σ H1 _ J1 q) fun ws s2 y => ?_
  obtain ⟨zs, H2, J2, rz, l1, l2, q2⟩ := y
  refine ⟨J2.kIn, ?_⟩
  rw [hks]
  exact run_mg M F hG (hr.mono hk) hb hx J2 r rz l1 l2 q2
theorem ve_makeN0 (M : Mk X.K C f) (hm : X.mg x = some (.ref C)) (c : CanV X.prog X.w X.K X.mg X.base CX T k f 1 ks as sp) (hG : X.A.guards = some []) (hr : Room j X.A) (hk : k + 1 ≤ j) (hx : Passes CX X E') (hs : Sel E E' sel) (hg : Gl X x) (hkw : PK X kws (upA X.K T E wk))
    (hall : (backToKw pos (keywordEach kws X.env)).all (·.1.isSome) = true := by rfl) (hks : (backToKw pos (keywordEach kws X.env)).filterMap (·.1) = ks := by rfl) (hdb : (x == ("__debug__" : Str)) = false := by decide)
    (hpl : ((backTo pos (starEach [] X.env)).any (·.1) || (backToKw pos (keywordEach kws X.env)).any (·.1.isNone)) = false := by rfl) :
    PE X (.Call (.Name x p) [] kws pos) (up X.K T E (wMake sel C as sp 0 ks.length wNil wk)) := by
  obtain ⟨⟨fd, ps, g, F, kp, hb⟩, ok⟩ := c
  refine ⟨fun pins s σ H Q I ⟨ρ, μ, ev, Φ, en, st, xo, h, k⟩ => wpAny_Call_Name_kw (ld_glob I hg hm (PySem.W.callWith_KW0 (h₀ := X.base) I.ok.mod.kin M.kp hall ?_ hpl) hdb)⟩
  refine thn (hkw.run pos pins s σ H _ I (show upA X.K T E wk σ H (fun zs H2 => zs.length = ks.length ∧ ∀ a dx, H2 a = none → H2 dx = none → dx ≠ a → lift X.K T sp (argsV as [.ref a] zs) (upd (upd H2 dx (.own a)) a (.ins C dx [])) (fun v H3 => v = .non ∧ Q (.ref a) H3) E') from
    ⟨ρ, μ, ev, _, en, st, xo, h, fun fs μ2 zs H2 ⟨l1, l2, q2⟩ i2 st2 s2 => ⟨by rw [i2.len]; exact l2, into_make (ds := []) (vs := []) (n := 0) hs ok xo k .nil (Step.refl _ _) i2 st2 s2 l1 l2 q2⟩⟩)) fun ws s2 y => ?_
  obtain ⟨zs, H2, J2, rz, l2, q2⟩ := y
  refine ⟨J2.kIn, ?_⟩
  rw [hks]
  exact run_mg (us := []) (vs := []) M F hG (hr.mono hk) hb hx J2 .nil rz rfl l2 q2
end
end VL

set_option maxRecDepth 100000
set_option maxHeartbeats 4000000
/-! values as trees: operators, built-ins, attributes, by value -/
namespace VL
open PySem L2 FW PyProof.Rows
section
variable {K : PySem.W.Frag} {T : List (Addr × Str)}
/-! ### ints -/
def vI0 (g : Int → Int → D) : V2 := fun x y μ Φ => ∃ i j, x = .int i ∧ y = .int j ∧ Φ (g i j) μ
def vI (C : Int → Int → Prop) (g : Int → Int → D) : V2 := fun x y μ Φ => ∃ i j, x = .int i ∧ y = .int j ∧ C i j ∧ Φ (g i j) μ
def vU (g : Int → D) : V1 := fun x μ Φ => ∃ i, x = .int i ∧ Φ (g i) μ
theorem sim_I0 {f : Int → Int → V} {g : Int → Int → D} (h : ∀ i j μ H, Is K μ H (f i j) (g i j)) : Sim2 K T (rI0 f) (vI0 g) := fun x y v w μ H Φ Q ix iy st ⟨i, j, e1, e2, q⟩ k => by
  subst e1 e2; cases ix; cases iy; exact ⟨i, j, rfl, rfl, k.now q (h i j μ H) st⟩
theorem sim_I {C : Int → Int → Prop} {f : Int → Int → V} {g : Int → Int → D} (h : ∀ i j μ H, Is K μ H (f i j) (g i j)) : Sim2 K T (rI C f) (vI C g) := fun x y v w μ H Φ Q ix iy st ⟨i, j, e1, e2, c, q⟩ k => by
  subst e1 e2; cases ix; cases iy; exact ⟨i, j, rfl, rfl, c, k.now q (h i j μ H) st⟩
theorem sim_U {f : Int → V} {g : Int → D} (h : ∀ i μ H, Is K μ H (f i) (g i)) : Sim1 K T (rU f) (vU g) := fun x v μ H Φ Q ix st ⟨i, e1, q⟩ k => by
  subst e1; cases ix; exact ⟨i, rfl, k.now q (h i μ H) st⟩
def vAdd : V2 := vI0 fun i j => .int (i + j)
def vSub : V2 := vI0 fun i j => .int (i - j)
def vMul : V2 := vI CMul fun i j => .int (i * j)
def vMod : V2 := vI (fun _ j => 0 < j) fun i j => .int (i % j)
def vFdiv : V2 := vI CDivA fun i j => .int (i.fdiv j)
def vPow : V2 := vI CPow fun i j => .int (i ^ j.toNat)
def vLt : V2 := vI0 fun i j => .bl (decide (i < j))
def vLe : V2 := vI0 fun i j => .bl (decide (i ≤ j))
def vGt : V2 := vI0 fun i j => .bl (decide (j < i))
def vGe : V2 := vI0 fun i j => .bl (decide (j ≤ i))
def vNeg : V1 := vU fun i => .int (-i)
theorem s_add : Sim2 K T (rI0 fun i j => .int (i + j)) vAdd := sim_I0 fun _ _ _ _ => .int _
theorem s_sub : Sim2 K T (rI0 fun i j => .int (i - j)) vSub := sim_I0 fun _ _ _ _ => .int _
theorem s_mul : Sim2 K T (rI CMul fun i j => .int (i * j)) vMul := sim_I fun _ _ _ _ => .int _
theorem s_mod : Sim2 K T (rI (fun _ j => 0 < j) fun i j => .int (i % j)) vMod := sim_I fun _ _ _ _ => .int _
theorem s_fdiv : Sim2 K T (rI CDivA fun i j => .int (i.fdiv j)) vFdiv := sim_I fun _ _ _ _ => .int _
theorem s_pow : Sim2 K T (rI CPow fun i j => .int (i ^ j.toNat)) vPow := sim_I fun _ _ _ _ => .int _
theorem s_neg : Sim1 K T (rU fun i => .int (-i)) vNeg := sim_U fun _ _ _ => .int _
/-! ### == by value -/
def pyEq (p q : PyData) : Option Bool := if (SeqAt.shaped p && SeqAt.shaped q) = true then some (PyData.eqv p q) else none
def eqD (μ : Mu) : D → D → Option Bool
  | .int a, .int b => some (decide (a = b))
  | .str a, .str b => some (decide (a = b))
  | .bl a, .bl b => some (decide (a = b))
  | .non, .str _ => some false
  | .str _, .non => some false
  | .int _, .str _ => some false
  | .str _, .int _ => some false
  | .bl _, .str _ => some false
  | .str _, .bl _ => some false
  | x, y => match toPyT μ x, toPyT μ y with
    | some p, some q => pyEq p q
    | _, _ => none
def vEq (neg : Bool) : V2 := fun x y μ Φ => ∃ b, eqD μ x y = some b ∧ Φ (.bl (if neg then !b else b)) μ
def rEqA (K : PySem.W.Frag) : R2 := fun x y H Q => rEq x y H Q ∨ rEqD K x y H Q
def rNeA (K : PySem.W.Frag) : R2 := fun x y H Q => rNe x y H Q ∨ rNeD K x y H Q
theorem op_eqA {X : Cx} (hu : X.A.units + 64 < cLine) : OpR X (compareOp .Eq) (rEqA X.K) := by
  intro pins s σ H x y v u Q I rx ry h
  rcases h with h | h
  · exact op_eq pins s σ H x y v u Q I rx ry h
  · exact op_eqD hu pins s σ H x y v u Q I rx ry h
theorem op_neA {X : Cx} (hu : X.A.units + 64 < cLine) : OpR X (compareOp .NotEq) (rNeA X.K) := by
  intro pins s σ H x y v u Q I rx ry h
  rcases h with h | h
  · exact op_ne pins s σ H x y v u Q I rx ry h
  · exact op_neD hu pins s σ H x y v u Q I rx ry h
theorem eqD_is {μ : Mu} {H : Hp} {v w : V} {x y : D} {b : Bool} (st : Sto K T μ H) (ix : Is K μ H v x) (iy : Is K μ H w y) (e : eqD μ x y = some b) : (scal v w = true ∧ decide (v = w) = b) ∨ ∃ p q, Dp K H v p ∧ Dp K H w q ∧ SeqAt.shaped p = true ∧ SeqAt.shaped q = true ∧ PyData.eqv p q = b := by
  have other : (match toPyT μ x, toPyT μ y with | some p, some q => pyEq p q | _, _ => none) = some b → ∃ p q, Dp K H v p ∧ Dp K H w q ∧ SeqAt.shaped p = true ∧ SeqAt.shaped q = true ∧ PyData.eqv p q = b := fun h => by
    cases h1 : toPyT μ x with
    | none => rw [h1] at h; cases h
    | some p =>
      cases h2 : toPyT μ y with
      | none => rw [h1, h2] at h; cases h
      | some q =>
        rw [h1, h2] at h
        have h : pyEq p q = some b := h
        unfold pyEq at h
        split at h
        · rename_i hs
          rw [Bool.and_eq_true] at hs
          cases h
          exact ⟨p, q, is_pyT st ix h1, is_pyT st iy h2, hs.1, hs.2, rfl⟩
        · cases h
  unfold eqD at e
  split at e
  · cases ix; cases iy; simp only [Option.some.injEq] at e; subst e; exact .inl ⟨rfl, by rw [dec_int]; exact (Bool.beq_eq_decide_eq _ _)⟩
  · cases ix; cases iy; simp only [Option.some.injEq] at e; subst e; exact .inl ⟨rfl, by simp⟩
  · cases ix; cases iy; simp only [Option.some.injEq] at e; subst e; exact .inl ⟨rfl, by simp⟩
  · cases ix; cases iy; cases e; exact .inl ⟨rfl, rfl⟩
  · cases ix; cases iy; cases e; exact .inl ⟨rfl, rfl⟩
  · cases ix; cases iy; cases e; exact .inl ⟨rfl, rfl⟩
  · cases ix; cases iy; cases e; exact .inl ⟨rfl, rfl⟩
  · cases ix; cases iy; cases e; exact .inl ⟨rfl, rfl⟩
  · cases ix; cases iy; cases e; exact .inl ⟨rfl, rfl⟩
  · exact .inr (other e)
theorem s_eq : Sim2 K T (rEqA K) (vEq false) := fun x y v w μ H Φ Q ix iy st ⟨b, e, h⟩ k => by
  rcases eqD_is st ix iy e with ⟨h1, h2⟩ | ⟨p, q, h1, h2, h3, h4, h5⟩
  · exact .inl ⟨h1, by rw [h2]; exact k.now h (.bl _) st⟩
  · exact .inr ⟨p, q, h1, h2, h3, h4, by rw [h5]; exact k.now h (.bl _) st⟩
theorem s_ne : Sim2 K T (rNeA K) (vEq true) := fun x y v w μ H Φ Q ix iy st ⟨b, e, h⟩ k => by
  rcases eqD_is st ix iy e with ⟨h1, h2⟩ | ⟨p, q, h1, h2, h3, h4, h5⟩
  · exact .inl ⟨h1, by rw [h2]; exact k.now h (.bl _) st⟩
  · exact .inr ⟨p, q, h1, h2, h3, h4, by rw [h5]; exact k.now h (.bl _) st⟩
def vIsB (neg : Bool) : V2 := fun x y μ Φ => ∃ a b, x = .bl a ∧ y = .bl b ∧ Φ (.bl (if neg then !decide (a = b) else decide (a = b))) μ
theorem s_isB : Sim2 K T rIsB (vIsB false) := fun x y v w μ H Φ Q ix iy st ⟨a, b, e1, e2, h⟩ k => by
  subst e1 e2; cases ix; cases iy; exact ⟨a, b, rfl, rfl, k.now h (.bl _) st⟩
theorem s_isnotB : Sim2 K T (fun x y H Q => ∃ a b, x = .bl a ∧ y = .bl b ∧ Q (.bl (!decide (a = b))) H) (vIsB true) := fun x y v w μ H Φ Q ix iy st ⟨a, b, e1, e2, h⟩ k => by
  subst e1 e2; cases ix; cases iy; exact ⟨a, b, rfl, rfl, k.now h (.bl _) st⟩
/-! ### in -/
def flatD : D → Bool
  | .non => true
  | .bl _ => true
  | .int _ => true
  | .str _ => true
  | _ => false
def eqF : D → D → Bool
  | .non, .non => true
  | .bl a, .bl b => a == b
  | .bl a, .int b => (if a then 1 else 0) == b
  | .int a, .bl b => a == (if b then 1 else 0)
  | .int a, .int b => a == b
  | .str a, .str b => a == b
  | _, _ => false
theorem flat_is {μ : Mu} {H : Hp} {v : V} {d : D} (h : Is K μ H v d) (f : flatD d = true) : flatV v = true := by
  cases h <;> first | rfl | cases f
theorem flats_is {μ : Mu} {H : Hp} : ∀ {vs : List V} {ds : List D}, IsAll K μ H vs ds → ds.all flatD = true → vs.all flatV = true
  | _, _, .nil, _ => rfl
  | _, _, .cons a b, f => by
    rw [List.all_cons, Bool.and_eq_true] at f
    rw [List.all_cons, flat_is a f.1, flats_is b f.2]; rfl
theorem eqV_is {μ : Mu} {H : Hp} {v w : V} {x y : D} (h : Is K μ H v x) (g : Is K μ H w y) (f1 : flatD x = true) (f2 : flatD y = true) : eqV v w = eqF x y := by
  cases h <;> cases g <;> first | rfl | cases f1 | cases f2
def inD (x : D) (ds : List D) : Bool := ds.any fun y => eqF y x
theorem inV_is {μ : Mu} {H : Hp} {v : V} {x : D} (h : Is K μ H v x) (f : flatD x = true) : ∀ {vs : List V} {ds : List D}, IsAll K μ H vs ds → ds.all flatD = true → inV v vs = inD x ds
  | _, _, .nil, _ => rfl
  | _, _, .cons a b, g => by
    rw [List.all_cons, Bool.and_eq_true] at g
    have ih := inV_is h f b g.2
    unfold inV inD at ih ⊢
    rw [List.any_cons, List.any_cons, ih, eqV_is a h g.1 f]
def vIn (neg : Bool) : V2 := fun x y μ Φ => ∃ ds, seqOf μ y = some ds ∧ flatD x = true ∧ ds.all flatD = true ∧ Φ (.bl (if neg then !inD x ds else inD x ds)) μ
theorem s_in {neg : Bool} : Sim2 K T (rIn K neg) (vIn neg) := fun x y v w μ H Φ Q ix iy st ⟨ds, e, f, g, q⟩ k => by
  obtain ⟨a, vs, rfl, sq, ia⟩ := is_seq st iy e
  exact ⟨a, vs, rfl, sq, flat_is ix f, flats_is ia g, by rw [inV_is ix f ia g]; exact k.now q (.bl _) st⟩
/-! ### lists together, lists times a number -/
def vCat : V2 := fun x y μ Φ => ∃ ds es, lstOf μ x = some ds ∧ lstOf μ y = some es ∧ ds.length + es.length ≤ sizeLine ∧ Φ (.lst (ds ++ es)) μ
def vCatM : V2 := fun x y μ Φ => ∃ ds es, lstOf μ x = some ds ∧ lstOf μ y = some es ∧ ds.length + es.length ≤ sizeLine ∧ ∀ p, μ p = none → Φ (.ref p) (μ.set p (.lst (ds ++ es)))
theorem s_cat : Sim2 K T rCat vCat := fun x y v w μ H Φ Q ix iy st ⟨ds, es, e1, e2, hl, q⟩ k => by
  obtain ⟨a, vs, rfl, h1, i1⟩ := is_lst st ix e1
  obtain ⟨b, us, rfl, h2, i2⟩ := is_lst st iy e2
  exact ⟨a, b, vs, us, rfl, rfl, h1, h2, by rw [i1.len, i2.len]; exact hl, fun p hp => k.lst q (i1.app i2) st p hp⟩
theorem s_catM : Sim2 K T rCat vCatM := fun x y v w μ H Φ Q ix iy st ⟨ds, es, e1, e2, hl, q⟩ k => by
  obtain ⟨a, vs, rfl, h1, i1⟩ := is_lst st ix e1
  obtain ⟨b, us, rfl, h2, i2⟩ := is_lst st iy e2
  exact ⟨a, b, vs, us, rfl, rfl, h1, h2, by rw [i1.len, i2.len]; exact hl, fun p hp => k.lstM q (i1.app i2) st p hp⟩
def vCatT : V2 := fun x y μ Φ => ∃ ds es, tupOf x = some ds ∧ tupOf y = some es ∧ ds ≠ [] ∧ ds.length + es.length ≤ sizeLine ∧ Φ (.tup (ds ++ es)) μ
def vRep : V2 := fun x y μ Φ => ∃ ds n, lstOf μ x = some ds ∧ y = .int n ∧ -(2 ^ 63) ≤ n ∧ n < 2 ^ 63 ∧ ds.length * n.toNat ≤ sizeLine ∧ Φ (.lst (List.replicate n.toNat ds).flatten) μ
def vRepM : V2 := fun x y μ Φ => ∃ ds n, lstOf μ x = some ds ∧ y = .int n ∧ -(2 ^ 63) ≤ n ∧ n < 2 ^ 63 ∧ ds.length * n.toNat ≤ sizeLine ∧ ∀ p, μ p = none → Φ (.ref p) (μ.set p (.lst (List.replicate n.toNat ds).flatten))
theorem s_rep : Sim2 K T rRep vRep := fun x y v w μ H Φ Q ix iy st ⟨ds, n, e1, e2, n1, n2, hl, q⟩ k => by
  obtain ⟨a, vs, rfl, h1, i1⟩ := is_lst st ix e1
  subst e2; cases iy
  exact ⟨a, n, vs, rfl, rfl, h1, n1, n2, by rw [i1.len]; exact hl, fun p hp => k.lst q (i1.rep _) st p hp⟩
theorem s_repM : Sim2 K T rRep vRepM := fun x y v w μ H Φ Q ix iy st ⟨ds, n, e1, e2, n1, n2, hl, q⟩ k => by
  obtain ⟨a, vs, rfl, h1, i1⟩ := is_lst st ix e1
  subst e2; cases iy
  exact ⟨a, n, vs, rfl, rfl, h1, n1, n2, by rw [i1.len]; exact hl, fun p hp => k.lstM q (i1.rep _) st p hp⟩
/-! ### subscripts, slices -/
theorem atI_is {μ : Mu} {H : Hp} {vs : List V} {ds : List D} {k : Int} {d : D} (h : IsAll K μ H vs ds) (e : atI ds k = some d) : ∃ v, atI vs k = some v ∧ Is K μ H v d := by
  unfold atI at e ⊢
  rw [h.len]
  cases q : ixN ds.length k with
  | none => rw [q] at e; cases e
  | some j =>
    rw [q] at e
    obtain ⟨v, e1, e2⟩ := h.get (show ds[j]? = some d from e)
    exact ⟨v, e1, e2⟩
def vIx : V2 := fun x y μ Φ => ∃ ds k d, seqOf μ x = some ds ∧ y = .int k ∧ atI ds k = some d ∧ Φ d μ
def vIxS : V2 := fun x y μ Φ => ∃ (z : Str) (k : Int) (c : Nat), x = .str z ∧ y = .int k ∧ z.length ≤ sizeLine ∧ atI z.cps.toList k = some c ∧ Φ (.str ⟨#[c]⟩) μ
theorem s_ix : Sim2 K T (rIx K) vIx := fun x y v w μ H Φ Q ix iy st ⟨ds, n, d, e1, e2, e3, q⟩ k => by
  obtain ⟨a, vs, rfl, sq, ia⟩ := is_seq st ix e1
  subst e2; cases iy
  obtain ⟨u, h1, h2⟩ := atI_is ia e3
  rcases sq with sq | sq
  · exact .inl ⟨a, vs, n, u, rfl, rfl, sq, h1, k.now q h2 st⟩
  · exact .inr (.inl ⟨a, vs, n, u, rfl, rfl, sq, h1, k.now q h2 st⟩)
theorem s_ixS : Sim2 K T (rIx K) vIxS := fun x y v w μ H Φ Q ix iy st ⟨z, n, c, e1, e2, hz, e3, q⟩ k => by
  subst e1 e2; cases ix; cases iy
  exact .inr (.inr ⟨z, n, c, rfl, rfl, hz, e3, k.now q (.str _) st⟩)
def cutD (ds : List D) (lo hi : Option Int) : List D := (ds.drop (HT.sIx ds.length 0 lo)).take (HT.sIx ds.length ds.length hi - HT.sIx ds.length 0 lo)
theorem cut_is {μ : Mu} {H : Hp} {vs : List V} {ds : List D} (h : IsAll K μ H vs ds) (lo hi : Option Int) : IsAll K μ H (cutV vs lo hi) (cutD ds lo hi) := by
  unfold cutV cutD
  rw [h.len]
  exact (h.drop _).take _
def vSlL : VS := fun x lo hi μ Φ => ∃ ds, (fzL x = some ds ∨ lstOf μ x = some ds) ∧ Φ (.lst (cutD ds lo hi)) μ
def vSlM : VS := fun x lo hi μ Φ => ∃ ds, (fzL x = some ds ∨ lstOf μ x = some ds) ∧ ∀ p, μ p = none → Φ (.ref p) (μ.set p (.lst (cutD ds lo hi)))
def vSlS : VS := fun x lo hi μ Φ => ∃ z, x = .str z ∧ z.length ≤ sizeLine ∧ Φ (.str (cutS z lo hi)) μ
theorem sqL_of {μ : Mu} {H : Hp} {v : V} {x : D} {ds : List D} (st : Sto K T μ H) (h : Is K μ H v x) (e : fzL x = some ds ∨ lstOf μ x = some ds) : ∃ a vs, v = .ref a ∧ SqL K H a vs ∧ IsAll K μ H vs ds := by
  rcases e with e | e
  · obtain ⟨a, vs, rfl, at_, ia⟩ := fzL_is h e
    exact ⟨a, vs, rfl, at_.sq, ia⟩
  · obtain ⟨a, vs, rfl, at_, ia⟩ := is_lst st h e
    exact ⟨a, vs, rfl, SqL.of at_, ia⟩
theorem s_slL : SimS K T (rSlL K) vSlL := fun x v lo hi μ H Φ Q ix st ⟨ds, e, q⟩ k => by
  obtain ⟨a, vs, rfl, sq, ia⟩ := sqL_of st ix e
  exact ⟨a, vs, rfl, sq, fun p hp => k.lst q (cut_is ia lo hi) st p hp⟩
theorem s_slM : SimS K T (rSlL K) vSlM := fun x v lo hi μ H Φ Q ix st ⟨ds, e, q⟩ k => by
  obtain ⟨a, vs, rfl, sq, ia⟩ := sqL_of st ix e
  exact ⟨a, vs, rfl, sq, fun p hp => k.lstM q (cut_is ia lo hi) st p hp⟩
theorem s_slS : SimS K T rSlS vSlS := fun x v lo hi μ H Φ Q ix st ⟨z, e, hz, q⟩ k => by
  subst e; cases ix; exact ⟨z, rfl, hz, k.now q (.str _) st⟩
def vSetL : VSet := fun o i d μ Φ => ∃ a ds k j, o = .ref a ∧ i = .int k ∧ μ a = some (.lst ds) ∧ ixN ds.length k = some j ∧ Φ (μ.set a (.lst (ds.set j d)))
theorem s_setL : SimSet K T rSetL vSetL := fun o i d vo vi vd μ H Φ Q io ii id st ⟨a, ds, n, j, e1, e2, hm, hj, q⟩ k => by
  subst e1 e2; cases io; cases ii
  obtain ⟨vs, h1, ia⟩ := st.mo _ _ hm
  have s := step_set (H := H) (m' := .lst (ds.set j d)) (o := .lst (vs.set j vd)) hm
  exact ⟨a, vs, n, j, rfl, rfl, h1, by rw [ia.len]; exact hj, k _ _ q (st.set (m' := .lst (ds.set j d)) hm ⟨_, upd_same, (ia.set id j).step s⟩) s⟩
/-! ### built-ins -/
def lenOf (μ : Mu) : D → Option Nat
  | .str z => if z.length ≤ sizeLine then some z.length else none
  | .lst ds => some ds.length
  | .tup ds => some ds.length
  | .sq ds => some ds.length
  | .ref a => match μ a with
    | some (.lst ds) => some ds.length
    | _ => none
  | _ => none
theorem lenOf_of {μ : Mu} {a : Addr} {ds : List D} (e : μ a = some (.lst ds)) : lenOf μ (.ref a) = some ds.length := by show (match μ a with | some (.lst ds) => some ds.length | _ => none) = some ds.length; rw [e]
theorem lenOf_seq {μ : Mu} {x : D} {n : Nat} (h : lenOf μ x = some n) : (∃ z, x = .str z ∧ z.length ≤ sizeLine ∧ n = z.length) ∨ ∃ ds, seqOf μ x = some ds ∧ n = ds.length := by
  cases x with
  | str z =>
    have h2 : (if z.length ≤ sizeLine then some z.length else none) = some n := h
    split at h2
    · cases h2; exact .inl ⟨z, rfl, ‹_›, rfl⟩
    · cases h2
  | lst ds => cases h; exact .inr ⟨ds, rfl, rfl⟩
  | tup ds => cases h; exact .inr ⟨ds, rfl, rfl⟩
  | sq ds => cases h; exact .inr ⟨ds, rfl, rfl⟩
  | ref a =>
    have e2 : (match μ a with | some (.lst ds) => some ds.length | _ => none) = some n := h
    cases q : μ a with
    | none => rw [q] at e2; cases e2
    | some m => rw [q] at e2; cases m <;> first | (cases e2; exact .inr ⟨_, seqOf_of q, rfl⟩) | cases e2
  | _ => cases h
def vLen : VL_ := fun xs μ Φ => ∃ x n, xs = [x] ∧ lenOf μ x = some n ∧ Φ (.int (n : Nat)) μ
theorem s_len : SimL K T (FW.rLen K) vLen := fun xs vs μ H Φ Q ia st ⟨x, n, e, hl, q⟩ k => by
  subst e
  cases ia with
  | cons ix c =>
    cases c
    rcases lenOf_seq hl with ⟨z, rfl, hz, rfl⟩ | ⟨ds, hs, rfl⟩
    · cases ix
      exact ⟨.str z, z.length, rfl, ⟨hz, rfl⟩, k.now q (.int _) st⟩
    · obtain ⟨a, us, rfl, sq, i⟩ := is_seq st ix hs
      refine ⟨.ref a, ds.length, rfl, ?_, k.now q (.int _) st⟩
      rcases sq with sq | sq
      · exact .inl ⟨us, sq, i.len.symm⟩
      · exact .inr ⟨us, sq, i.len.symm⟩
def vInt1 : VL_ := fun xs μ Φ => match xs with
  | [.int i] => Φ (.int i) μ
  | [.bl b] => Φ (.int (if b then 1 else 0)) μ
  | _ => False
theorem s_int : SimL K T rInt1 vInt1 := fun xs vs μ H Φ Q ia st h k => by
  match xs, ia, h with
  | [.int i], .cons (.int _) .nil, h => exact k.now h (.int i) st
  | [.bl b], .cons (.bl _) .nil, h => exact k.now h (.int _) st
def vAbs : VL_ := fun xs μ Φ => ∃ i, xs = [.int i] ∧ Φ (.int (if i < 0 then -i else i)) μ
theorem s_abs : SimL K T rAbs vAbs := fun xs vs μ H Φ Q ia st ⟨i, e, q⟩ k => by
  subst e
  cases ia with | cons ix c => cases ix; cases c; exact ⟨i, rfl, k.now q (.int _) st⟩
/-- what repr shows -/
def ShowOk (p : PyData) : Prop := p.showable = true ∧ p.depth ≤ 60 ∧ p.shown.length ≤ sizeLine
theorem noDict_py {μ : Mu} : ∀ {d : D} {p : PyData}, toPy μ d = some p → p.hasDict = false := by
  have go : ∀ n : Nat, (∀ {d : D} {p : PyData}, sizeOf d < n → toPy μ d = some p → p.hasDict = false) ∧ (∀ {ds : List D} {ps : List PyData}, sizeOf ds < n → toPys μ ds = some ps → PyData.hasDictAll ps = false) := by
    intro n
    induction n with
    | zero => exact ⟨fun h => absurd h (Nat.not_lt_zero _), fun h => absurd h (Nat.not_lt_zero _)⟩
    | succ n ih =>
      refine ⟨fun {d p} h e => ?_, fun {ds ps} h e => ?_⟩
      · cases d with
        | non => simp [toPy] at e; subst e; rfl
        | bl b => simp [toPy] at e; subst e; rfl
        | int i => simp [toPy] at e; subst e; rfl
        | str s => simp [toPy] at e; subst e; rfl
        | lst ds => simp [toPy] at e; obtain ⟨ps, h1, rfl⟩ := e; rw [PyData.hasDict]; exact ih.2 (by simp at h; omega) h1
        | sq ds => simp [toPy] at e; obtain ⟨ps, h1, rfl⟩ := e; rw [PyData.hasDict]; exact ih.2 (by simp at h; omega) h1
        | tup ds => simp [toPy] at e; obtain ⟨ps, h1, rfl⟩ := e; rw [PyData.hasDict]; exact ih.2 (by simp at h; omega) h1
        | _ => simp [toPy] at e
      · cases ds with
        | nil => simp [toPys] at e; subst e; rfl
        | cons d ds =>
          unfold toPys at e
          split at e
          · rename_i p ps h1 h2
            cases e
            rw [PyData.hasDictAll, ih.1 (by simp at h; omega) h1, ih.2 (by simp at h; omega) h2]; rfl
          · cases e
  exact fun {d p} => (go (sizeOf d + 1)).1 (Nat.lt_succ_self _)
theorem noDict_pys {μ : Mu} {ds : List D} {ps : List PyData} (h : toPys μ ds = some ps) : (PyData.list ps).hasDict = false := noDict_py (μ := μ) (d := .lst ds) (by simp [toPy, h])
def vRepr : VL_ := fun xs μ Φ => ∃ x p, xs = [x] ∧ (∀ s, x ≠ .str s) ∧ toPyT μ x = some p ∧ ShowOk p ∧ Φ (.str p.shown) μ
theorem s_repr : SimL K T (rShowA K) vRepr := fun xs vs μ H Φ Q ia st ⟨x, p, e, ns, hp, ⟨h1, h2, h3⟩, q⟩ k => by
  subst e
  cases ia with
  | cons ix c =>
    cases c
    have dp := is_pyT st ix hp
    have done := k.now q (.str _) st
    cases x with
    | non => cases ix; simp [toPyT, toPy] at hp; subst hp; exact .inr (.inl ⟨rfl, done⟩)
    | bl b => cases ix; simp [toPyT, toPy] at hp; subst hp; exact .inr (.inr ⟨b, rfl, done⟩)
    | int i =>
      cases ix; simp [toPyT, toPy] at hp; subst hp
      exact .inl (.inl ⟨i, rfl, by simpa [PyData.showable] using h1, done⟩)
    | str s => exact (ns s rfl).elim
    | ref a =>
      cases ix
      have e : (match μ a with | some (.lst ds) => (toPys μ ds).map .list | _ => none) = some p := hp
      have nd : p.hasDict = false := by
        cases q : μ a with
        | none => rw [q] at e; cases e
        | some m => rw [q] at e; cases m <;> first | (simp at e; obtain ⟨ps, g1, rfl⟩ := e; exact noDict_pys g1) | cases e
      exact .inl (.inr ⟨a, p, rfl, dp, h1, nd, h2, h3, done⟩)
    | lst ds => cases ix; exact .inl (.inr ⟨_, p, rfl, dp, h1, noDict_py (show toPy μ (.lst ds) = some p from hp), h2, h3, done⟩)
    | sq ds => cases ix; exact .inl (.inr ⟨_, p, rfl, dp, h1, noDict_py (show toPy μ (.sq ds) = some p from hp), h2, h3, done⟩)
    | tup ds => cases ix; exact .inl (.inr ⟨_, p, rfl, dp, h1, noDict_py (show toPy μ (.tup ds) = some p from hp), h2, h3, done⟩)
    | _ => simp [toPyT, toPy] at hp
def vListOf : VL_ := fun xs μ Φ => ∃ x ds, xs = [x] ∧ seqOf μ x = some ds ∧ Φ (.lst ds) μ
def vListOfM : VL_ := fun xs μ Φ => ∃ x ds, xs = [x] ∧ seqOf μ x = some ds ∧ ∀ p, μ p = none → Φ (.ref p) (μ.set p (.lst ds))
def vTupOf : VL_ := fun xs μ Φ => ∃ x ds, xs = [x] ∧ seqOf μ x = some ds ∧ Φ (.tup ds) μ
theorem s_list : SimL K T (fun xs H Q => ∃ p ys, xs = [.ref p] ∧ (SqL K H p ys ∨ SqT K H p ys) ∧ ∀ l, H l = none → Q (.ref l) (upd H l (.lst ys))) vListOf := fun xs vs μ H Φ Q ia st ⟨x, ds, e, hs, q⟩ k => by
  subst e
  cases ia with
  | cons ix c =>
    cases c
    obtain ⟨a, vs, rfl, sq, i⟩ := is_seq st ix hs
    exact ⟨a, vs, rfl, sq, fun p hp => k.lst q i st p hp⟩
theorem s_listM : SimL K T (fun xs H Q => ∃ p ys, xs = [.ref p] ∧ (SqL K H p ys ∨ SqT K H p ys) ∧ ∀ l, H l = none → Q (.ref l) (upd H l (.lst ys))) vListOfM := fun xs vs μ H Φ Q ia st ⟨x, ds, e, hs, q⟩ k => by
  subst e
  cases ia with
  | cons ix c =>
    cases c
    obtain ⟨a, vs, rfl, sq, i⟩ := is_seq st ix hs
    exact ⟨a, vs, rfl, sq, fun p hp => k.lstM q i st p hp⟩
theorem s_tuple : SimL K T (fun xs H Q => ∃ p ys, xs = [.ref p] ∧ ((SqL K H p ys ∧ ∀ l, H l = none → Q (.ref l) (upd H l (.tup ys))) ∨ (SqT K H p ys ∧ Q (.ref p) H))) vTupOf := fun xs vs μ H Φ Q ia st ⟨x, ds, e, hs, q⟩ k => by
  subst e
  cases ia with
  | @cons v _ _ _ ix c =>
    cases c
    have other : (∀ es, x ≠ .tup es) → ∃ p ys, [v] = [V.ref p] ∧ ((SqL K H p ys ∧ ∀ l, H l = none → Q (.ref l) (upd H l (.tup ys))) ∨ (SqT K H p ys ∧ Q (.ref p) H)) := fun nt => by
      have e2 : fzL x = some ds ∨ lstOf μ x = some ds := by
        cases x with
        | lst es => exact .inl hs
        | sq es => exact .inl hs
        | ref a => exact .inr (lstOf_of (seqOf_ref hs))
        | tup es => exact (nt es rfl).elim
        | _ => simp [seqOf] at hs
      obtain ⟨a, us, rfl, sq, i⟩ := sqL_of st ix e2
      exact ⟨a, us, rfl, .inl ⟨sq, fun p hp => k.tup q i st p hp⟩⟩
    cases x with
    | tup es =>
      simp only [seqOf, Option.some.injEq] at hs
      subst hs
      have ix2 := ix
      cases ix with
      | tup at_ i => exact ⟨_, _, rfl, .inr ⟨at_.sq, k.now q ix2 st⟩⟩
    | _ => exact other nofun
def vAll (an : Bool) : VL_ := fun xs μ Φ => ∃ (x : D) (bs : List Bool), xs = [x] ∧ (fzL x = some (bs.map .bl) ∨ lstOf μ x = some (bs.map .bl)) ∧ Φ (.bl (if an then bs.any id else bs.all id)) μ
theorem s_any : SimL K T (rAny K) (vAll true) := fun xs vs μ H Φ Q ia st ⟨x, bs, e, hs, q⟩ k => by
  subst e
  cases ia with
  | cons ix c =>
    cases c
    obtain ⟨a, us, rfl, sq, i⟩ := sqL_of st ix hs
    rw [vs_bls i] at sq
    exact ⟨a, bs, rfl, sq, k.now q (.bl _) st⟩
theorem s_all : SimL K T (rAll K) (vAll false) := fun xs vs μ H Φ Q ia st ⟨x, bs, e, hs, q⟩ k => by
  subst e
  cases ia with
  | cons ix c =>
    cases c
    obtain ⟨a, us, rfl, sq, i⟩ := sqL_of st ix hs
    rw [vs_bls i] at sq
    exact ⟨a, bs, rfl, sq, k.now q (.bl _) st⟩
/-! ### isinstance, built-in classes -/
/-- the name of a value's built-in class -/
def tyD (μ : Mu) : D → Option String
  | .non => some "NoneType"
  | .bl _ => some "bool"
  | .int _ => some "int"
  | .str _ => some "str"
  | .lst _ => some "list"
  | .tup _ => some "tuple"
  | .dic _ _ => some "dict"
  | .ref a => match μ a with
    | some (.lst _) => some "list"
    | some (.dic _ _) => some "dict"
    | _ => none
  | _ => none
theorem tyX_is {μ : Mu} {H : Hp} {v : V} {x : D} {t : String} (st : Sto K T μ H) (h : Is K μ H v x) (e : tyD μ x = some t) : TyX K H v (.type t) := by
  cases h with
  | non => cases e; exact .base .non
  | bl b => cases e; exact .base (.bl b)
  | int b => cases e; exact .base (.int b)
  | str b => cases e; exact .base (.str b)
  | lst a i => cases e; exact .base (.lst a.2)
  | tup a i =>
    cases e
    rcases a with ⟨_, h⟩ | h
    · exact .base (.tup h)
    · rcases h with (h | ⟨o, h⟩) | ⟨o, its, n, h1, h2, _⟩
      · cases h
      · cases h
      · exact .kTuple h1 h2
  | dic m h l i => cases e; exact .base (.dK h)
  | ref a =>
    have e2 : (match μ a with | some (.lst _) => some "list" | some (.dic _ _) => some "dict" | _ => none) = some t := e
    cases q : μ a with
    | none => rw [q] at e2; cases e2
    | some m =>
      rw [q] at e2
      have mo := st.mo _ _ q
      cases m with
      | lst ds => cases e2; obtain ⟨vs, h1, _⟩ := mo; exact .base (.lst h1)
      | dic ks ds => cases e2; obtain ⟨vs, h1, _⟩ := mo; exact .base (.dK h1)
      | ins _ _ _ => cases e2
      | raw _ => cases e2
      | rawT _ _ => cases e2
  | _ => simp [tyD] at e
/-- of one built-in class, or of one of a row -/
def vIsi : VL_ := fun xs μ Φ => ∃ x n t b, xs = [x, .ty n] ∧ tyD μ x = some t ∧ kitB t n = some b ∧ Φ (.bl b) μ
theorem s_isi : SimL K T (rIsi K) vIsi := fun xs vs μ H Φ Q ia st ⟨x, n, t, b, e, ht, kb, q⟩ k => by
  subst e
  cases ia with
  | cons ix c => cases c with
    | cons iy c =>
      cases iy; cases c
      exact ⟨_, _, _, _, b, rfl, .ty n, tyX_is st ix ht, kit_ty kb, k.now q (.bl b) st⟩
def vIsi2 : VL_ := fun xs μ Φ => ∃ x n m t b c, xs = [x, .tup [.ty n, .ty m]] ∧ tyD μ x = some t ∧ kitB t n = some b ∧ kitB t m = some c ∧ Φ (.bl (b || c)) μ
end
end VL

set_option maxRecDepth 100000
set_option maxHeartbeats 4000000
/-! values as trees: attributes, methods of lists, exceptions -/
namespace VL
open PySem L2 FW PyProof.Rows
/-! ### attributes -/
def putN (f : Str) : List Str → List Str
  | [] => [f]
  | n :: ns => if n = f then n :: ns else n :: putN f ns
def putX {α : Type} (f : Str) (x : α) : List Str → List α → List α
  | [], _ => [x]
  | _ :: _, [] => [x]
  | n :: ns, y :: ys => if n = f then x :: ys else y :: putX f x ns ys
theorem put_zip (f : Str) (v : V) : ∀ {ns : List Str} {vs : List V}, ns.length = vs.length → (putN f ns).zip (putX f v ns vs) = putF f v (ns.zip vs) ∧ (putN f ns).length = (putX f v ns vs).length
  | [], [], _ => ⟨rfl, rfl⟩
  | [], _ :: _, h => by cases h
  | _ :: _, [], h => by cases h
  | n :: ns, y :: ys, h => by
    have ih := put_zip f v (ns := ns) (vs := ys) (by simpa using h)
    unfold putN putX
    by_cases e : n = f
    · rw [if_pos e, if_pos e]
      refine ⟨?_, by simpa using h⟩
      show (n, v) :: ns.zip ys = if n = f then (n, v) :: ns.zip ys else _
      rw [if_pos e]
    · rw [if_neg e, if_neg e]
      refine ⟨?_, by simpa using ih.2⟩
      show (n, y) :: _ = if n = f then _ else (n, y) :: putF f v (ns.zip ys)
      have ih1 : List.zipWith Prod.mk (putN f ns) (putX f v ns ys) = putF f v (ns.zip ys) := ih.1
      rw [if_neg e, ih1]
theorem put_len (f : Str) {ns : List Str} {m : Nat} (h : ns.length < m) : (putN f ns).length ≤ m := by
  induction ns generalizing m with
  | nil => simp [putN]; omega
  | cons n ns ih =>
    unfold putN
    split
    · simp at h ⊢; omega
    · simp only [List.length_cons] at h ⊢
      have := ih (m := m - 1) (by omega)
      omega
theorem is_put {K : PySem.W.Frag} {μ : Mu} {H : Hp} {v : V} {d : D} {f : Str} (h : Is K μ H v d) : ∀ {ns : List Str} {vs : List V} {ds : List D}, IsAll K μ H vs ds → IsAll K μ H (putX f v ns vs) (putX f d ns ds)
  | [], _, _, _ => .cons h .nil
  | _ :: _, _, _, .nil => .cons h .nil
  | n :: ns, _, _, .cons a b => by
    unfold putX
    split
    · exact .cons h b
    · exact .cons a (is_put h b)
def lookD (f : Str) : List Str → List D → Option D
  | n :: ns, d :: ds => if f = n then some d else lookD f ns ds
  | _, _ => none
theorem look_is {K : PySem.W.Frag} {μ : Mu} {H : Hp} {f : Str} {d : D} : ∀ {ns : List Str} {vs : List V} {ds : List D}, IsAll K μ H vs ds → lookD f ns ds = some d → ∃ v, (ns.zip vs).lookup f = some v ∧ Is K μ H v d
  | [], _, _, _, e => by cases e
  | _ :: _, _, _, .nil, e => by cases e
  | n :: ns, _, _, .cons (v := v) a b, e => by
    unfold lookD at e
    rw [List.zip_cons_cons, List.lookup_cons]
    split at e
    · rename_i q
      cases e
      subst q
      exact ⟨v, by simp, a⟩
    · rename_i q
      have : (f == n) = false := by simp [q]
      rw [this]
      exact look_is b e
def wFld (C : Addr) (f : Str) (w : WE) : WE := fun ρ μ ev Φ => w ρ μ ev fun x μ1 => ∃ ns ds d, insOf μ1 x = some (C, ns, ds) ∧ lookD f ns ds = some d ∧ Φ d μ1
def wSetF (C : Addr) (f : Str) (wo wv : WE) : WS := fun DD ρ μ ev => wv ρ μ ev fun y μ1 => wo ρ μ1 ev fun x μ2 => ∃ a ns ds, x = .ref a ∧ μ2 a = some (.ins C ns ds) ∧ ns.length < 999 ∧ DD.nx ρ (μ2.set a (.ins C (putN f ns) (putX f y ns ds)))
section
variable {X : Cx} {T : List (Addr × Str)} {E : XK} {e o v : Expr} {f : Str} {C : Addr} {w wo wv : WE} {pos pos' tpos : Pos}
theorem ve_fld (c : Cls X.K C) (n : NoAttr X.K C f) (h : PE X e (up X.K T E w)) (hb : attributeBase e f X.env (eval e X.env) = eval e X.env := by rfl) : PE X (.Attribute e f pos) (up X.K T E (wFld C f w)) :=
  pe_mono (pe_fld h hb) fun σ H Q ⟨ρ, μ, ev, Φ, en, st, xo, h, k⟩ => ⟨ρ, μ, ev, _, en, st, xo, h, fun x μ1 u H1 ⟨ns, ds, d, hi, hl, q⟩ ix st1 s1 => by
    obtain ⟨a, dx, vs, rfl, ha, _, ia⟩ := is_ins st1 ix hi
    obtain ⟨z, h1, h2⟩ := look_is ia hl
    exact ⟨a, C, dx, _, z, rfl, ha, c, n, h1, (k.step s1).now q h2 st1⟩⟩
/-- what is stored where an instance changes -/
theorem ins_set {K : PySem.W.Frag} {μ : Mu} {H : Hp} {a : Addr} {ns : List Str} {ds : List D} {y : V} {d : D} (st : Sto K T μ H) (hm : μ a = some (.ins C ns ds)) (hn : ns.length < 999) (iy : Is K μ H y d) : ∃ dx vs, H a = some (.ins C dx (ns.zip vs)) ∧ (ns.zip vs).length < 1000 ∧
    Sto K T (μ.set a (.ins C (putN f ns) (putX f d ns ds))) (upd H a (.ins C dx (putF f y (ns.zip vs)))) ∧ Step μ H (μ.set a (.ins C (putN f ns) (putX f d ns ds))) (upd H a (.ins C dx (putF f y (ns.zip vs)))) := by
  obtain ⟨dx, vs, h1, hl, ia⟩ := st.mo _ _ hm
  have pz := put_zip f y hl
  have s := step_set (H := H) (m' := .ins C (putN f ns) (putX f d ns ds)) (o := .ins C dx ((putN f ns).zip (putX f y ns vs))) hm
  have st2 := st.set (m' := .ins C (putN f ns) (putX f d ns ds)) hm ⟨dx, _, upd_same, pz.2, (is_put iy ia).step s⟩
  refine ⟨dx, vs, h1, by rw [List.length_zip]; omega, ?_, ?_⟩
  · rw [← pz.1]; exact st2
  · rw [← pz.1]; exact s
theorem vs_fld (c : Cls X.K C) (n : NoAttr X.K C f) (ho : PE X o (up X.K T E wo)) (hv : PE X v (up X.K T E wv)) (hs : swapsWith v (some (.Attribute o f pos')) pos.line X.env = pure false := by rfl) : PS X (.Assign [.Attribute o f pos'] v pos) (upS X.K T E (wSetF C f wo wv)) :=
  ps_mono (ps_fld ho hv hs) fun Dn σ H ⟨ρ, μ, ev, DD, en, st, xo, h, k⟩ => ⟨ρ, μ, ev, _, en, st, xo, h, fun y μ1 u H1 hy iy st1 s1 => ⟨ρ, μ1, ev, _, en.step s1, st1, xo.step s1, hy, fun x μ2 vx H2 ⟨a, ns, ds, e, hm, hn, q⟩ ix st2 s2 => by
    subst e
    cases ix
    obtain ⟨dx, vs, h1, hl, st3, s3⟩ := ins_set (f := f) st2 hm hn (iy.step s2)
    exact ⟨a, C, dx, _, rfl, h1, c, n, hl, (k.step (s1.trans (s2.trans s3))).nx q (en.step (s1.trans (s2.trans s3))) st3⟩⟩⟩
/-- o.f op= e; n op= e, ints -/
def wAugF (C : Addr) (f : Str) (r : V2) (wo wv : WE) : WS := fun DD ρ μ ev => wo ρ μ ev fun x μ1 => ∃ a ns ds d, x = .ref a ∧ μ1 a = some (.ins C ns ds) ∧ lookD f ns ds = some d ∧ wv ρ μ1 ev fun y μ2 => r d y μ2 fun z μ3 => ∃ ns ds, μ3 a = some (.ins C ns ds) ∧ ns.length < 999 ∧ DD.nx ρ (μ3.set a (.ins C (putN f ns) (putX f z ns ds)))
theorem vs_augf {op : Operator} {r : R2} {rd : V2} (c : Cls X.K C) (n : NoAttr X.K C f) (hop : InOp X op r) (sim : Sim2 X.K T r rd) (ho : PE X o (up X.K T E wo)) (hv : PE X v (up X.K T E wv)) : PS X (.AugAssign (.Attribute o f tpos) op v pos) (upS X.K T E (wAugF C f rd wo wv)) :=
  ps_mono (ps_fldaug ho hv hop) fun Dn σ H ⟨ρ, μ, ev, DD, en, st, xo, h, k⟩ => ⟨ρ, μ, ev, _, en, st, xo, h, fun x μ1 u H1 ⟨a, ns, ds, d, e, hm, hl, q⟩ ix st1 s1 => by
    subst e
    cases ix
    obtain ⟨dx, vs, h1, hz, ia⟩ := st1.mo _ _ hm
    obtain ⟨z, h3, h4⟩ := look_is ia hl
    refine ⟨a, C, dx, _, z, rfl, h1, c, n, h3, ρ, μ1, ev, _, en.step s1, st1, xo.step s1, q, fun y μ2 vy H2 hy iy st2 s2 => sim d y z vy μ2 H2 _ _ (h4.step s2) iy st2 hy fun g μ3 vg H3 ⟨ns, ds, hm3, hn3, q3⟩ ig st3 s3 => ?_⟩
    obtain ⟨dx', vs', k1, kl, st4, s4⟩ := ins_set (f := f) st3 hm3 hn3 ig
    have ss := s1.trans (s2.trans (s3.trans s4))
    exact ⟨dx', _, k1, kl, (k.step ss).nx q3 (en.step ss) st4⟩⟩
def wAug (i : Nat) (r : V2) (w : WE) : WS := fun DD ρ μ ev => ∃ d, ρ[i]? = some (some d) ∧ w ρ μ ev fun y μ1 => r d y μ1 fun z μ2 => DD.nx (ρ.set i (some z)) μ2
theorem vs_aug {i : Nat} {x : Str} {op : Operator} {r : R2} {rd : V2} (hN : X.N.Nodup) (hi : X.N[i]? = some x) (hx : Loc X.env.scope x) (hop : InOp X op r) (sim : Sim2 X.K T r rd) (he : PE X e (up X.K T E w)) (hf : X.fn x = true ∨ X.env.scope.names.lookup x = some .local := by first | exact .inl rfl | exact .inr rfl | assumption) : PS X (.AugAssign (.Name x pos') op e pos) (upS X.K T E (wAug i rd w)) :=
  ps_mono (ps_aug (ti := r) hN hi hx he (fun pins s σ H a b u v Q I ra rb q => hop pins s σ H a b u v Q I ra rb q) hf) fun Dn σ H ⟨ρ, μ, ev, DD, en, st, xo, ⟨d, hd, h⟩, k⟩ => by
    obtain ⟨u, e1, e2⟩ := en.2 i d hd
    exact ⟨u, e1, ρ, μ, ev, _, en, st, xo, h, fun y μ1 vy H1 hy iy st1 s1 => sim d y u vy μ1 H1 _ _ (e2.step s1) iy st1 hy fun z μ2 vz H2 q iz st2 s2 => (k.step (s1.trans s2)).nx q ((en.step (s1.trans s2)).set i iz) st2⟩
theorem inop {X : Cx} {op : Operator} {r : R2} (h : OpR X (inplaceOp op) r) : InOp X op r := fun pins s σ H x y u v Q I rx ry q => h pins s σ H x y u v Q I rx ry q
/-! ### methods of built-in values -/
abbrev VM := D → List D → Mu → WK → Prop
def SimM (K : PySem.W.Frag) (T : List (Addr × Str)) (Ty : String) (r : V → List V → Hp → VK → Prop) (ok : D → Mu → Prop) (rd : VM) : Prop :=
  (∀ x v μ H, Is K μ H v x → Sto K T μ H → ok x μ → tyV K Ty v H) ∧ ∀ x xs v vs μ H Φ Q, Is K μ H v x → IsAll K μ H vs xs → Sto K T μ H → rd x xs μ Φ → KOk K T μ H Φ Q → r v vs H Q
def wBM (ok : D → Mu → Prop) (r : VM) (wo : WE) (w : WA) : WE := fun ρ μ ev Φ => wo ρ μ ev fun x μ1 => ok x μ1 ∧ w ρ μ1 ev fun xs μ2 => r x xs μ2 Φ
variable {es : List Expr} {wa : WA} {Ty id : String} {r : V → List V → Hp → VK → Prop} {ok : D → Mu → Prop} {rd : VM} {name : Str} {apos cpos : Pos}
theorem ve_bm (pa : PlainAttrs Ty) (slot : Slot Ty name id) (hty : typeOf (.builtin id) = pure (.type "method_descriptor")) (hm : MtR X id r) (sim : SimM X.K T Ty r ok rd) (ho : PE X o (up X.K T E wo)) (ha : PA X (e :: es) (upA X.K T E wa))
    (p : ∀ to : TE, ∀ t : TA, PE X o to → PA X (e :: es) t → PE X (.Call (.Attribute o name apos) (e :: es) [] cpos) (tBM X.K Ty r to t) := by intro to t h1 h2; exact pe_bm ‹_› ‹_› ‹_› ‹_› h1 h2) : PE X (.Call (.Attribute o name apos) (e :: es) [] cpos) (up X.K T E (wBM ok rd wo wa)) :=
  pe_mono (p _ _ ho ha) fun σ H Q ⟨ρ, μ, ev, Φ, en, st, xo, h, k⟩ => ⟨ρ, μ, ev, _, en, st, xo, h, fun x μ1 v H1 ⟨o1, q⟩ ix st1 s1 => ⟨sim.1 x v μ1 H1 ix st1 o1, ρ, μ1, ev, _, en.step s1, st1, xo.step s1, q, fun xs μ2 vs H2 q2 ia st2 s2 => sim.2 x xs v vs μ2 H2 Φ Q (ix.step s2) ia st2 q2 (k.step (s1.trans s2))⟩⟩
theorem ve_bm0 (hm : MtR X id r) (sim : SimM X.K T Ty r ok rd) (p : ∀ to : TE, PE X o to → PE X (.Call (.Attribute o name apos) [] [] cpos) (tBM0 X.K Ty r to)) (ho : PE X o (up X.K T E wo)) : PE X (.Call (.Attribute o name apos) [] [] cpos) (up X.K T E (wBM ok rd wo wNil)) :=
  pe_mono (p _ ho) fun σ H Q ⟨ρ, μ, ev, Φ, en, st, xo, h, k⟩ => ⟨ρ, μ, ev, _, en, st, xo, h, fun x μ1 v H1 ⟨o1, q⟩ ix st1 s1 => ⟨sim.1 x v μ1 H1 ix st1 o1, sim.2 x [] v [] μ1 H1 Φ Q ix .nil st1 q (k.step s1)⟩⟩
/-- a list that may change -/
def okM (x : D) (μ : Mu) : Prop := ∃ a ds, x = .ref a ∧ μ a = some (.lst ds)
theorem okM_ty {K : PySem.W.Frag} {x : D} {v : V} {μ : Mu} {H : Hp} (ix : Is K μ H v x) (st : Sto K T μ H) (h : okM x μ) : tyV K "list" v H := by
  obtain ⟨a, ds, rfl, hm⟩ := h
  cases ix
  obtain ⟨vs, h1, _⟩ := st.mo _ _ hm
  exact .inl ⟨rfl, vs, SqL.of h1⟩
def vAppend : VM := fun x xs μ Φ => ∃ a ds d, x = .ref a ∧ xs = [d] ∧ μ a = some (.lst ds) ∧ ds.length < sizeLine ∧ Φ .non (μ.set a (.lst (ds ++ [d])))
theorem s_append {K : PySem.W.Frag} : SimM K T "list" rAppend okM vAppend := ⟨fun x v μ H ix st h => okM_ty ix st h, fun x xs v vs μ H Φ Q ix ia st ⟨a, ds, d, e1, e2, hm, hl, q⟩ k => by
  subst e1 e2
  cases ix
  cases ia with
  | cons iy c =>
    cases c
    obtain ⟨us, h1, i1⟩ := st.mo _ _ hm
    exact ⟨a, us, _, rfl, rfl, h1, by rw [i1.len]; exact hl, k.setL hm q (i1.app (.cons iy .nil)) .non st⟩⟩
def vExtend : VM := fun x xs μ Φ => ∃ a ds y es, x = .ref a ∧ xs = [y] ∧ μ a = some (.lst ds) ∧ lstOf μ y = some es ∧ ds.length + es.length ≤ sizeLine ∧ Φ .non (μ.set a (.lst (ds ++ es)))
theorem s_extend {K : PySem.W.Frag} : SimM K T "list" rExtend okM vExtend := ⟨fun x v μ H ix st h => okM_ty ix st h, fun x xs v vs μ H Φ Q ix ia st ⟨a, ds, y, es, e1, e2, hm, he, hl, q⟩ k => by
  subst e1 e2
  cases ix
  cases ia with
  | cons iy c =>
    cases c
    obtain ⟨us, h1, i1⟩ := st.mo _ _ hm
    obtain ⟨b, ws, rfl, h2, i2⟩ := is_lst st iy he
    exact ⟨a, b, us, ws, rfl, rfl, h1, h2, by rw [i1.len, i2.len]; exact hl, k.setL hm q (i1.app i2) .non st⟩⟩
def vPop : VM := fun x xs μ Φ => ∃ a ds d, x = .ref a ∧ xs = [] ∧ μ a = some (.lst ds) ∧ ds[ds.length - 1]? = some d ∧ Φ d (μ.set a (.lst ds.dropLast))
theorem s_pop {K : PySem.W.Frag} : SimM K T "list" rPop okM vPop := ⟨fun x v μ H ix st h => okM_ty ix st h, fun x xs v vs μ H Φ Q ix ia st ⟨a, ds, d, e1, e2, hm, hd, q⟩ k => by
  subst e1 e2
  cases ix; cases ia
  obtain ⟨us, h1, i1⟩ := st.mo _ _ hm
  obtain ⟨u, h2, h3⟩ := i1.get hd
  exact ⟨a, us, u, rfl, rfl, h1, by rw [i1.len]; exact h2, k.setL hm q i1.dropLast h3 st⟩⟩
def vPopAt : VM := fun x xs μ Φ => ∃ a ds i j d, x = .ref a ∧ xs = [.int i] ∧ μ a = some (.lst ds) ∧ -(2 ^ 63) ≤ i ∧ i < 2 ^ 63 ∧ seqIndex? i ds.length = some j ∧ ds[j]? = some d ∧ Φ d (μ.set a (.lst (ds.eraseIdx j)))
theorem s_popAt {K : PySem.W.Frag} : SimM K T "list" rPopAt okM vPopAt := ⟨fun x v μ H ix st h => okM_ty ix st h, fun x xs v vs μ H Φ Q ix ia st ⟨a, ds, i, j, d, e1, e2, hm, n1, n2, hj, hd, q⟩ k => by
  subst e1 e2
  cases ix
  cases ia with
  | cons iy c =>
    cases iy; cases c
    obtain ⟨us, h1, i1⟩ := st.mo _ _ hm
    obtain ⟨u, h2, h3⟩ := i1.get hd
    exact ⟨a, us, i, j, u, rfl, rfl, h1, n1, n2, by rw [i1.len]; exact hj, h2, k.setL hm q (i1.erase j) h3 st⟩⟩
def vClear : VM := fun x xs μ Φ => ∃ a ds, x = .ref a ∧ xs = [] ∧ μ a = some (.lst ds) ∧ Φ .non (μ.set a (.lst []))
theorem s_clear {K : PySem.W.Frag} : SimM K T "list" rClear okM vClear := ⟨fun x v μ H ix st h => okM_ty ix st h, fun x xs v vs μ H Φ Q ix ia st ⟨a, ds, e1, e2, hm, q⟩ k => by
  subst e1 e2
  cases ix; cases ia
  obtain ⟨us, h1, i1⟩ := st.mo _ _ hm
  exact ⟨a, us, rfl, rfl, h1, k.setL hm q .nil .non st⟩⟩
/-! ### raise, an own exception of one field -/
def wRaise (C : Addr) (f : Str) (w : WA) : WS := fun _ ρ μ ev => w ρ μ ev fun ds μ1 => ∃ d, ds = [d] ∧ ev C [f] [d] μ1
theorem vs_raise {cn : Str} {p pos2 : Pos} (Te : Exn X.prog X.w X.K X.mg X.base cn f C) (hc : X.calm = true) (hr : Room 2 X.A) (tk : Takes X fun cls d _ H => E cls d H) (ha : PA X [e] (upA X.K T E wa)) (hg : Gl X cn) (hdb : (cn == ("__debug__" : Str)) = false := by decide)
    (he : starEach (e :: []) X.env = (false, eval e X.env) :: starEach [] X.env := by rfl) (hpl : (backTo pos (starEach [] X.env)).any (·.1) = false := by rfl) : PS X (.Raise (some (.Call (.Name cn p) [e] [] pos)) none pos2) (upS X.K T E (wRaise C f wa)) :=
  ps_mono (ps_raise1 Te hc hr tk ha hg hdb he hpl) fun Dn σ H ⟨ρ, μ, ev, DD, en, st, xo, h, k⟩ => ⟨ρ, μ, ev, _, en, st, xo, h, fun ds μ1 vs H1 ⟨d, e, q⟩ ia st1 s1 => by
    subst e
    cases ia with
    | @cons v _ _ _ iv c =>
      cases c
      refine w_mk1 Te.oex Te.no fun dd nd => ?_
      have s2 := step_new (o := .xd [(f, v)]) nd (st1.free nd)
      exact xo C [f] [d] [v] dd μ1 _ q (by rw [upd_same]; rfl) (st1.free nd) rfl (.cons (iv.step s2) .nil) (st1.new nd) (s1.trans s2)⟩
/-! ### properties -/
def wProp (sel : EV → EV) (C : Addr) (sp : VSp) (w : WE) : WE := fun ρ μ ev Φ => w ρ μ ev fun x μ1 => ∃ ns fs, insOf μ1 x = some (C, ns, fs) ∧ sp [x] μ1 (sel ev) Φ
end
section
variable {X : Cx} {C p g : Addr} {k : Nat} {fd : FuncData} {ps : List Str} {sp : Sp} {E : XK} {CX : CXT} {f : Str}
theorem getprop_g {pins : List (Addr × Obj)} {σ : L2.St} {H : Hp} {s : Shared} {Q : VK} {b : Bool} {a dx : Addr} {fs : List (Str × V)} {E2 : Value → Shared → Prop} (I : Inv X pins σ H s) (ea : H a = some (.ins C dx fs)) (c : Cls X.K C) (hp : PropOf X.K C f p g) (F : FnG X.prog X.w X.K X.mg X.base CX k g fd ps sp) (hG : X.A.guards = some [])
    (hr : Room (k + 1) X.A) (hb : Binds X.K fd ps []) (hx : Passes CX X.nox E) (h : sp [.ref a] H Q E) : wpAny (model X.prog X.w) X.A (getAttr (.ref a) f b) (EP X pins σ Q) E2 s := by
  obtain ⟨mA, O, _, _, _, _⟩ := ins_get I.hok ea
  obtain ⟨od, J, _⟩ := O.look
  obtain ⟨rest, hrec⟩ := hp.rec_
  have J1 := I.tok (s.toks + 1)
  have hl : [Value.ref a].length = ps.length := F.size _ _ _ _ h
  have bind := hb { s with toks := s.toks + 1 } [.ref a] J1.kIn (by rw [List.append_nil]; exact hl)
  have isC : (PySem.W.clsIn X.K C).isSome = true := by
    obtain ⟨cd, q, _⟩ := PySem.W.any_some c.hd
    rw [q]; rfl
  have pg := PySem.W.plainGet_of (c.get f)
  refine PySem.W.get_bind I.kIn J pg.1 (PySem.W.findObj_data isC hp.at_ hp.get hp.tak) pg.2 (wpAny_call (PySem.W.prop_get (s := { s with toks := s.toks + 1 }) I.kIn hrec ?_))
  have go := F.goes X.A.in1 X.stack { s with toks := s.toks + 1 } H ⟨[.ref a], []⟩ [.ref a] [.ref a] Q E hG hr.in1 J1.env0.in1 (by rw [List.append_nil] at bind; exact bind) (.cons rfl .nil) h
  refine codeAny_mono go fun r s2 hz => ?_
  match r, hz with
  | .error e, hz => exact (hx pins σ H _ e s2 (J1.wish _) hz).elim
  | .ok (.ret u), hz =>
    obtain ⟨v, H2, J2, rv, q⟩ := J1.after hz
    show wpAny _ _ (handedOut u) _ _ _
    rw [PySem.W.handedOut_of (handed_of rv)]
    exact wpAny_pure ⟨v, H2, J2, rv, q⟩
  | .ok .next, hz => exact (show False from hz).elim
  | .ok .brk, hz => exact (show False from hz).elim
  | .ok .cont, hz => exact (show False from hz).elim
end
section
variable {X : Cx} {T : List (Addr × Str)} {C p g : Addr} {k j : Nat} {sp : VSp} {E E' : XK} {CX : CXT} {f : Str} {e : Expr} {w : WE} {pos : Pos} {sel : EV → EV}
/-- a getter -/
structure GetV (P : Program) (w : World) (K : PySem.W.Frag) (mg : Str → Option Value) (base : Heap) (CX : CXT) (T : List (Addr × Str)) (k : Nat) (g : Addr) (sp : VSp) : Prop where
  ex : ∃ (fd : FuncData) (ps : List Str), FnG P w K mg base CX k g fd ps (lift K T sp) ∧ Binds K fd ps []
theorem ve_prop (cl : Cls X.K C) (hp : PropOf X.K C f p g) (G : GetV X.prog X.w X.K X.mg X.base CX T k g sp) (hG : X.A.guards = some []) (hr : Room j X.A) (hk : k + 1 ≤ j) (hx : Passes CX X.nox E') (hs : Sel E E' sel) (he : PE X e (up X.K T E w)) (hab : attributeBase e f X.env (eval e X.env) = eval e X.env := by rfl) : PE X (.Attribute e f pos) (up X.K T E (wProp sel C sp w)) := by
  obtain ⟨fd, ps, F, b⟩ := G.ex
  refine ⟨fun pins s σ H Q I ⟨ρ, μ, ev, Φ, en, st, xo, h, k⟩ => attr_of hab (thn (he.run pins s σ H _ I (show up X.K T E w σ H (fun x H1 => ∃ a dx fs, x = .ref a ∧ H1 a = some (.ins C dx fs) ∧ lift X.K T sp [.ref a] H1 Q E') from
    ⟨ρ, μ, ev, _, en, st, xo, h, fun x μ1 v H1 ⟨ns, fs, hi, q⟩ ix st1 s1 => by
      obtain ⟨a, dx, us, rfl, ha, hl, iu⟩ := is_ins st1 ix hi
      exact ⟨a, dx, _, rfl, ha, [x], μ1, _, Φ, .cons ix .nil, st1, hs _ _ _ _ _ (xo.step s1), q, k.step s1⟩⟩)) fun u s1 y => ?_)⟩
  obtain ⟨x, H1, I1, rx, a, dx, fs, ex, ea, q⟩ := y
  subst ex
  obtain rfl : u = Value.ref a := rx
  exact getprop_g I1 ea cl hp F hG (hr.mono hk) b hx q
end
end VL

set_option maxRecDepth 100000
set_option maxHeartbeats 4000000
/-! values as trees: more forms -/
namespace VL
open PySem L2 FW PyProof.Rows
section
variable {X : Cx} {T : List (Addr × Str)} {E : XK} {tg iter : Expr}
theorem vv (i : Nat) {x : Str} {pos : Pos} (hN : X.N[i]? = some x := by rfl) (hv : Vis X.env.scope x := by first | exact Or.inl rfl | exact Or.inr (Or.inl rfl) | exact Or.inr (Or.inr rfl)) (hd : (x == ("__debug__" : Str)) = false := by decide) (hcd : (x == ("__classdict__" : Str)) = false := by decide) : PE X (.Name x pos) (up X.K T E (wVar i)) := ve_var hN hv hd hcd
/-- «y = [..]», frozen at once -/
theorem vs_setLcZ {i : Nat} {y : Str} {py : Pos} {elt : Expr} {ifs : List Expr} {scope : Scope} {own : List (Str × Nat)} {spos pos : Pos} {wi : WI} {p : Pat} {t : WT} {w : WE} (hc : X.calm = true) (hN : X.N.Nodup) (hy : X.N[i]? = some y) (hyl : X.env.scope.names.lookup y = some .local)
    (hsw : swapsWith (.ListComp elt [⟨tg, iter, ifs, 0⟩] scope pos) (some (.Name y py)) spos.line X.env = pure true) (hi : PI X tg iter (upI X.K T E wi)) (ok : BlkOk X.N X.env.scope scope own)
    (hg : ∀ (s : Shared) (H : Hp) (C : Addr) (cl : List (Str × Addr)) (fp : List Addr), PG (X.blk s H scope (compEnvC scope cl C X.env) fp) tg (p.tg X.K)) (ht : ∀ (s : Shared) (H : Hp) (C : Addr) (cl : List (Str × Addr)) (fp : List Addr), PTs (X.blk s H scope (compEnvC scope cl C X.env) fp) ifs (upT X.K T E0 t))
    (he : ∀ (s : Shared) (H : Hp) (C : Addr) (cl : List (Str × Addr)) (fp : List Addr), PE (X.blk s H scope (compEnvC scope cl C X.env) fp) elt (up X.K T E0 w)) (hv : ∀ i ∈ p.slots, i ∈ own.map (·.2)) (hs : ∀ x, foldedSetIterable iter X.env x = pure x := by intro _; rfl) :
    PS X (.Assign [.Name y py] (.ListComp elt [⟨tg, iter, ifs, 0⟩] scope pos) spos) (upS X.K T E (wAsg (wZ fun ρ μ _ Φ => wLc wi p t w (own.map (·.2)) ρ μ ev0 Φ) (wName i))) :=
  ps_mono (ps_setLc (own := own) hc hN hy hyl hsw hi ok hg ht he hs) fun Dn σ H ⟨ρ, μ, ev, DD, en, st, xo, h, k⟩ => by
    have kk : KOk X.K T μ H (fun d μ1 => ∃ a t, d = .ref a ∧ frzOf μ1 a = some t ∧ wName i t ρ (μ1.del a) ev DD.nx) (fun x H1 => gName i x σ H1 Dn.nx) := fun d μ1 v H1 ⟨a, t, e1, e2, q⟩ iv st1 s1 => by
      subst e1
      cases iv
      have s2 := s1.trans (step_del (a := a))
      exact (k.step s2).nx q ((en.step s2).set i (is_frz st1 e2)) st1.del
    exact ⟨ρ, μ, ev0, _, en, st, xok0, h, fun ds P μ1 J H1 q st1 s1 it Ds nD => lcD_up (en.step s1) st1 xok0 (kk.step s1) it hv q Ds nD⟩
theorem tPar3_up {i j l : Nat} {s : Stmt} {w : WA} {tp : Nat → Nat → Nat → TA → TS} (ht : ∀ (Dn : Ends) (σ : L2.St) (H : Hp) (ta : TA), (ta σ H fun vs H1 => ∃ a b c, vs = [a, b, c] ∧ Dn.nx (((σ.set i (some a)).set j (some b)).set l (some c)) H1) → tp i j l ta Dn σ H) (h : PS X s (tp i j l (upA X.K T E w))) :
    PS X s (upS X.K T E fun DD ρ μ ev => w ρ μ ev fun ds μ1 => ∃ a b c, ds = [a, b, c] ∧ DD.nx (((ρ.set i (some a)).set j (some b)).set l (some c)) μ1) :=
  ps_mono h fun Dn σ H ⟨ρ, μ, ev, DD, en, st, xo, h, k⟩ => ht Dn σ H _ ⟨ρ, μ, ev, _, en, st, xo, h, fun ds μ1 vs H1 ⟨a, b, c, q, hd⟩ iv st1 s1 => by
    subst q
    cases iv with
    | cons ia r => cases r with
      | cons ib r => cases r with
        | cons ic r => cases r; exact ⟨_, _, _, rfl, (k.step s1).nx hd ((((en.step s1).set i ia).set j ib).set l ic) st1⟩⟩
end
section
variable {K : PySem.W.Frag} {T : List (Addr × Str)}
/-! ### + and * by what stands there -/
def rAddA : R2 := fun x y H Q => rI0 (fun i j => .int (i + j)) x y H Q ∨ rCat x y H Q ∨ ∃ i j, x = .str i ∧ y = .str j ∧ i.length + j.length ≤ sizeLine ∧ Q (.str (i ++ j)) H
theorem op_addA {X : Cx} : OpR X (binaryOp .Add) rAddA := by
  intro pins s σ H x y v u Q I rx ry h
  rcases h with h | h | h
  · exact op_add pins s σ H x y v u Q I rx ry h
  · exact op_cat pins s σ H x y v u Q I rx ry h
  · exact op_add_str pins s σ H x y v u Q I rx ry h
def vAddA : V2 := fun x y μ Φ => match x, y with
  | .int i, .int j => Φ (.int (i + j)) μ
  | .str a, .str b => a.length + b.length ≤ sizeLine ∧ Φ (.str (a ++ b)) μ
  | x, y => vCat x y μ Φ
theorem s_addA : Sim2 K T rAddA vAddA := fun x y v w μ H Φ Q ix iy st h k => by
  unfold vAddA at h
  split at h
  · cases ix; cases iy; exact .inl ⟨_, _, rfl, rfl, k.now h (.int _) st⟩
  · cases ix; cases iy; exact .inr (.inr ⟨_, _, rfl, rfl, h.1, k.now h.2 (.str _) st⟩)
  · exact .inr (.inl (s_cat _ _ _ _ μ H Φ Q ix iy st h k))
def rMulA : R2 := fun x y H Q => rI CMul (fun i j => .int (i * j)) x y H Q ∨ rRep x y H Q
theorem op_mulA {X : Cx} : OpR X (binaryOp .Mult) rMulA := by
  intro pins s σ H x y v u Q I rx ry h
  rcases h with h | h
  · exact op_mul pins s σ H x y v u Q I rx ry h
  · exact op_rep pins s σ H x y v u Q I rx ry h
def vMulA : V2 := fun x y μ Φ => match x, y with
  | .int i, .int j => CMul i j ∧ Φ (.int (i * j)) μ
  | x, y => vRep x y μ Φ
theorem s_mulA : Sim2 K T rMulA vMulA := fun x y v w μ H Φ Q ix iy st h k => by
  unfold vMulA at h
  split at h
  · cases ix; cases iy; exact .inl ⟨_, _, rfl, rfl, h.1, k.now h.2 (.int _) st⟩
  · exact .inr (s_rep _ _ _ _ μ H Φ Q ix iy st h k)
theorem s_lt : Sim2 K T (rI0 fun i j => .bl (decide (i < j))) vLt := sim_I0 fun _ _ _ _ => .bl _
theorem s_le : Sim2 K T (rI0 fun i j => .bl (decide (i ≤ j))) vLe := sim_I0 fun _ _ _ _ => .bl _
theorem s_gt : Sim2 K T (rI0 fun i j => .bl (decide (j < i))) vGt := sim_I0 fun _ _ _ _ => .bl _
theorem s_ge : Sim2 K T (rI0 fun i j => .bl (decide (j ≤ i))) vGe := sim_I0 fun _ _ _ _ => .bl _
/-! ### isinstance of a row of built-in classes -/
def kitAnyB (t : String) : List String → Option Bool
  | [] => some false
  | n :: ns => match kitB t n with
    | some true => some true
    | some false => kitAnyB t ns
    | none => none
theorem kitAnyB_ok {t : String} : ∀ {ns : List String} {b : Bool}, kitAnyB t ns = some b → PySem.W.kitAny K (.type t) (ns.map Value.type) = some b
  | [], b, h => h
  | n :: ns, b, h => by
    unfold kitAnyB at h
    cases q : kitB t n with
    | none => rw [q] at h; cases h
    | some c =>
      rw [q] at h
      cases c with
      | true => cases h; exact kitAny_cons (kit_ty q) (fun z => nomatch z) (fun _ => rfl)
      | false => exact kitAny_cons (kit_ty q) (fun _ => kitAnyB_ok h) (fun z => nomatch z)
def vIsiT : VL_ := fun xs μ Φ => ∃ x ns t b, xs = [x, .tup (ns.map D.ty)] ∧ tyD μ x = some t ∧ kitAnyB t ns = some b ∧ Φ (.bl b) μ
theorem vs_tys {μ : Mu} {H : Hp} : ∀ {ns : List String} {vs : List V}, IsAll K μ H vs (ns.map D.ty) → Paired ClsV vs (ns.map Value.type)
  | [], _, .nil => .nil
  | n :: ns, _, .cons (.ty _) b => .cons (.ty n) (vs_tys b)
def rIsiA (K : PySem.W.Frag) : List V → Hp → VK → Prop := fun xs H Q => rIsiT K xs H Q ∨ rIsiK K xs H Q
theorem call_isiA {X : Cx} : CallR X (.builtin "isinstance") (rIsiA X.K) := by
  intro pins s σ H xs us Q I r h
  rcases h with h | h
  · exact call_isiT pins s σ H xs us Q I r h
  · exact call_isiK pins s σ H xs us Q I r h
theorem paired_val : ∀ {us : List V} {ns : List String} {its : List Value}, Paired ClsV us (ns.map Value.type) → Vals us its → its = ns.map Value.type
  | [], [], _, .nil, .nil => rfl
  | _ :: _, n :: ns, _, .cons a b, .cons r rs => by rw [a.eq r, paired_val b rs]; rfl
theorem s_isiT : SimL K T (rIsiA K) vIsiT := fun xs vs μ H Φ Q ia st ⟨x, ns, t, b, e, ht, kb, q⟩ k => by
  subst e
  cases ia with
  | cons ix c => cases c with
    | cons iy c =>
      cases c
      cases iy with
      | tup at_ i =>
        rename_i v a us
        have done := k.now q (.bl b) st
        rcases at_ with ⟨_, hT⟩ | hK
        · exact .inl ⟨_, a, us, _, _, b, rfl, hT, vs_tys i, tyX_is st ix ht, kitAnyB_ok kb, done⟩
        · rcases hK with (h | ⟨o, h⟩) | ⟨o, its, n, h1, h2, h3, _, h5⟩
          · cases h
          · cases h
          · obtain ⟨oc, odd, dt, sl⟩ := o
            simp only at h2 h3
            subst h2 h3
            have e := paired_val (vs_tys i) h5
            exact .inr ⟨_, a, odd, _, n, sl, _, b, rfl, by rw [h1, ← e], tyX_is st ix ht, kitAnyB_ok kb, done⟩
end
end VL

set_option maxRecDepth 100000
set_option maxHeartbeats 4000000
/-! values as trees: own classes' ==, !=, iteration -/
namespace VL
open PySem L2 FW PyProof.Rows
section
variable {X : Cx} {CX : CXT} {k n : Nat} {f C : Addr} {fd : FuncData} {ps ks : List Str} {sp : Sp} {E : XK} {g : List Value → List Value → List Value} {gV : List V → List V → List V} {pins : List (Addr × Obj)} {σ : L2.St} {H : Hp} {s : Shared} {Q : VK} {us ws : List Value} {vs zs : List V}
/-- a def called from within a built-in -/
theorem run_gA {A : Around} (sb : Sub X k A) (F : FnG X.prog X.w X.K X.mg X.base CX k f fd ps sp) (hG : A.guards = some []) (hb : KBn X.K fd ps n [] g gV) (hx : Passes CX X E) (I : Inv X pins σ H s) (r : Vals vs us) (l1 : vs.length = n) (h : sp (gV vs []) H Q E) :
    wpAny (model X.prog X.w) A (call (.ref f) us []) (CE X.stack X.prog X.w H s Q) X.xe s := by
  have e0 : Env0 X.prog X.w X.K X.mg X.base A X.stack s H := by
    have e := I.env0
    exact ⟨by rw [sb.fr]; exact e.frames, e.mod, e.bs, e.bsz, e.funs, e.frf, e.hok, e.bare⟩
  have go := F.goes A X.stack s H ⟨us, []⟩ (g us []) (gV vs []) Q E hG sb.room e0 (hb.to s us [] I.kIn (by rw [← r.length]; exact l1) rfl) (hb.rel r .nil) h
  refine wpAny_call (codeAny_mono go fun z s2 hz => ?_)
  match z, hz with
  | .error e, hz => exact hx pins σ H s e s2 I hz
  | .ok (.ret u), hz => exact hz
  | .ok .next, hz => exact (show False from hz).elim
  | .ok .brk, hz => exact (show False from hz).elim
  | .ok .cont, hz => exact (show False from hz).elim
/-- a method that one of Python's own operators calls: with n values besides self -/
structure SpecV (P : Program) (w : World) (K : PySem.W.Frag) (mg : Str → Option Value) (base : Heap) (T : List (Addr × Str)) (k : Nat) (C : Addr) (m : Str) (n : Nat) (sp : VSp) : Prop where
  ex : ∃ f as, PySem.W.findIn K (.ref C) m = some (some (.ref f)) ∧ PySem.W.isFn K (.ref f) = true ∧ CanV P w K mg base CX0 T k f (n + 1) [] as sp ∧ ∀ ds : List D, ds.length = n + 1 → argsD as ds [] = ds
/-- x == y, x of an own class with __eq__, y of the same class -/
def rEqO (X : Cx) (T : List (Addr × Str)) (C : Addr) (sp : VSp) : R2 := fun x y H Q => ∃ (a b dx dy : Addr) (fs gs : List (Str × V)) (dd : D × D), x = .ref a ∧ y = .ref b ∧ H a = some (.ins C dx fs) ∧ H b = some (.ins C dy gs) ∧
  ∃ μ, Is X.K μ H x dd.1 ∧ Is X.K μ H y dd.2 ∧ Sto X.K T μ H ∧ ∃ Φ, sp [dd.1, dd.2] μ ev0 Φ ∧ ∀ d μ' v H', Φ d μ' → Is X.K μ' H' v d → Sto X.K T μ' H' → Step μ H μ' H' → ∃ c, v = .bl c ∧ Q (.bl c) H'
/-- x != y: not x == y -/
def rNeO (X : Cx) (T : List (Addr × Str)) (C : Addr) (sp : VSp) : R2 := fun x y H Q => rEqO X T C sp x y H fun v H' => ∃ c, v = .bl c ∧ Q (.bl (!c)) H'
theorem eqO_run {T : List (Addr × Str)} {sp : VSp} {A : Around} {x y : V} {v u : Value} (S : SpecV X.prog X.w X.K X.mg X.base T k C "__eq__" 1 sp) (sb : Sub X k A) (hG : A.guards = some []) (I : Inv X pins σ H s) (rx : RelV x v) (ry : RelV y u) (h : rEqO X T C sp x y H Q) :
    ∃ f a b, v = .ref a ∧ u = .ref b ∧ PySem.W.findIn X.K (.ref C) "__eq__" = some (some (.ref f)) ∧ PySem.W.isFn X.K (.ref f) = true ∧ (∃ dx fs, H a = some (.ins C dx fs)) ∧ (∃ dx fs, H b = some (.ins C dx fs)) ∧
      wpAny (model X.prog X.w) A (call (.ref f) [v, u] []) (fun r s' => ∃ c H', r = .bool c ∧ Inv X pins σ H' s' ∧ Q (.bl c) H') X.xe s := by
  obtain ⟨a, b, dx, dy, fs, gs, ⟨d1, d2⟩, e1, e2, ha, hb, μ, i1, i2, st, Φ, hsp, hk⟩ := h
  obtain ⟨f, as, hs, hf, ⟨⟨fd, ps, g, F, kp, hB⟩, ok⟩, idA⟩ := S.ex
  subst e1 e2
  cases rx
  cases ry
  refine ⟨f, a, b, rfl, rfl, hs, hf, ⟨_, _, ha⟩, ⟨_, _, hb⟩, ?_⟩
  have hsp' : lift X.K T sp (argsV as [.ref a, .ref b] []) H (fun v H' => ∃ c, v = .bl c ∧ Q (.bl c) H') E0 :=
    ⟨_, μ, _, Φ, is_argsD (.cons i1 (.cons i2 .nil)) .nil as (by simpa using ok), st, xok0, by rw [idA [d1, d2] rfl]; exact hsp, fun d μ' v H' q iv st' s' => hk d μ' v H' q iv st' s'⟩
  refine wpAny_mono (run_gA (vs := [.ref a, .ref b]) sb F hG hB (fun _ _ _ _ _ _ _ z => z.elim) I (.cons rfl (.cons rfl .nil)) rfl hsp') (fun r s' q => ?_) fun _ _ x => x
  obtain ⟨v, H', I', rv, c, ev, q2⟩ := I.after q
  subst ev
  cases rv
  exact ⟨c, H', rfl, I', q2⟩
theorem op_eqO {T : List (Addr × Str)} {sp : VSp} (S : SpecV X.prog X.w X.K X.mg X.base T k C "__eq__" 1 sp) (hG : X.A.guards = some []) (hr : Room k X.A) : OpR X (compareOp .Eq) (rEqO X T C sp) := by
  intro pins s σ H x y v u Q I rx ry h
  obtain ⟨f, a, b, rfl, rfl, hs, hf, ⟨dx, fs, ha⟩, ⟨dy, gs, hb⟩, run⟩ := eqO_run S ⟨hr, rfl⟩ hG I rx ry h
  obtain ⟨mA, J, _⟩ := ins_get I.hok ha
  obtain ⟨mB, J', _⟩ := ins_get I.hok hb
  obtain ⟨od, J, _⟩ := J.look
  obtain ⟨od', J', _⟩ := J'.look
  obtain ⟨m, hF⟩ := I.fr
  refine PySem.W.cmp_K (op := .Eq) (tb := .ref C) hr.units0 hF I.ok.mod.kin J J'.type (by simp [PySem.W.notFirst]) hs hf ?_
  refine wpAny_mono run (fun r s' q => ?_) fun _ _ x => x
  obtain ⟨c, H', rfl, I', q⟩ := q
  exact ⟨.bl c, H', I', rfl, q⟩
theorem op_neO {T : List (Addr × Str)} {sp : VSp} (S : SpecV X.prog X.w X.K X.mg X.base T k C "__eq__" 1 sp) (hn : PySem.W.findIn X.K (.ref C) "__ne__" = some (some (.builtin "object.__ne__"))) (ob : PySem.W.mroIn X.K C (Value.type "object") = some true)
    (hG : X.A.guards = some []) (hr : Room (k + 1) X.A) : OpR X (compareOp .NotEq) (rNeO X T C sp) := by
  intro pins s σ H x y v u Q I rx ry h
  obtain ⟨f, a, b, rfl, rfl, hs, hf, ⟨dx, fs, ha⟩, ⟨dy, gs, hb⟩, run⟩ := eqO_run (A := X.A.in1) S ⟨hr.in1, rfl⟩ hG I rx ry h
  obtain ⟨mA, J, _⟩ := ins_get I.hok ha
  obtain ⟨mB, J', _⟩ := ins_get I.hok hb
  obtain ⟨od, J, _⟩ := J.look
  obtain ⟨od', J', _⟩ := J'.look
  obtain ⟨m, hF⟩ := I.fr
  have inst : PySem.W.Looks (model X.prog X.w) s.heap (isInstance (.ref a) (.type "object")) true := J.type.andThen (PySem.W.looks_mroIn I.kIn ob)
  have body : wpAny (model X.prog X.w) X.A.in1 (Builtin.«object.__ne__» ⟨[.ref a, .ref b], []⟩) (fun fin s' => ∃ c H', fin = .done (.ret (.bool (!c))) ∧ Inv X pins σ H' s' ∧ Q (.bl (!c)) H') X.xe s := by
    unfold Builtin.«object.__ne__»
    show wpAny _ _ (cRoomFor "comparison" [.ref a, .ref b] >>= fun _ => callSpecialIfBound? (.ref a) "__eq__" [.ref b] >>= _) _ _ _
    refine wpAny_bind (wpAny_cRoomFor (hr.in1).units0 ?_)
    refine wpAny_bind (PySem.W.ifBound_K I.kIn J hs hf (wpAny_mono run (fun r s' q => ?_) fun _ _ x => x))
    obtain ⟨c, H', rfl, I', c', ec, q⟩ := q
    cases ec
    refine wpAny_bind (wpAny_truthy_bool ?_)
    exact wpAny_pure ⟨c, H', rfl, I', q⟩
  have one : wpAny (model X.prog X.w) X.A (tryCompare (.ref a) "__ne__" (.ref b)) (fun r s' => ∃ v, r = some v ∧ EP X pins σ Q v s') X.xe s := by
    unfold tryCompare
    have fin : wpAny (model X.prog X.w) X.A (call (.builtin "object.__ne__") [.ref a, .ref b]) (fun r s' => ∃ c H', r = .bool (!c) ∧ Inv X pins σ H' s' ∧ Q (.bl (!c)) H') X.xe s := by
      refine wpAny_call (codeAny_call_builtin F.cmp_object.ne.plain F.cmpEntry_ne (@PySem.W.check_slot (model X.prog X.w) _ _ s "object.__ne__" "object" "__ne__" (.ref a) [.ref b] [] _ F.cmpKind_ne F.cmpSplit_ne inst (F.cmpArgs_ne _ _) ?_))
      refine wpAny_mono body (fun fin s' q => ?_) fun _ _ x => x
      obtain ⟨c, H', rfl, I', q⟩ := q
      exact ⟨c, H', rfl, I', q⟩
    have fin2 : wpAny (model X.prog X.w) X.A (call (.builtin "object.__ne__") ([.ref a] ++ [.ref b]) >>= fun v => pure (some v)) (fun r s' => ∃ c H', r = some (.bool (!c)) ∧ Inv X pins σ H' s' ∧ Q (.bl (!c)) H') X.xe s :=
      wpAny_bind (wpAny_mono fin (fun r s' ⟨c, H', e, q⟩ => wpAny_pure ⟨c, H', by rw [e], q⟩) fun _ _ z => z)
    have sp : wpAny (model X.prog X.w) X.A (callSpecialIfBound? (.ref a) "__ne__" [.ref b]) (fun r s' => ∃ c H', r = some (.bool (!c)) ∧ Inv X pins σ H' s' ∧ Q (.bl (!c)) H') X.xe s := by
      simp only [callSpecialIfBound?, bindSpecialIfBound?]
      refine wpAny_holding (wpAny_bind (wpAny_bind (wpAny_bind (J.type.here ((PySem.W.looks_findIn I.kIn hn).here ?_)))))
      simp only [F.cmp_object.ne.bind]
      refine wpAny_bind (wpAny_askSetting (wpAny_ite ?_))
      split
      · exact wpAny_bind (wpAny_pure (wpAny_pure fin2))
      · exact wpAny_tryCatch (wpAny_bind (wpAny_pure (wpAny_pure fin2)))
    refine wpAny_bind (wpAny_mono sp (fun r s' q => ?_) fun _ _ x => x)
    obtain ⟨c, H', rfl, I', q⟩ := q
    exact wpAny_pure ⟨_, rfl, .bl (!c), H', I', rfl, q⟩
  show wpAny (model X.prog X.w) X.A (richCompare .NotEq (.ref a) (.ref b)) (EP X pins σ Q) X.xe s
  unfold richCompare
  simp only [oneThing_ref]
  refine wpAny_holding (wpAny_bind (wpAny_cRoomFor hr.units0 ?_))
  refine wpAny_bind (J.type.here (wpAny_bind (J'.type.here ?_)))
  rw [show (Value.ref C != Value.ref C) = false from by simp]
  simp only [Bool.false_eq_true, if_false]
  refine wpAny_bind (wpAny_pure ?_)
  simp only [Bool.false_eq_true, if_false]
  refine wpAny_bind (wpAny_mono one (fun r s' z => ?_) fun _ _ e => e)
  obtain ⟨v, rfl, hq⟩ := z
  exact wpAny_pure hq
/-! ### an own class that is walked by a tuple of its own -/
def TiO (r it : Addr) (i : Nat) : HO := .ext fun h => h.IsTupleIter it r i
theorem tiO_ok {P : Program} {w : World} {H : Hp} {h : Heap} {r it : Addr} {i : Nat} (e : h.IsTupleIter it r i) : ObjOk P w H h it (TiO r it i) :=
  ⟨e, ⟨_, e.choose_spec.1⟩, fun h1 h2 q k => by
    obtain ⟨o, a, b⟩ := q
    exact ⟨o, k _ a, b⟩⟩
/-- iter(t), t a tuple; the iterator is young -/
def rIterT (K : PySem.W.Frag) (n : Nat) : List V → Hp → VK → Prop := fun xs H Q => ∃ (l : Addr) (zs : List V), xs = [.ref l] ∧ SqT K H l zs ∧ ∀ it, H it = Option.none → n ≤ it → Q (.ref it) (upd H it (TiO l it 0))
theorem call_iterT : CallR X (.builtin "iter") (rIterT X.K X.s_0.heap.objs.size) := by
  intro pins s σ H xs us Q I r h
  obtain ⟨l, zs, rfl, hq, q⟩ := h
  obtain ⟨u, rfl, ru⟩ := vals1 r
  cases ru
  obtain ⟨its, rv, pl, hz⟩ := I.tuple hq
  refine Calls.call_function_entry (by decide +kernel) (by decide +kernel) PySem.W.kdk_entry_iter (PySem.W.kdk_args_iter _) ?_
  unfold Builtin.«iter»
  refine wpAny_bind (m := someArgs "iter" 1 2 _) (wpAny_of_eq (a := [Value.ref l]) (by first | rfl | kernel_rfl!) ?_)
  show wpAny _ _ (pyIter (.ref l) >>= _) _ _ _
  refine wpAny_bind (wpAny_pyIter_tuple (show s.heap.IsTuple l its.toArray from pl) ?_)
  refine wpAny_pure ⟨_, rfl, ?_⟩
  exact ⟨.ref s.heap.objs.size, _, I.laid (t' := s.toks) (fun b u e => Heap.get?_push_of_some _ e) (Nat.le_refl _) (tiO_ok ⟨_, Heap.get?_push_size _ rfl, rfl, rfl⟩), rfl, q _ (I.hok.fresh (Nat.le_refl _)) I.sz⟩
/-- what __iter__ promises: an iterator over the tuple in the field -/
def spIt (K : PySem.W.Frag) (C : Addr) (fl : Str) (n : Nat) : Sp := fun vs H Q _ => ∃ a dx fs r xs, vs = [.ref a] ∧ H a = some (.ins C dx fs) ∧ fs.lookup fl = some (.ref r) ∧ SqT K H r xs ∧ ∀ it, H it = Option.none → n ≤ it → Q (.ref it) (upd H it (TiO r it 0))
structure FnI (P : Program) (w : World) (K : PySem.W.Frag) (mg : Str → Option Value) (base : Heap) (k : Nat) (f : Addr) (fd : FuncData) (C : Addr) (fl : Str) : Prop where
  goes : ∀ (A : Around) (outer : List Env) (s : Shared) (H : Hp) (u : Value) (v : V) (Q : VK) (E : XK), A.guards = some [] → Room k A → Env0 P w K mg base A outer s H → K.In s.heap → RelV v u →
    spIt K C fl s.heap.objs.size [v] H Q E → codeAny (model P w) A (.call (.ref f) ⟨[u], []⟩) (CR CX0 outer P w H s Q E) s
structure ItV (P : Program) (w : World) (K : PySem.W.Frag) (mg : Str → Option Value) (base : Heap) (k : Nat) (C : Addr) (fl : Str) : Prop where
  ex : ∃ f fd, PySem.W.findIn K (.ref C) "__iter__" = some (some (.ref f)) ∧ PySem.W.isFn K (.ref f) = true ∧ FnI P w K mg base k f fd C fl
def iOwn (K : PySem.W.Frag) (C : Addr) (fl : Str) (t : TE) : TI := fun σ H R => t σ H fun v H1 => ∃ a dx fs r xs, v = .ref a ∧ H1 a = some (.ins C dx fs) ∧ fs.lookup fl = some (.ref r) ∧ SqT K H1 r xs ∧ R (Itt K r) H1
theorem pi_own {tg iter : Expr} {fl : Str} {t : TE} (S : ItV X.prog X.w X.K X.mg X.base k C fl) (hG : X.A.guards = some []) (hr : Room k X.A) (h : PE X iter t) : PI X tg iter (iOwn X.K C fl t) := by
  refine ⟨fun pins s σ H R I hq => ?_⟩
  obtain ⟨f, fd, hs, hf, FI⟩ := S.ex
  refine thn (h.run pins s σ H _ I hq) fun v s1 ⟨x, H1, I1, r1, q1⟩ => ?_
  obtain ⟨a, dx, fs, r, xs, e, ha, hl, hr', q⟩ := q1
  subst e
  cases r1
  obtain ⟨mA, J, _⟩ := ins_get I1.hok ha
  obtain ⟨od, J, _⟩ := J.look
  obtain ⟨m, hF⟩ := I1.fr
  refine PySem.W.owit_iter hF I1.ok.mod.kin J hs hf ?_
  have hsp : spIt X.K C fl s1.heap.objs.size [.ref a] H1 (fun v H' => ∃ it, H1 it = Option.none ∧ s1.heap.objs.size ≤ it ∧ v = .ref it ∧ H' = upd H1 it (TiO r it 0)) E0 :=
    ⟨a, dx, fs, r, xs, rfl, ha, hl, hr', fun it n y => ⟨it, n, y, rfl, rfl⟩⟩
  refine wpAny_call (codeAny_mono (FI.goes X.A X.stack s1 H1 (.ref a) (.ref a) _ E0 hG hr I1.env0 I1.kIn rfl hsp) fun z s2 hz => ?_)
  match z, hz with
  | .error e, hz => exact (show False from hz).elim
  | .ok .next, hz => exact (show False from hz).elim
  | .ok .brk, hz => exact (show False from hz).elim
  | .ok .cont, hz => exact (show False from hz).elim
  | .ok (.ret u), hz =>
    obtain ⟨v, H', I2, rv, it, hn, young, ev, eH⟩ := I1.after hz
    subst ev eH
    cases rv
    have ex : upd H1 it (TiO r it 0) it = some (TiO r it 0) := upd_same
    have st : s2.heap.IsTupleIter it r 0 := (I2.hok it _ ex).1
    obtain ⟨o, ho, hc, hd⟩ := id st
    show PySem.W.OwitIt _ _ _ _ _ _
    unfold PySem.W.OwitIt
    refine wpAny_specialOf ⟨o, ho, hc⟩ PySem.F.slot_tuple_iterator_next.lookup ?_
    have D := ItX.inv_drop I2 (by unfold TiO at ex; exact ex)
    rw [ItX.dropH_upd hn] at D
    refine ⟨it, [it], _, _, H1, rfl, D, turn_tuple r it, st, fun b hb => ?_, q⟩
    have e : b = it := by simpa using hb
    rw [e]
    have fp := ItX.inv_fp I2 ex (Nat.le_trans I1.sz young)
    rw [ItX.dropH_upd hn] at fp
    exact fp
def iwO (C : Addr) (fl : Str) (w : WE) : WI := fun ρ μ ev Ψ => w ρ μ ev fun d μ1 => ∃ ns fs ds, insOf μ1 d = some (C, ns, fs) ∧ lookD fl ns fs = some (.tup ds) ∧ Ψ ds noP μ1
theorem vi_own {T : List (Addr × Str)} {tg iter : Expr} {fl : Str} {w : WE} (S : ItV X.prog X.w X.K X.mg X.base k C fl) (hG : X.A.guards = some []) (hr : Room k X.A) (h : PE X iter (up X.K T E w)) : PI X tg iter (upI X.K T E (iwO C fl w)) :=
  pi_mono (pi_own S hG hr h) fun σ H R ⟨ρ, μ, ev, Ψ, en, st, xo, h, k⟩ => ⟨ρ, μ, ev, _, en, st, xo, h, fun d μ1 v H1 ⟨ns, fs, ds, hi, hl, q⟩ iv st1 s1 => by
    obtain ⟨a, dx, us, rfl, ha, hn, iu⟩ := is_ins st1 iv hi
    obtain ⟨u, e1, e2⟩ := look_is iu hl
    obtain ⟨r, vs, rfl, at_, ia⟩ := tupOf_is e2 rfl
    refine ⟨a, dx, _, r, vs, rfl, ha, e1, at_.sq, k ds _ μ1 _ H1 q st1 s1 fun μ2 H2 s2 st2 _ i => ⟨fun x hx => ?_, fun hl => ⟨vs, (at_.step s2).sq, by rw [ia.len]; exact hl⟩⟩⟩
    obtain ⟨u, e1, e2⟩ := (ia.step s2).get hx
    exact ⟨⟨vs, u, (at_.step s2).sq, e1⟩, fun y H3 ⟨z1, z2⟩ => by subst z1; have := z2 vs (at_.step s2).sq; rw [e1] at this; cases this; exact ⟨e2, st2, Step.refl _ _⟩⟩⟩
/-! the operators over trees -/
def vEqO (C : Addr) (sp : VSp) (neg : Bool) : V2 := fun x y μ Φ => ∃ ns fs ms gs, insOf μ x = some (C, ns, fs) ∧ insOf μ y = some (C, ms, gs) ∧ sp [x, y] μ ev0 fun d μ1 => ∃ c, d = .bl c ∧ Φ (.bl (if neg then !c else c)) μ1
theorem s_eqO {T : List (Addr × Str)} {sp : VSp} : Sim2 X.K T (rEqO X T C sp) (vEqO C sp false) := fun x y v w μ H Φ Q ix iy st ⟨ns, fs, ms, gs, hx, hy, h⟩ k => by
  obtain ⟨a, dx, us, rfl, ha, _, _⟩ := is_ins st ix hx
  obtain ⟨b, dy, ws, rfl, hb, _, _⟩ := is_ins st iy hy
  refine ⟨a, b, dx, dy, _, _, (x, y), rfl, rfl, ha, hb, μ, ix, iy, st, _, h, fun d μ' v H' ⟨c, e, q⟩ iv st' s' => ?_⟩
  subst e
  cases iv
  exact ⟨c, rfl, k _ _ _ _ q (.bl c) st' s'⟩
theorem s_neO {T : List (Addr × Str)} {sp : VSp} : Sim2 X.K T (rNeO X T C sp) (vEqO C sp true) := fun x y v w μ H Φ Q ix iy st ⟨ns, fs, ms, gs, hx, hy, h⟩ k => by
  obtain ⟨a, dx, us, rfl, ha, _, _⟩ := is_ins st ix hx
  obtain ⟨b, dy, ws, rfl, hb, _, _⟩ := is_ins st iy hy
  refine ⟨a, b, dx, dy, _, _, (x, y), rfl, rfl, ha, hb, μ, ix, iy, st, _, h, fun d μ' v H' ⟨c, e, q⟩ iv st' s' => ?_⟩
  subst e
  cases iv
  exact ⟨c, rfl, c, rfl, k _ _ _ _ q (.bl (!c)) st' s'⟩
/-- from the class's text: return iter(self.fl) -/
theorem fnI_of {P : Program} {w : World} {K : PySem.W.Frag} {mg : Str → Option Value} {base : Heap} {x qual fl : Str} {st : Stmt} {f : Addr} {N : List Str} {p1 p2 p3 p4 p5 : Pos} (F : Fun K x qual st f fd) (S : FnScope N ["self"] (defScope st)) (hB : Binds K fd ["self"] [])
    (hbody : defBody st = [.Return (some (.Call (.Name "iter" p1) [.Attribute (.Name "self" p2) fl p3] [] p4)) p5]) (cl : Cls K C) (na : NoAttr K C fl) (hm : mg "iter" = none) (hN : N[0]? = some ("self" : Str))
    (ok : ∀ cdv A outer s H E, Gl (cxOf CX0 P w K mg base N qual (defScope st) f cdv A outer s H E) "iter" ∧ Vis (defScope st) "self" ∧
      attributeBase (.Name "self" p2) fl (cxOf CX0 P w K mg base N qual (defScope st) f cdv A outer s H E).env (eval (.Name "self" p2) (cxOf CX0 P w K mg base N qual (defScope st) f cdv A outer s H E).env) = eval (.Name "self" p2) (cxOf CX0 P w K mg base N qual (defScope st) f cdv A outer s H E).env) :
    FnI P w K mg base (k + 1) f fd C fl := by
  obtain ⟨oc, od, kV, doc, pm, an, cdv, ct, osl, rfl, lk, hcd⟩ := F.ex
  refine ⟨fun A outer s H u v Q E hG hr e0 kin rv hs => ?_⟩
  have bind := hB s [u] kin rfl
  simp only [List.append_nil] at bind
  refine LamX.run_ofS (us := [u]) (vs := [v]) lk hcd S hr e0 bind (.cons rv .nil) rfl fun hr' => ?_
  obtain ⟨a, dx, fs, r, xs, e, ha, hl, hq, hk⟩ := hs
  obtain ⟨h1, h2, h3⟩ := ok cdv A outer s H E
  rw [hbody]
  refine ⟨_, pss_one (ps_ret (pe_callB call_iterT h1 hm (by first | rfl | decide +kernel) (pa_cons (pe_fld (pe_var hN h2) h3) pa_nil))), ?_⟩
  obtain rfl : v = V.ref a := by cases e; rfl
  refine w_ret (w_cb ⟨V.ref a, by unfold L2.start; rfl, a, C, dx, fs, V.ref r, rfl, ha, cl, na, hl, ?_⟩)
  exact ⟨r, xs, rfl, hq, fun it n y => hk it n y⟩
end
end VL

set_option maxRecDepth 100000
set_option maxHeartbeats 4000000
/-! values as trees: the module's dicts and tuples, isinstance of own classes, len of a set of ints -/
namespace VL
open PySem L2 FW PyProof.Rows
/-! ### dicts of the module, text keys -/
structure KMap (K : PySem.W.Frag) (w : World) (d : Addr) (ps : List (Str × V × D)) : Prop where
  kd : ∃ es n, KDict K w d es n
  hit : ∀ z p, ps.lookup z = some p → ∃ u, PySem.W.nsIn K d z = some (some u) ∧ RelV p.1 u
  miss : ∀ z, ps.lookup z = none → PySem.W.nsIn K d z = some none
  ok : ∀ z p, ps.lookup z = some p → ∀ μ H, Is K μ H p.1 p.2
def onlyB (K : PySem.W.Frag) (a : Addr) (ks : List Str) : Bool := match K.lookup a with
  | some ⟨_, _, .dict es _, _⟩ => es.toList.all fun e => match e.key with
    | .str s _ => ks.contains s
    | _ => false
  | _ => false
theorem onlyB_ok {K : PySem.W.Frag} {a : Addr} {ks : List Str} (h : onlyB K a ks = true) {z : Str} (hz : z ∉ ks) : PySem.W.nsIn K a z = some none := by
  unfold onlyB at h
  unfold PySem.W.nsIn
  split at h
  · rename_i es n sl e
    rw [e]
    dsimp only
    have h1 : es.toList.find? (fun x => x.key.isStr z) = none := by
      rw [List.find?_eq_none]
      intro x hx
      have q := List.all_eq_true.mp h x hx
      cases hk : x.key with
      | str s t =>
        rw [hk] at q
        show ¬ (Value.isStr (.str s t) z) = true
        intro e2
        have e3 : s = z := beq_iff_eq.mp (show (s == z) = true from e2)
        rw [e3] at q
        exact hz (List.contains_iff_mem.mp q)
      | _ => rw [hk] at q; cases q
    have h2 : es.toList.any (·.refKey) = false := by
      rw [List.any_eq_false]
      intro x hx
      have q := List.all_eq_true.mp h x hx
      unfold DictEntry.refKey
      cases hk : x.key with
      | ref _ => rw [hk] at q; cases q
      | _ => simp
    rw [h1]
    simp only [h2, Bool.false_eq_true, if_false]
  · cases h
theorem kmap_of {K : PySem.W.Frag} {w : World} {a : Addr} {ps : List (Str × V × D)} {kvs : List (Str × He.Dv)} (d : ∃ es n, KDict K w a es n) (v : He.valsB K a kvs = true) (o : onlyB K a (kvs.map (·.1)) = true) (e : ps.map (fun p => (p.1, p.2.1)) = kvs.map fun q => (q.1, q.2.v K))
    (ok : ∀ p ∈ ps, ∀ μ H, Is K μ H p.2.1 p.2.2) : KMap K w a ps := by
  have mem : ∀ {ps : List (Str × V × D)} {z p}, ps.lookup z = some p → (z, p) ∈ ps := by
    intro ps
    induction ps with
    | nil => intro z p h; cases h
    | cons q ps ih =>
      intro z p h
      rw [List.lookup_cons] at h
      split at h
      · rename_i e2
        cases h
        have : z = q.1 := beq_iff_eq.mp e2
        rw [this]; exact List.mem_cons_self ..
      · exact List.mem_cons_of_mem _ (ih h)
  refine ⟨d, fun z p h => ?_, fun z h => ?_, fun z p h => ok _ (mem h)⟩
  · have m := mem h
    have m2 : (z, p.1) ∈ kvs.map fun q => (q.1, q.2.v K) := by
      rw [← e]; exact List.mem_map.mpr ⟨_, m, rfl⟩
    obtain ⟨q, hq, eq⟩ := List.mem_map.mp m2
    obtain ⟨e1, e2⟩ := Prod.mk.injEq .. ▸ eq
    have w := He.valsB_ok v hq
    rw [show q.1 = z from e1, show q.2.v K = p.1 from e2] at w
    exact w
  · refine onlyB_ok o fun hz => ?_
    have hk : ps.map (·.1) = kvs.map (·.1) := by
      have := congrArg (List.map (·.1)) e
      simpa [List.map_map, Function.comp_def] using this
    rw [← hk] at hz
    obtain ⟨q, hq, e1⟩ := List.mem_map.mp hz
    have no : ∀ {ps : List (Str × V × D)}, q ∈ ps → ps.lookup q.1 ≠ none := by
      intro ps
      induction ps with
      | nil => intro h; cases h
      | cons r ps ih =>
        intro h
        rw [List.lookup_cons]
        split
        · exact nofun
        · rename_i e2
          rcases List.mem_cons.mp h with h | h
          · subst h; simp at e2
          · exact ih h
    rw [← e1] at h
    exact no hq h
section
variable {X : Cx} {K : PySem.W.Frag} {T : List (Addr × Str)} {E : XK} {d : Addr} {ps : List (Str × V × D)}
def rInK (ps : List (Str × V × D)) (d : Addr) (neg : Bool) : R2 := fun x y H Q => ∃ z, x = .str z ∧ y = .ref d ∧ Q (.bl (if neg then !(ps.lookup z).isSome else (ps.lookup z).isSome)) H
def vInK (ps : List (Str × V × D)) (d : Addr) (neg : Bool) : V2 := fun x y μ Φ => ∃ z, x = .str z ∧ y = .ref d ∧ Φ (.bl (if neg then !(ps.lookup z).isSome else (ps.lookup z).isSome)) μ
theorem KMap.get (M : KMap X.K X.w d ps) (z : Str) : ∃ r, PySem.W.nsIn X.K d z = some r ∧ r.isSome = (ps.lookup z).isSome := by
  cases h : ps.lookup z with
  | none => exact ⟨none, M.miss z h, rfl⟩
  | some p => obtain ⟨u, e, _⟩ := M.hit z p h; exact ⟨_, e, rfl⟩
theorem op_inK (M : KMap X.K X.w d ps) : OpR X (compareOp .In) (rInK ps d false) := by
  obtain ⟨es, n, D⟩ := M.kd
  intro pins s σ H x y v u Q I rx ry ⟨z, e1, e2, q⟩
  obtain ⟨r, e3, e4⟩ := M.get z
  exact op_in_kd D pins s σ H x y v u Q I rx ry ⟨z, r, e1, e2, e3, by rw [e4]; exact q⟩
theorem op_notInK (M : KMap X.K X.w d ps) : OpR X (compareOp .NotIn) (rInK ps d true) := by
  obtain ⟨es, n, D⟩ := M.kd
  intro pins s σ H x y v u Q I rx ry ⟨z, e1, e2, q⟩
  obtain ⟨r, e3, e4⟩ := M.get z
  exact op_notIn_kd D pins s σ H x y v u Q I rx ry ⟨z, r, e1, e2, e3, by rw [e4]; exact q⟩
theorem s_inK {neg : Bool} : Sim2 K T (rInK ps d neg) (vInK ps d neg) := fun x y v w μ H Φ Q ix iy st ⟨z, e1, e2, h⟩ k => by
  subst e1 e2; cases ix; cases iy; exact ⟨z, rfl, rfl, k.now h (.bl _) st⟩
def rIxK (ps : List (Str × V × D)) (d : Addr) : R2 := fun x y H Q => ∃ z p, x = .ref d ∧ y = .str z ∧ ps.lookup z = some p ∧ Q p.1 H
def vIxK (ps : List (Str × V × D)) (d : Addr) : V2 := fun x y μ Φ => ∃ z p, x = .ref d ∧ y = .str z ∧ ps.lookup z = some p ∧ Φ p.2 μ
theorem ix_K (M : KMap X.K X.w d ps) : IxR X (rIxK ps d) := by
  obtain ⟨es, n, D⟩ := M.kd
  intro value slice pins s σ H x y v u Q I rx ry ⟨z, p, e1, e2, e3, q⟩ hs
  obtain ⟨u0, e4, r⟩ := M.hit z p e3
  exact ix_kdict value slice pins s σ H x y v u Q I rx ry ⟨d, z, p.1, e1, e2, ⟨es, n, u0, D.at_, D.lit, e4, r⟩, q⟩ hs
theorem s_ixK {w0 : World} (M : KMap K w0 d ps) : Sim2 K T (rIxK ps d) (vIxK ps d) := fun x y v w μ H Φ Q ix iy st ⟨z, p, e1, e2, e3, h⟩ k => by
  subst e1 e2; cases ix; cases iy; exact ⟨z, p, rfl, rfl, e3, k.now h (M.ok z p e3 μ H) st⟩
/-! ### isinstance, an own class -/
structure InsC (K : PySem.W.Frag) (C : Addr) : Prop where
  cl : Cls K C
  ha : PySem.W.findIn K (.ref C) "__class__" = some (some (.builtin "object.__class__"))
  hn : PySem.W.specialIn K (.builtin "object.__class__") "__get__" = some (some (.builtin "getset_descriptor.__get__"))
  ht : PySem.W.takesIn K (.builtin "object.__class__") = some true
  hm : PySem.W.mroIn K C (.type "object") = some true
def insB (K : PySem.W.Frag) (C : Addr) : Bool := decide (PySem.W.findIn K (.ref C) "__class__" = some (some (.builtin "object.__class__"))) && (decide (PySem.W.specialIn K (.builtin "object.__class__") "__get__" = some (some (.builtin "getset_descriptor.__get__"))) &&
  (decide (PySem.W.takesIn K (.builtin "object.__class__") = some true) && decide (PySem.W.mroIn K C (.type "object") = some true)))
theorem insB_ok {C : Addr} (h : insB K C = true) (cl : Cls K C) : InsC K C := by
  unfold insB at h
  simp only [Bool.and_eq_true, decide_eq_true_eq] at h
  obtain ⟨h1, h2, h3, h4⟩ := h
  exact ⟨cl, h1, h2, h3, h4⟩
def tyO (K : PySem.W.Frag) (μ : Mu) (x : D) (t : Value) : Prop := (∃ n, tyD μ x = some n ∧ t = .type n) ∨ ∃ C ns fs, insOf μ x = some (C, ns, fs) ∧ InsC K C ∧ t = .ref C
theorem tyO_is {μ : Mu} {H : Hp} {v : V} {x : D} {t : Value} (st : Sto K T μ H) (h : Is K μ H v x) (e : tyO K μ x t) : TyX K H v t := by
  rcases e with ⟨n, e, rfl⟩ | ⟨C, ns, fs, e, i, rfl⟩
  · exact tyX_is st h e
  · obtain ⟨a, dx, us, rfl, ha, _, _⟩ := is_ins st h e
    exact .base (.ins ha i.cl i.ha i.hn i.ht i.hm)
def vIsiO (K : PySem.W.Frag) : VL_ := fun xs μ Φ => ∃ x C t b, xs = [x, .ref C] ∧ tyO K μ x t ∧ PySem.W.kitOne K t (.ref C) = some b ∧ Φ (.bl b) μ
theorem s_isiO : SimL K T (rIsi K) (vIsiO K) := fun xs vs μ H Φ Q ia st ⟨x, C, t, b, e, ht, kb, q⟩ k => by
  subst e
  cases ia with
  | cons ix c => cases c with
    | cons iy c =>
      cases iy; cases c
      exact ⟨_, _, _, _, b, rfl, .own C, tyO_is st ix ht, kb, k.now q (.bl b) st⟩
/-! ### len(set(ns)) -/
def manyOf (ns : List Int) : Nat := (PyProof.Rows.firstMet (fun i => ns.getD i 0) ns.length).length
def tLenSetI (K : PySem.W.Frag) (ta : TE) : TE := fun σ H Q => ta σ H fun x H1 => ∃ (l : Addr) (ns : List Int), x = .ref l ∧ SqL K H1 l (ns.map V.int) ∧ ns.length ≤ 1000 ∧ Q (.int (manyOf ns)) H1
theorem pe_lenSetI {a : Expr} {ta : TE} {p p2 q pos : Pos} (hc : X.calm = true) (hg : Gl X "len") (hm : X.mg "len" = none) (hg2 : Gl X "set") (hm2 : X.mg "set" = none) (ha : PE X a ta)
    (na : starEach [a] X.env = (false, eval a X.env) :: starEach [] X.env := by rfl) : PE X (.Call (.Name "len" p) [.Call (.Name "set" p2) [a] [] q] [] pos) (tLenSetI X.K ta) := by
  refine ⟨fun pins s σ H Q I h => ?_⟩
  refine Call_ (ld_blt I hg hm boot_len ?_)
  refine PyProof.Rows.callWith_builtin1 (PyProof.Rows.args_cons ?_ rfl) rfl rfl
  refine Call_ (ld_blt I hg2 hm2 boot_set ?_)
  refine PyProof.Rows.callWith_type1 (PyProof.Rows.args_cons (thn (ha.run pins s σ H _ I h) fun v s1 ⟨x, H1, I1, r1, q1⟩ => PyProof.Rows.args_nil ?_) na) na rfl
  obtain ⟨l, ns, rfl, hq, h1, q1⟩ := q1
  cases r1
  obtain ⟨its, r, pl, hz⟩ := I1.list hq
  have hi : PyProof.Rows.IntsAre its.toArray.toList ns := ints_of_vals r
  have hl : its.toArray.size = ns.length := by rw [List.size_toArray, ← r.length, List.length_map]
  refine PySem.call_set_list (I1.ok.hd hc) pl.isList hi (by rw [hl]; unfold scanBound; omega) fun h' tk hS hk => ?_
  refine PyProof.Rows.args_nil ?_
  rw [hl] at hS
  obtain ⟨o, es, ep, t, ho, hex, hd, _, _, hb, hf, hn⟩ := hS
  have I2 : Inv X pins σ H1 { s1 with heap := h', toks := tk } := I1.kept fun b o e => hk b o (Heap.lt_size e) e
  refine call_len_set ho hex hd hf ?_ ⟨.int (manyOf ns), H1, I2.tok _, ⟨_, by rw [hn]; rfl⟩, q1⟩
  unfold scanBound at hb
  omega
def wLenSet (w : WE) : WE := fun ρ μ ev Φ => w ρ μ ev fun x μ1 => ∃ ns : List Int, (fzL x = some (ns.map .int) ∨ lstOf μ1 x = some (ns.map .int)) ∧ ns.length ≤ 1000 ∧ Φ (.int (manyOf ns)) μ1
theorem ve_lenSet {a : Expr} {w : WE} {p p2 q pos : Pos} (hc : X.calm = true) (hg : Gl X "len") (hm : X.mg "len" = none) (hg2 : Gl X "set") (hm2 : X.mg "set" = none) (ha : PE X a (up X.K T E w))
    (na : starEach [a] X.env = (false, eval a X.env) :: starEach [] X.env := by rfl) : PE X (.Call (.Name "len" p) [.Call (.Name "set" p2) [a] [] q] [] pos) (up X.K T E (wLenSet w)) :=
  pe_mono (pe_lenSetI hc hg hm hg2 hm2 ha na) fun σ H Q ⟨ρ, μ, ev, Φ, en, st, xo, h, k⟩ => ⟨ρ, μ, ev, _, en, st, xo, h, fun x μ1 v H1 ⟨ns, e, hl, hx⟩ ix st1 s1 => by
    obtain ⟨a, us, rfl, sq, i⟩ := sqL_of st1 ix e
    rw [vs_ints i] at sq
    exact ⟨a, ns, rfl, sq, hl, (k.step s1).now hx (.int _) st1⟩⟩
end
end VL

set_option maxRecDepth 100000
set_option maxHeartbeats 4000000
/-! values as trees: defs of the text, however they are called; what is never reached -/
namespace VL
open PySem L2 FW PyProof.Rows
section
variable {X : Cx} {T : List (Addr × Str)} {E : XK}
theorem vs_never {st : Stmt} : PS X st (upS X.K T E fun _ _ _ _ => False) := ⟨fun _ _ _ _ _ _ ⟨_, _, _, _, _, _, _, h, _⟩ => h.elim⟩
theorem vss_never {st : List Stmt} : PSs X st (upS X.K T E fun _ _ _ _ => False) := ⟨fun _ _ _ _ _ _ ⟨_, _, _, _, _, _, _, h, _⟩ => h.elim⟩
theorem ve_never {e : Expr} : PE X e (up X.K T E fun _ _ _ _ => False) := ⟨fun _ _ _ _ _ _ ⟨_, _, _, _, _, _, _, h, _⟩ => h.elim⟩
theorem vt_never {e : Expr} : PT X e (upT X.K T E fun _ _ _ _ => False) := ⟨fun _ _ _ _ _ _ ⟨_, _, _, _, _, _, _, h, _⟩ => h.elim⟩
end
section
variable {P : Program} {w : World} {K : PySem.W.Frag} {mg : Str → Option Value} {base : Heap} {CX : CXT} {T : List (Addr × Str)}
theorem fun_okD {x qual : Str} {st : Stmt} {dvs : List V} {f : Addr} {fd : FuncData} {N ps : List Str} {k : Nat} {sp : VSp} (F : FunD K x qual (defArgs st) (defBody st) (defScope st) dvs [] f fd) (S : FnScope N ps (defScope st)) (size : ∀ ds μ ev Φ, sp ds μ ev Φ → ds.length = ps.length)
    (walk : ∀ (cdv : Value) (A : Around) (outer : List PySem.Env) (s : Shared) (H : Hp) (E : XK), (A.deeper (envOfC qual (defScope st) s.heap.objs.size f cdv)).guards = some [] → Room k (A.deeper (envOfC qual (defScope st) s.heap.objs.size f cdv)) →
      ∃ t, PSs (cxOf CX P w K mg base N qual (defScope st) f cdv A outer s H E) (defBody st) (upS K T E t) ∧ ∀ ds μ ev Φ, sp ds μ ev Φ → t { nx := fun _ μ' => Φ .non μ', rt := Φ } (vstart N ds) μ ev) : FnG P w K mg base CX (k + 1) f fd ps (lift K T sp) := by
  obtain ⟨oc, od, dV, kV, doc, pm, an, cdv, ct, osl, rfl, lk, hcd, _, _⟩ := F.ex
  refine ⟨fun vs H Q E ⟨ds, μ, ev, Φ, ia, _, _, h, _⟩ => by rw [ia.len]; exact size _ _ _ _ h, fun A outer s H args us vs Q E hG hr e0 hb hv hs => ?_⟩
  obtain ⟨ds, μ, ev, Φ, ia, st', xo, h, k'⟩ := hs
  refine LamX.run_ofS lk hcd S hr e0 hb hv (by rw [ia.len]; exact size _ _ _ _ h) fun hr' => ?_
  obtain ⟨t, ht, hq⟩ := walk cdv A outer s H E (guards_in hG) hr'
  refine ⟨_, ht, vstart N ds, μ, ev, _, env_start ia, st', xo, hq ds μ ev Φ h, fun ρ' μ' σ' H' q en st2 s2 => ?_, k', fun _ _ _ _ z => z.elim, fun _ _ _ _ z => z.elim⟩
  exact k' .non μ' .non H' q .non st2 s2
/-- where a parameter's value comes from: the i-th written one, the j-th default -/
def toArg (dvs : List V) (dds : List D) : Nat ⊕ Nat → Arg
  | .inl i => .pos i
  | .inr j => .dflt (dvs.getD j .non) (dds.getD j .non)
def pickU (all its : List Value) : Nat ⊕ Nat → Value
  | .inl i => all.getD i .none
  | .inr j => its.getD j .none
theorem vals_getD : ∀ {vs : List V} {us : List Value} (i : Nat), Vals vs us → RelV (vs.getD i .non) (us.getD i .none)
  | [], [], _, .nil => by simp; rfl
  | _ :: _, _ :: _, 0, .cons r _ => r
  | _ :: _, _ :: _, i + 1, .cons _ rs => vals_getD i rs
theorem vals_pick {vs zs dvs : List V} {us ws its : List Value} {dds : List D} (r : Vals vs us) (rz : Vals zs ws) (rd : Vals dvs its) : ∀ bs : List (Nat ⊕ Nat), Vals (argsV (bs.map (toArg dvs dds)) vs zs) (bs.map (pickU (us ++ ws) its))
  | [] => .nil
  | .inl i :: bs => .cons (vals_getD i (r.append rz)) (vals_pick r rz rd bs)
  | .inr j :: bs => .cons (vals_getD j rd) (vals_pick r rz rd bs)
/-- a def without defaults -/
theorem canV_of {x qual : Str} {st : Stmt} {f : Addr} {ps ks : List Str} {k n : Nat} {sp : VSp} (bs : List (Nat ⊕ Nat)) (F : ∃ fd, FunD K x qual (defArgs st) (defBody st) (defScope st) [] [] f fd) (ok : ∀ fd, FunD K x qual (defArgs st) (defBody st) (defScope st) [] [] f fd → FnG P w K mg base CX k f fd ps (lift K T sp))
    (hb : ∀ (kV doc pm : Value) (an : Option Addr) (cdv ct : Value) (us ws : List Value), us.length = n → ws.length = ks.length → bindArgs (PySem.W.fnOf x qual (defArgs st) (defBody st) (defScope st) .none kV doc pm an cdv ct) ⟨us, ks.zip ws⟩ = pure (ps.zip (bs.map (pickU (us ++ ws) []))))
    (hbs : bs.all (fun b => match b with | .inl i => decide (i < n + ks.length) | .inr _ => false) = true) : CanV P w K mg base CX T k f n ks (bs.map (toArg [] [])) sp := by
  obtain ⟨fd, F⟩ := F
  have G := ok fd F
  obtain ⟨oc, od, dV, kV, doc, pm, an, cdv, ct, osl, rfl, lk, hcd, hD, _⟩ := F.ex
  rcases hD with ⟨_, rfl⟩ | ⟨e, _⟩
  · refine ⟨⟨_, ps, fun us ws => bs.map (pickU (us ++ ws) []), G, F.kp, fun s us ws X l1 l2 => ?_, fun r rz => vals_pick r rz .nil bs⟩, fun a ha => ?_⟩
    · exact BindsTo.of_looks fun M => .of_pure (hb kV doc pm an cdv ct us ws l1 l2)
    · obtain ⟨b, hm, rfl⟩ := List.mem_map.mp ha
      have q := List.all_eq_true.mp hbs b hm
      cases b with
      | inl i => exact (of_decide_eq_true (p := i < n + ks.length) q)
      | inr j => cases q
  · exact absurd rfl e
/-- a def with defaults -/
theorem canV_dfl {x qual : Str} {st : Stmt} {f : Addr} {ps ks : List Str} {k n : Nat} {sp : VSp} {dvs : List V} (dds : List D) (bs : List (Nat ⊕ Nat)) (F : ∃ fd, FunD K x qual (defArgs st) (defBody st) (defScope st) dvs [] f fd) (ok : ∀ fd, FunD K x qual (defArgs st) (defBody st) (defScope st) dvs [] f fd → FnG P w K mg base CX k f fd ps (lift K T sp)) (hd : dvs ≠ [])
    (hv : ∀ j, ∀ μ H, Is K μ H (dvs.getD j .non) (dds.getD j .non))
    (hb : ∀ (T : Addr) (kV doc pm : Value) (an : Option Addr) (cdv ct : Value) (us its ws : List Value), us.length = n → its.length = dvs.length → ws.length = ks.length →
      ∃ k, bindArgs (PySem.W.fnOf x qual (defArgs st) (defBody st) (defScope st) (.ref T) kV doc pm an cdv ct) ⟨us, ks.zip ws⟩ = seqItems? (.ref T) >>= k ∧ k (some its.toArray) = pure (ps.zip (bs.map (pickU (us ++ ws) its))))
    (hbs : bs.all (fun b => match b with | .inl i => decide (i < n + ks.length) | .inr _ => true) = true) : CanV P w K mg base CX T k f n ks (bs.map (toArg dvs dds)) sp := by
  obtain ⟨fd, F⟩ := F
  have G := ok fd F
  obtain ⟨oc, od, dV, kV, doc, pm, an, cdv, ct, osl, rfl, lk, hcd, hD, _⟩ := F.ex
  rcases hD with ⟨e, _⟩ | ⟨_, T, o, its, m, rfl, lT, oT, rT⟩
  · exact absurd e hd
  · refine ⟨⟨_, ps, fun us ws => bs.map (pickU (us ++ ws) its), G, F.kp, fun s us ws X l1 l2 => ?_, fun r rz => vals_pick r rz rT bs⟩, fun a ha => ?_⟩
    · obtain ⟨k, e1, e2⟩ := hb T kV doc pm an cdv ct us its ws l1 rT.length.symm l2
      refine BindsTo.of_looks fun M => ?_
      rw [e1]
      exact looks_items X lT oT (.of_pure e2)
    · obtain ⟨b, hm, rfl⟩ := List.mem_map.mp ha
      have q := List.all_eq_true.mp hbs b hm
      cases b with
      | inl i => exact (of_decide_eq_true (p := i < n + ks.length) q)
      | inr j => exact hv j
end
end VL

set_option maxRecDepth 100000
set_option maxHeartbeats 4000000
/-! values as trees: truth of what stands there; footprints -/
namespace VL
open PySem L2 FW PyProof.Rows
def truD (μ : Mu) : D → Option Bool
  | .bl b => some b
  | x => (seqOf μ x).map fun ds => !ds.isEmpty
def wTru (w : WE) : WT := fun ρ μ ev Φ => w ρ μ ev fun x μ1 => ∃ k, truD μ1 x = some k ∧ Φ k μ1
section
variable {X : Cx} {T : List (Addr × Str)} {E : XK} {e : Expr} {w : WE}
theorem tru_is {K : PySem.W.Frag} {μ : Mu} {H : Hp} {v : V} {x : D} {k : Bool} (st : Sto K T μ H) (h : Is K μ H v x) (e : truD μ x = some k) : TruV K v H k := by
  have other : (seqOf μ x).map (fun ds => !ds.isEmpty) = some k → TruV K v H k := fun e => by
    cases q : seqOf μ x with
    | none => rw [q] at e; cases e
    | some ds =>
      rw [q] at e
      cases e
      obtain ⟨a, vs, rfl, sq, i⟩ := is_seq st h q
      have hl : (!ds.isEmpty) = !vs.isEmpty := by
        have := i.len
        cases vs <;> cases ds <;> first | rfl | simp at this
      show TruV K (V.ref a) H (!ds.isEmpty)
      rw [hl]
      rcases sq with sq | sq
      · exact .inl ⟨vs, sq, rfl⟩
      · exact .inr (.inl ⟨vs, sq, rfl⟩)
  cases h with
  | bl b => cases e; exact rfl
  | _ => exact other e
theorem vt_tru (h : PE X e (up X.K T E w)) (he : ∀ whole, isTrue e X.env whole = (do let v ← whole; standAt e.pos; holding [v] (truthy v)) := by intro _; rfl) : PT X e (upT X.K T E (wTru w)) :=
  pt_mono (pt_truth h he) fun σ H Q ⟨ρ, μ, ev, Φ, en, st, xo, h, k⟩ => ⟨ρ, μ, ev, _, en, st, xo, h, fun x μ1 v H1 ⟨c, e, q⟩ ix st1 s1 => ⟨c, tru_is st1 ix e, k c μ1 H1 q st1 s1⟩⟩
end
/-! ### footprints -/
/-- what is not in F stays as it is -/
def Kp (F : List Addr) (μ μ' : Mu) : Prop := ∀ a, a ∉ F → μ a ≠ none → μ' a = μ a
/-- F' has nothing of what stood there but F -/
def Nw (F F' : List Addr) (μ : Mu) : Prop := ∀ a, a ∈ F' → a ∈ F ∨ μ a = none
theorem Kp.refl {F : List Addr} {μ : Mu} : Kp F μ μ := fun _ _ _ => rfl
theorem Nw.refl {F : List Addr} {μ : Mu} : Nw F F μ := fun _ h => .inl h
theorem Kp.trans {F F' : List Addr} {μ μ1 μ2 : Mu} (k : Kp F μ μ1) (n : Nw F F' μ) (k2 : Kp F' μ1 μ2) : Kp F μ μ2 := fun a h e => by
  have e1 := k a h e
  rw [k2 a (fun z => (n a z).elim h e) (by rw [e1]; exact e), e1]
theorem Nw.trans {F F1 F2 : List Addr} {μ μ1 : Mu} (n : Nw F F1 μ) (k : Kp F μ μ1) (n2 : Nw F1 F2 μ1) : Nw F F2 μ := fun a h => by
  by_cases hF : a ∈ F
  · exact .inl hF
  · rcases n2 a h with z | z
    · exact n a z
    · by_cases hm : μ a = none
      · exact .inr hm
      · rw [k a hF hm] at z; exact .inr z
theorem Kp.set {F : List Addr} {μ : Mu} {a : Addr} {m : MO} (h : a ∈ F) : Kp F μ (μ.set a m) := fun b hb _ => Mu.ne fun z => hb (z ▸ h)
theorem Kp.new {F : List Addr} {μ : Mu} {a : Addr} {m : MO} (h : μ a = none) : Kp F μ (μ.set a m) := fun b _ hm => Mu.ne fun z => hm (z ▸ h)
theorem Kp.del {F : List Addr} {μ : Mu} {a : Addr} (h : a ∈ F) : Kp F μ (μ.del a) := fun b hb _ => Mu.dne fun z => hb (z ▸ h)
theorem Kp.sub {F G : List Addr} {μ μ' : Mu} (k : Kp F μ μ') (h : ∀ a ∈ F, a ∈ G) : Kp G μ μ' := fun a ha hm => k a (fun z => ha (h a z)) hm
/-- two footprints that share nothing, and stand -/
def Ap (F G : List Addr) : Prop := ∀ a, a ∈ F → a ∉ G
def Hs (F : List Addr) (μ : Mu) : Prop := ∀ a, a ∈ F → μ a ≠ none
theorem Ap.symm {F G : List Addr} (h : Ap F G) : Ap G F := fun a h1 h2 => h a h2 h1
theorem Ap.step {F F' G : List Addr} {μ : Mu} (h : Ap F G) (hs : Hs G μ) (n : Nw F F' μ) : Ap F' G := fun a h1 h2 => (n a h1).elim (fun z => h a z h2) (hs a h2)
theorem Hs.step {F G : List Addr} {μ μ' : Mu} (hs : Hs G μ) (ap : Ap F G) (k : Kp F μ μ') : Hs G μ' := fun a h => by rw [k a (fun z => ap a z h) (hs a h)]; exact hs a h
theorem Kp.same {F G : List Addr} {μ μ' : Mu} (k : Kp F μ μ') (ap : Ap F G) (hs : Hs G μ) : ∀ a ∈ G, μ' a = μ a := fun a h => k a (fun z => ap a z h) (hs a h)
theorem Mu.set_comm {μ : Mu} {a b : Addr} {m n : MO} (h : a ≠ b) : (μ.set a m).set b n = (μ.set b n).set a m := by
  funext c; unfold Mu.set
  by_cases h1 : c = a <;> by_cases h2 : c = b <;> simp [h1, h2, h, Ne.symm h]
end VL

set_option maxRecDepth 100000
set_option maxHeartbeats 4000000
/-! values as trees: what readings come to, leaf by leaf -/
namespace VL
open PySem L2 FW PyProof.Rows
section
variable {μ : Mu} {Φ : WK} {x y : D} {ds es : List D}
theorem seqOf_lst : seqOf μ (.lst ds) = some ds := rfl
theorem seqOf_tup : seqOf μ (.tup ds) = some ds := rfl
theorem lstOf_lst : lstOf μ (.lst ds) = some ds := rfl
theorem tupOf_tup : tupOf (.tup ds) = some ds := rfl
theorem fzL_lst : fzL (.lst ds) = some ds := rfl
theorem ty_mem {t : String} (h : tyD μ x = some t) : t = "NoneType" ∨ t = "bool" ∨ t = "int" ∨ t = "str" ∨ t = "list" ∨ t = "tuple" ∨ t = "dict" := by
  cases x <;> simp [tyD] at h <;> first | (subst h; simp) | skip
  split at h <;> simp at h <;> subst h <;> simp
def Kd (μ : Mu) (x : D) : Prop := ∃ t, tyD μ x = some t
def isLst (μ : Mu) (x : D) : Bool := tyD μ x == some "list" || tyD μ x == some "tuple"
def isTy (μ : Mu) (x : D) (n : String) : Bool := tyD μ x == some n
theorem l_isi (n : String) (hk : Kd μ x) (hn : n = "str" ∨ n = "bool" := by first | exact .inl rfl | exact .inr rfl) (q : Φ (.bl (isTy μ x n)) μ) : vIsi [x, .ty n] μ Φ := by
  obtain ⟨t, ht⟩ := hk
  refine ⟨x, n, t, isTy μ x n, rfl, ht, ?_, q⟩
  unfold isTy; rw [ht]
  rcases hn with rfl | rfl <;> rcases ty_mem ht with rfl | rfl | rfl | rfl | rfl | rfl | rfl <;> decide +kernel
theorem l_isiInt (hk : Kd μ x) (q : Φ (.bl (isTy μ x "int" || isTy μ x "bool")) μ) : vIsi [x, .ty "int"] μ Φ := by
  obtain ⟨t, ht⟩ := hk
  refine ⟨x, "int", t, _, rfl, ht, ?_, q⟩
  unfold isTy; rw [ht]
  rcases ty_mem ht with rfl | rfl | rfl | rfl | rfl | rfl | rfl <;> decide +kernel
theorem l_isiSeq (hk : Kd μ x) (q : Φ (.bl (isLst μ x)) μ) : vIsiT [x, .tup [.ty "list", .ty "tuple"]] μ Φ := by
  obtain ⟨t, ht⟩ := hk
  refine ⟨x, ["list", "tuple"], t, isLst μ x, rfl, ht, ?_, q⟩
  unfold isLst; rw [ht]
  rcases ty_mem ht with rfl | rfl | rfl | rfl | rfl | rfl | rfl <;> decide +kernel
theorem l_len {n : Nat} (h : lenOf μ x = some n) (q : Φ (.int (n : Nat)) μ) : vLen [x] μ Φ := ⟨x, n, rfl, h, q⟩
theorem l_ix {k : Int} {d : D} (h : seqOf μ x = some ds) (e : atI ds k = some d) (q : Φ d μ) : vIx x (.int k) μ Φ := ⟨ds, k, d, h, rfl, e, q⟩
theorem l_eq {b neg : Bool} (h : eqD μ x y = some b) (q : Φ (.bl (if neg then !b else b)) μ) : vEq neg x y μ Φ := ⟨b, h, q⟩
theorem l_in {neg : Bool} (h : seqOf μ y = some ds) (hx : flatD x = true) (hd : ds.all flatD = true) (q : Φ (.bl (if neg then !inD x ds else inD x ds)) μ) : vIn neg x y μ Φ := ⟨ds, h, hx, hd, q⟩
end
/-! ### leaves, as equations -/
section
variable {μ : Mu} {Φ : WK} {x y : D} {ds es : List D} {neg : Bool}
theorem vLen_iff {n : Nat} (h : lenOf μ x = some n) : vLen [x] μ Φ ↔ Φ (.int (n : Nat)) μ :=
  ⟨fun ⟨z, m, e, h2, q⟩ => by cases e; rw [h] at h2; cases h2; exact q, fun q => ⟨x, n, rfl, h, q⟩⟩
theorem vLen_lst : vLen [.lst ds] μ Φ ↔ Φ (.int (ds.length : Nat)) μ := vLen_iff rfl
theorem vLen_tup : vLen [.tup ds] μ Φ ↔ Φ (.int (ds.length : Nat)) μ := vLen_iff rfl
theorem vEq_iff {b : Bool} (h : eqD μ x y = some b) : vEq neg x y μ Φ ↔ Φ (.bl (if neg = true then !b else b)) μ :=
  ⟨fun ⟨z, e, q⟩ => by rw [h] at e; cases e; exact q, fun q => ⟨b, h, q⟩⟩
theorem vEq_ii {i j : Int} : vEq neg (.int i) (.int j) μ Φ ↔ Φ (.bl (if neg = true then !decide (i = j) else decide (i = j))) μ := vEq_iff rfl
theorem vEq_ss {i j : Str} : vEq neg (.str i) (.str j) μ Φ ↔ Φ (.bl (if neg = true then !decide (i = j) else decide (i = j))) μ := vEq_iff rfl
theorem vEq_bb {i j : Bool} : vEq neg (.bl i) (.bl j) μ Φ ↔ Φ (.bl (if neg = true then !decide (i = j) else decide (i = j))) μ := vEq_iff rfl
theorem vIx_iff {k : Int} (h : seqOf μ x = some ds) : vIx x (.int k) μ Φ ↔ ∃ d, atI ds k = some d ∧ Φ d μ :=
  ⟨fun ⟨es, k, d, h1, h2, h3, q⟩ => by rw [h] at h1; cases h1; cases h2; exact ⟨d, h3, q⟩, fun ⟨d, h3, q⟩ => ⟨ds, k, d, h, rfl, h3, q⟩⟩
theorem vIx_lst {k : Int} : vIx (.lst ds) (.int k) μ Φ ↔ ∃ d, atI ds k = some d ∧ Φ d μ := vIx_iff rfl
theorem vIx_tup {k : Int} : vIx (.tup ds) (.int k) μ Φ ↔ ∃ d, atI ds k = some d ∧ Φ d μ := vIx_iff rfl
theorem vIn_iff (h : seqOf μ y = some ds) (hx : flatD x = true) (hd : ds.all flatD = true) : vIn neg x y μ Φ ↔ Φ (.bl (if neg = true then !inD x ds else inD x ds)) μ :=
  ⟨fun ⟨es, h1, _, _, q⟩ => by rw [h] at h1; cases h1; exact q, fun q => ⟨ds, h, hx, hd, q⟩⟩
theorem inD_strs (w : Str) : ∀ ws : List Str, inD (.str w) (ws.map D.str) = ws.contains w
  | [] => rfl
  | z :: ws => by
    have ih := inD_strs w ws
    unfold inD at ih ⊢
    rw [List.map_cons, List.any_cons, ih, List.contains_cons]
    congr 1
    show (z == w) = (w == z)
    by_cases e : z = w
    · rw [e]
    · rw [beq_eq_false_iff_ne.mpr e, beq_eq_false_iff_ne.mpr (Ne.symm e)]
theorem flat_strs (ws : List Str) : (ws.map D.str).all flatD = true := List.all_eq_true.mpr fun x hx => by obtain ⟨z, _, rfl⟩ := List.mem_map.mp hx; rfl
theorem vIn_strs {w : Str} {ws : List Str} : vIn neg (.str w) (.tup (ws.map D.str)) μ Φ ↔ Φ (.bl (if neg = true then !ws.contains w else ws.contains w)) μ := by
  rw [← inD_strs]; exact vIn_iff rfl rfl (flat_strs ws)
theorem vIn_s2 {w a b : Str} : vIn neg (.str w) (.tup [.str a, .str b]) μ Φ ↔ Φ (.bl (if neg = true then !(w == a || w == b) else (w == a || w == b))) μ := by
  have h := vIn_strs (neg := neg) (w := w) (ws := [a, b]) (μ := μ) (Φ := Φ)
  have e : List.contains [a, b] w = (w == a || w == b) := by simp only [List.contains_cons, List.contains_nil, Bool.or_false]
  rw [e] at h; exact h
theorem vIn_s3 {w a b c : Str} : vIn neg (.str w) (.tup [.str a, .str b, .str c]) μ Φ ↔ Φ (.bl (if neg = true then !(w == a || (w == b || w == c)) else (w == a || (w == b || w == c)))) μ := by
  have h := vIn_strs (neg := neg) (w := w) (ws := [a, b, c]) (μ := μ) (Φ := Φ)
  have e : List.contains [a, b, c] w = (w == a || (w == b || w == c)) := by simp only [List.contains_cons, List.contains_nil, Bool.or_false]
  rw [e] at h; exact h
theorem vAll_map {an : Bool} {f : D → Bool} : vAll an [.lst (ds.map fun r => .bl (f r))] μ Φ ↔ Φ (.bl (if an = true then ds.any f else ds.all f)) μ := by
  have e0 : (ds.map fun r => D.bl (f r)) = (ds.map f).map D.bl := by rw [List.map_map]; rfl
  have e1 : (if an = true then (ds.map f).any id else (ds.map f).all id) = (if an = true then ds.any f else ds.all f) := by cases an <;> simp [List.any_map, List.all_map, Function.comp_def]
  constructor
  · rintro ⟨x, bs, e, h, q⟩
    cases e
    have e2 : ds.map f = bs := by
      have h2 : (ds.map f).map D.bl = bs.map D.bl := by
        rcases h with h | h
        · rw [← e0]; exact Option.some.inj h
        · rw [← e0]; exact Option.some.inj h
      have inj : ∀ {xs ys : List Bool}, xs.map D.bl = ys.map D.bl → xs = ys := by
        intro xs
        induction xs with
        | nil => intro ys h; cases ys with | nil => rfl | cons _ _ => cases h
        | cons x xs ih => intro ys h; cases ys with
          | nil => cases h
          | cons y ys =>
            simp only [List.map_cons, List.cons.injEq, D.bl.injEq] at h
            rw [h.1, ih h.2]
      exact inj h2
    rw [← e2, e1] at q
    exact q
  · intro q
    exact ⟨_, ds.map f, rfl, .inl (by rw [← e0]; rfl), by rw [e1]; exact q⟩
theorem vInK_s {ps : List (Str × V × D)} {d : Addr} {z : Str} : vInK ps d neg (.str z) (.ref d) μ Φ ↔ Φ (.bl (if neg = true then !(ps.lookup z).isSome else (ps.lookup z).isSome)) μ :=
  ⟨fun ⟨y, e, _, q⟩ => by cases e; exact q, fun q => ⟨z, rfl, rfl, q⟩⟩
theorem vIxK_s {ps : List (Str × V × D)} {d : Addr} {z : Str} : vIxK ps d (.ref d) (.str z) μ Φ ↔ ∃ p, ps.lookup z = some p ∧ Φ p.2 μ :=
  ⟨fun ⟨y, p, _, e, h, q⟩ => by cases e; exact ⟨p, h, q⟩, fun ⟨p, h, q⟩ => ⟨z, p, rfl, rfl, h, q⟩⟩
theorem vInt_i {i : Int} : vInt1 [.int i] μ Φ ↔ Φ (.int i) μ := Iff.rfl
theorem vAbs_i {i : Int} : vAbs [.int i] μ Φ ↔ Φ (.int (if i < 0 then -i else i)) μ := ⟨fun ⟨j, e, q⟩ => by cases e; exact q, fun q => ⟨i, rfl, q⟩⟩
theorem vSet_iff {a : Addr} {k : Int} {d : D} {Ψ : Mu → Prop} (h : μ a = some (.lst ds)) : vSetL (.ref a) (.int k) d μ Ψ ↔ ∃ j, ixN ds.length k = some j ∧ Ψ (μ.set a (.lst (ds.set j d))) :=
  ⟨fun ⟨b, es, k2, j, e1, e2, h1, h2, q⟩ => by cases e1; cases e2; rw [h] at h1; cases h1; exact ⟨j, h2, q⟩, fun ⟨j, h2, q⟩ => ⟨a, ds, k, j, rfl, rfl, h, h2, q⟩⟩
theorem vApp_iff {a : Addr} {d : D} (h : μ a = some (.lst ds)) : vAppend (.ref a) [d] μ Φ ↔ ds.length < sizeLine ∧ Φ .non (μ.set a (.lst (ds ++ [d]))) :=
  ⟨fun ⟨b, es, d2, e1, e2, h1, h2, q⟩ => by cases e1; cases e2; rw [h] at h1; cases h1; exact ⟨h2, q⟩, fun ⟨h2, q⟩ => ⟨a, ds, d, rfl, rfl, h, h2, q⟩⟩
theorem vPop_iff {a : Addr} (h : μ a = some (.lst ds)) : vPop (.ref a) [] μ Φ ↔ ∃ d, ds[ds.length - 1]? = some d ∧ Φ d (μ.set a (.lst ds.dropLast)) :=
  ⟨fun ⟨b, es, d2, e1, e2, h1, h2, q⟩ => by cases e1; rw [h] at h1; cases h1; exact ⟨d2, h2, q⟩, fun ⟨d, h2, q⟩ => ⟨a, ds, d, rfl, rfl, h, h2, q⟩⟩
theorem set_none {a b : Addr} {m : MO} (h : (μ.set a m) b = none) : b ≠ a ∧ μ b = none := by
  by_cases e : b = a
  · rw [e, Mu.same] at h; cases h
  · rw [Mu.ne e] at h; exact ⟨e, h⟩
theorem vRepM_iff {n : Int} (h : lstOf μ x = some ds) (h1 : -(2 ^ 63) ≤ n) (h2 : n < 2 ^ 63) (h3 : ds.length * n.toNat ≤ sizeLine) : vRepM x (.int n) μ Φ ↔ ∀ p, μ p = none → Φ (.ref p) (μ.set p (.lst (List.replicate n.toNat ds).flatten)) :=
  ⟨fun ⟨es, k, e1, e2, _, _, _, q⟩ => by rw [h] at e1; cases e1; cases e2; exact q, fun q => ⟨ds, n, h, rfl, h1, h2, h3, q⟩⟩
theorem vListM_iff (h : seqOf μ x = some ds) : vListOfM [x] μ Φ ↔ ∀ p, μ p = none → Φ (.ref p) (μ.set p (.lst ds)) :=
  ⟨fun ⟨y, es, e, h1, q⟩ => by cases e; rw [h] at h1; cases h1; exact q, fun q => ⟨x, ds, rfl, h, q⟩⟩
theorem ixN_nat {m n : Nat} (h : n < m) : ixN m (n : Int) = some n := by
  unfold ixN
  rw [if_pos (by omega), if_pos (by omega)]
  simp
theorem okM_iff {a : Addr} (h : μ a = some (.lst ds)) : okM (.ref a) μ ↔ True := ⟨fun _ => trivial, fun _ => ⟨a, ds, rfl, h⟩⟩
theorem atI_0 {α : Type} {x : α} {xs : List α} : atI (x :: xs) 0 = some x := atI_nat (j := 0) rfl
theorem atI_1 {α : Type} {x y : α} {xs : List α} : atI (x :: y :: xs) 1 = some y := atI_nat (j := 1) rfl
theorem atI_2 {α : Type} {x y z : α} {xs : List α} : atI (x :: y :: z :: xs) 2 = some z := atI_nat (j := 2) rfl
theorem lenOf_seqOf (h : seqOf μ x = some es) : lenOf μ x = some es.length := by
  cases x with
  | ref a => exact lenOf_of (seqOf_ref h)
  | lst es => cases h; rfl
  | tup es => cases h; rfl
  | sq es => cases h; rfl
  | _ => cases h
end
/-! ### a list or a tuple that stays, walked -/
section
variable {X : Cx} {T : List (Addr × Str)} {E : XK} {tg iter : Expr}
def iSeq (K : PySem.W.Frag) (tl : TE) : TI := fun σ H R => tl σ H fun v H1 => ∃ a, v = .ref a ∧ ((∃ xs, SqL K H1 a xs) ∧ R (Itl K a) H1 ∨ (∃ xs, SqT K H1 a xs) ∧ R (Itt K a) H1)
theorem pi_seq {l : Expr} {tl : TE} (hl : PE X l tl) : PI X tg l (iSeq X.K tl) := by
  refine ⟨fun pins s σ H R I h => ?_⟩
  refine thn (hl.run pins s σ H _ I h) fun v s1 ⟨x, H1, I1, r1, q1⟩ => ?_
  obtain ⟨a, e, q | q⟩ := q1
  · obtain ⟨⟨xs, hq⟩, q⟩ := q
    subst e
    cases r1
    obtain ⟨its, rv, p, hz⟩ := I1.list hq
    refine wpAny_pyIter_list p.isList ?_
    refine ⟨s1.heap.objs.size, [s1.heap.objs.size], _, _, H1, rfl, I1.kept (t' := s1.toks) fun b o e => Heap.get?_push_of_some _ e, turn_list a _, ⟨_, Heap.get?_push_size _ rfl, rfl, rfl⟩, fun b hb => ?_, q⟩
    have e : b = s1.heap.objs.size := by simpa using hb
    subst e
    exact I1.fpOk (Nat.le_refl _) (I1.hok.fresh (Nat.le_refl _))
  · obtain ⟨⟨xs, hq⟩, q⟩ := q
    subst e
    cases r1
    obtain ⟨its, rv, p, hz⟩ := I1.tuple hq
    refine wpAny_pyIter_tuple (show s1.heap.IsTuple a its.toArray from p) ?_
    refine ⟨s1.heap.objs.size, [s1.heap.objs.size], _, _, H1, rfl, I1.kept (t' := s1.toks) fun b o e => Heap.get?_push_of_some _ e, turn_tuple a _, ⟨_, Heap.get?_push_size _ rfl, rfl, rfl⟩, fun b hb => ?_, q⟩
    have e : b = s1.heap.objs.size := by simpa using hb
    subst e
    exact I1.fpOk (Nat.le_refl _) (I1.hok.fresh (Nat.le_refl _))
def iwS (w : WE) : WI := fun ρ μ ev Ψ => w ρ μ ev fun d μ1 => ∃ ds, (fzL d = some ds ∨ tupOf d = some ds) ∧ Ψ ds noP μ1
theorem vi_seq {w : WE} (h : PE X iter (up X.K T E w)) : PI X tg iter (upI X.K T E (iwS w)) :=
  pi_mono (pi_seq h) fun σ H R ⟨ρ, μ, ev, Ψ, en, st, xo, h, k⟩ => ⟨ρ, μ, ev, _, en, st, xo, h, fun d μ1 v H1 ⟨ds, e, q⟩ iv st1 s1 => by
    rcases e with e | e
    · obtain ⟨a, vs, rfl, at_, ia⟩ := fzL_is iv e
      refine ⟨a, rfl, .inl ⟨⟨vs, at_.sq⟩, k ds _ μ1 _ H1 q st1 s1 fun μ2 H2 s2 st2 _ i => ⟨fun x hx => ?_, fun hl => ⟨vs, (at_.step s2).sq, by rw [ia.len]; exact hl⟩⟩⟩⟩
      obtain ⟨u, e1, e2⟩ := (ia.step s2).get hx
      exact ⟨⟨vs, u, (at_.step s2).sq, e1⟩, fun y H3 ⟨z1, z2⟩ => by subst z1; have := z2 vs (at_.step s2).sq; rw [e1] at this; cases this; exact ⟨e2, st2, Step.refl _ _⟩⟩
    · obtain ⟨a, vs, rfl, at_, ia⟩ := tupOf_is iv e
      refine ⟨a, rfl, .inr ⟨⟨vs, at_.sq⟩, k ds _ μ1 _ H1 q st1 s1 fun μ2 H2 s2 st2 _ i => ⟨fun x hx => ?_, fun hl => ⟨vs, (at_.step s2).sq, by rw [ia.len]; exact hl⟩⟩⟩⟩
      obtain ⟨u, e1, e2⟩ := (ia.step s2).get hx
      exact ⟨⟨vs, u, (at_.step s2).sq, e1⟩, fun y H3 ⟨z1, z2⟩ => by subst z1; have := z2 vs (at_.step s2).sq; rw [e1] at this; cases this; exact ⟨e2, st2, Step.refl _ _⟩⟩⟩
end
/-! ### comprehensions without a trace -/
theorem lcW_map {p : Pat} {w : WE} {vs : List Nat} {ρ : Ro} {ev : EV} {Ds : Addr} {Φ : WK} {g : D → D} {μ : Mu} : ∀ (ds acc : List D), acc.length + ds.length ≤ sizeLine →
    (∀ d ∈ ds, ∃ ρ1, p.bind d (wipeR ρ vs) = some ρ1 ∧ ∀ l (Ψ : WK), Ψ (g d) (μ.set Ds (.lst l)) → w ρ1 (μ.set Ds (.lst l)) ev Ψ) → Φ (.ref Ds) (μ.set Ds (.lst (acc ++ ds.map g))) → lcW noP p wYes w vs ρ ev Ds Φ ds (μ.set Ds (.lst acc))
  | [], acc, _, _, q => ⟨trivial, by simpa using q⟩
  | d :: ds, acc, hl, h, q => by
    obtain ⟨ρ1, e, hw⟩ := h d (List.mem_cons_self ..)
    refine ⟨trivial, ρ1, e, ?_⟩
    simp only [wYes, if_true]
    refine hw acc _ ⟨acc, Mu.same, by simp only [List.length_cons] at hl; omega, ?_⟩
    rw [Mu.set_set]
    refine lcW_map ds (acc ++ [g d]) (by simp only [List.length_append, List.length_cons, List.length_nil] at hl ⊢; omega) (fun d hd => h d (List.mem_cons_of_mem _ hd)) ?_
    rw [List.append_assoc]; exact q
/-- frozen at once -/
theorem lcz {p : Pat} {w : WE} {vs : List Nat} {ρ : Ro} {ev : EV} {Φ : WK} (g : D → D) {μ : Mu} {ds : List D} (hl : ds.length ≤ sizeLine)
    (h : ∀ d ∈ ds, ∃ ρ1, p.bind d (wipeR ρ vs) = some ρ1 ∧ ∀ Ds l (Ψ : WK), μ Ds = none → Ψ (g d) (μ.set Ds (.lst l)) → w ρ1 (μ.set Ds (.lst l)) ev Ψ) (q : Φ (.lst (ds.map g)) μ) :
    ∀ Ds, μ Ds = none → lcW noP p wYes w vs ρ ev Ds (fun d μ1 => ∃ a t, d = .ref a ∧ frzOf μ1 a = some t ∧ Φ t (μ1.del a)) ds (μ.set Ds (.lst [])) := fun Ds nD =>
  lcW_map (g := g) ds [] (by simpa using hl) (fun d hd => by obtain ⟨ρ1, e, hw⟩ := h d hd; exact ⟨ρ1, e, fun l Ψ q => hw Ds l Ψ nD q⟩)
    ⟨Ds, _, rfl, frzOf_lst Mu.same, by rw [Mu.del_set nD]; exact q⟩
/-- left to change -/
theorem lcm {p : Pat} {w : WE} {vs : List Nat} {ρ : Ro} {ev : EV} {Φ : WK} (g : D → D) {μ : Mu} {ds : List D} (hl : ds.length ≤ sizeLine)
    (h : ∀ d ∈ ds, ∃ ρ1, p.bind d (wipeR ρ vs) = some ρ1 ∧ ∀ Ds l (Ψ : WK), μ Ds = none → Ψ (g d) (μ.set Ds (.lst l)) → w ρ1 (μ.set Ds (.lst l)) ev Ψ) (q : ∀ Ds, μ Ds = none → Φ (.ref Ds) (μ.set Ds (.lst (ds.map g)))) :
    ∀ Ds, μ Ds = none → lcW noP p wYes w vs ρ ev Ds Φ ds (μ.set Ds (.lst [])) := fun Ds nD =>
  lcW_map (g := g) ds [] (by simpa using hl) (fun d hd => by obtain ⟨ρ1, e, hw⟩ := h d hd; exact ⟨ρ1, e, fun l Ψ q => hw Ds l Ψ nD q⟩) (q Ds nD)
/-- what no one calls is promised at every level -/
theorem canV_no {P : Program} {w : World} {K : PySem.W.Frag} {mg : Str → Option Value} {base : Heap} {CX : CXT} {T : List (Addr × Str)} {k n : Nat} {f : Addr} {ks : List Str} {as : List Arg} {sp' : VSp} (hn : ∀ ds μ ev Φ, ¬ sp' ds μ ev Φ) (ok : ∀ a ∈ as, a.Ok K (n + ks.length))
    (h : ∃ (fd : FuncData) (ps : List Str) (g : List Value → List Value → List Value), PySem.W.keepIn K (.ref f) = true ∧ KBn K fd ps n ks g (argsV as)) : CanV P w K mg base CX T k f n ks as sp' := by
  obtain ⟨fd, ps, g, kp, b⟩ := h
  exact ⟨⟨fd, ps, g, ⟨fun vs H Q E ⟨ds, μ, ev, Φ, _, _, _, h, _⟩ => (hn _ _ _ _ h).elim, fun _ _ _ _ _ _ _ _ _ _ _ _ _ _ ⟨ds, μ, ev, Φ, _, _, _, h, _⟩ => (hn _ _ _ _ h).elim⟩, kp, b⟩, ok⟩
end VL

set_option maxRecDepth 100000
set_option maxHeartbeats 4000000
namespace VL
open PySem L2 FW PyProof.Rows
/-! ### an object whose parts are laid one by one -/
structure Bd (μ0 : Mu) (old : List Addr) (μ : Mu) (c : Addr) (X : MO) (L : List (Addr × MO)) : Prop where
  at_c : μ c = some X
  all : ∀ q ∈ L, μ q.1 = some q.2
  kp : Kp [c] μ0 μ
  nd : (c :: L.map (·.1)).Nodup
  nw : ∀ q ∈ L, q.1 ∈ old ∨ μ0 q.1 = none
section
variable {μ0 μ : Mu} {old : List Addr} {c p : Addr} {X Y m : MO} {L : List (Addr × MO)}
theorem Bd.setc (b : Bd μ0 old μ c X L) : Bd μ0 old (μ.set c Y) c Y L := ⟨Mu.same, fun q hq => by
  have hn := (List.nodup_cons.mp b.nd).1
  rw [Mu.ne fun e => hn (by rw [← e]; exact List.mem_map.mpr ⟨q, hq, rfl⟩)]
  exact b.all q hq, b.kp.trans Nw.refl (Kp.set (List.mem_singleton.mpr rfl)), b.nd, b.nw⟩
theorem Bd.new (b : Bd μ0 old μ c X L) (h : μ p = none) : Bd μ0 old (μ.set p m) c X ((p, m) :: L) := by
  have pc : p ≠ c := fun e => by rw [e, b.at_c] at h; cases h
  have pl : ∀ q ∈ L, q.1 ≠ p := fun q hq e => by have := b.all q hq; rw [e, h] at this; cases this
  refine ⟨by rw [Mu.ne (Ne.symm pc)]; exact b.at_c, fun q hq => ?_, fun a ha hm => ?_, ?_, fun q hq => ?_⟩
  · rcases List.mem_cons.mp hq with rfl | hq
    · exact Mu.same
    · rw [Mu.ne (pl q hq)]; exact b.all q hq
  · have e := b.kp a ha hm
    rw [Mu.ne fun z => by rw [z, h] at e; rw [z] at hm; exact hm e.symm]
    exact e
  · rw [List.map_cons, List.nodup_cons]
    have nd := List.nodup_cons.mp b.nd
    refine ⟨fun hc => ?_, List.nodup_cons.mpr ⟨fun hc => ?_, nd.2⟩⟩
    · rcases List.mem_cons.mp hc with e | hc
      · exact pc e.symm
      · exact nd.1 hc
    · obtain ⟨q, hq, e⟩ := List.mem_map.mp hc
      exact pl q hq e
  · rcases List.mem_cons.mp hq with rfl | hq
    · refine .inr ?_
      by_cases hm : μ0 p = none
      · exact hm
      · have e := b.kp p (by simpa using pc) hm
        rw [h] at e; exact absurd e.symm hm
    · exact b.nw q hq
end
theorem forW_inv {P : Mu → Prop} {g : WG} {b : WS} {DD : VEnds} {ev : EV} {ds : List D} (Inv : Nat → Ro → Mu → Prop)
    (hs : ∀ i d, ds[i]? = some d → ∀ (N : Ro → Mu → Prop) ρ μ, (∀ ρ' μ', Inv (i + 1) ρ' μ' → N ρ' μ') → Inv i ρ μ → P μ ∧ g d ρ μ ev fun ρ' μ' => b { DD with nx := N, ct := N, bk := DD.nx } ρ' μ' ev)
    (hd : ∀ ρ μ, Inv ds.length ρ μ → P μ ∧ DD.nx ρ μ) {ρ : Ro} {μ : Mu} (h0 : Inv 0 ρ μ) : forW P g b DD ev ds ρ μ := by
  have go : ∀ (m i : Nat) (ρ : Ro) (μ : Mu), ds.length - i = m → i ≤ ds.length → Inv i ρ μ → forW P g b DD ev (ds.drop i) ρ μ := by
    intro m
    induction m with
    | zero =>
      intro i ρ μ hm hi h
      have : i = ds.length := by omega
      subst this
      rw [List.drop_length]
      exact hd ρ μ h
    | succ m ih =>
      intro i ρ μ hm hi h
      have hl : i < ds.length := by omega
      rw [List.drop_eq_getElem_cons hl]
      exact hs i ds[i] (by simp [hl]) _ ρ μ (fun ρ' μ' h' => ih (i + 1) ρ' μ' (by omega) (by omega) h') h
  have := go ds.length 0 ρ μ (by omega) (Nat.zero_le _) h0
  simpa using this
theorem range_get {n i : Nat} {d : D} (h : ((List.range n).map fun k => D.int (k : Nat))[i]? = some d) : i < n ∧ d = .int (i : Nat) := by
  rw [List.getElem?_map] at h
  by_cases hi : i < n
  · rw [List.getElem?_range hi] at h; cases h; exact ⟨hi, rfl⟩
  · rw [List.getElem?_eq_none (by rw [List.length_range]; omega)] at h; cases h
theorem CanV.mono {P : Program} {w : World} {K : PySem.W.Frag} {mg : Str → Option Value} {base : Heap} {CX : CXT} {T : List (Addr × Str)} {k j n : Nat} {f : Addr} {ks : List Str} {as : List Arg} {sp : VSp} (c : CanV P w K mg base CX T k f n ks as sp) (h : k ≤ j) : CanV P w K mg base CX T j f n ks as sp := by
  obtain ⟨⟨fd, ps, g, F, kp, b⟩, ok⟩ := c
  exact ⟨⟨fd, ps, g, ⟨F.size, fun A outer s H args us vs Q E hG hr => F.goes A outer s H args us vs Q E hG (hr.mono h)⟩, kp, b⟩, ok⟩
theorem held2 {P : Program} {w : World} {K : PySem.W.Frag} {mg : Str → Option Value} {base : Heap} {T : List (Addr × Str)} {k j : Nat} {f : Addr} {sp : VSp} (c : CanV P w K mg base CX0 T k f 2 [] ([.inl 0, .inl 1].map (toArg [] [])) sp) (h : k ≤ j) : HeldV P w K mg base T j f 2 sp :=
  ⟨_, c.mono h, fun ds hl => match ds, hl with | [_, _], _ => rfl⟩
end VL

set_option maxRecDepth 100000
set_option maxHeartbeats 4000000
/-! values as trees: texts told apart, comprehensions with a test, a changing list's places -/
namespace VL
open PySem L2 FW PyProof.Rows
/-! ### written texts told apart -/
theorem ofStr_inj (a b : String) : (Str.ofString a = Str.ofString b) = (a = b) := by
  refine propext ⟨fun h => ?_, fun h => by rw [h]⟩
  rw [Str.ofString_eq_toList, Str.ofString_eq_toList] at h
  have h1 : (a.toList.map Char.toNat) = (b.toList.map Char.toNat) := by simpa using h
  have inj : Function.Injective Char.toNat := fun c d e => Char.ext (UInt32.toNat_inj.mp e)
  have h2 : a.toList = b.toList := List.map_inj_right (fun c d e => inj e) |>.mp h1
  exact String.toList_inj.mp h2
theorem ofStr_beq (a b : String) : (Str.ofString a == Str.ofString b) = decide (a = b) := by
  rw [Bool.eq_iff_iff, beq_iff_eq, decide_eq_true_eq, ofStr_inj]
/-! ### the rest of a division by any number but 0 -/
def vModN : V2 := vI (fun _ j => j ≠ 0) fun i j => .int (i.fmod j)
theorem s_modN {K : PySem.W.Frag} {T : List (Addr × Str)} : Sim2 K T (rI (fun _ j => j ≠ 0) fun i j => .int (i.fmod j)) vModN := sim_I fun _ _ _ _ => .int _
/-! ### comprehensions with a test -/
theorem lcW_filt {P : Mu → Prop} {p : Pat} {t : WT} {w : WE} {vs : List Nat} {ρ : Ro} {ev : EV} {Ds : Addr} {Φ : WK} {f : D → Bool} {g : D → D} {μ : Mu} (hP : ∀ l, P (μ.set Ds (.lst l))) : ∀ (ds acc : List D), acc.length + ds.length ≤ sizeLine →
    (∀ d ∈ ds, ∃ ρ1, p.bind d (wipeR ρ vs) = some ρ1 ∧ ∀ l, (∀ Ψ : Bool → Mu → Prop, Ψ (f d) (μ.set Ds (.lst l)) → t ρ1 (μ.set Ds (.lst l)) ev Ψ) ∧ (f d = true → ∀ Ψ : WK, Ψ (g d) (μ.set Ds (.lst l)) → w ρ1 (μ.set Ds (.lst l)) ev Ψ)) →
    Φ (.ref Ds) (μ.set Ds (.lst (acc ++ (ds.filter f).map g))) → lcW P p t w vs ρ ev Ds Φ ds (μ.set Ds (.lst acc))
  | [], acc, _, _, q => ⟨hP _, by simpa using q⟩
  | d :: ds, acc, hl, h, q => by
    obtain ⟨ρ1, e, hw⟩ := h d (List.mem_cons_self ..)
    refine ⟨hP _, ρ1, e, ?_⟩
    refine (hw acc).1 _ ?_
    cases hf : f d with
    | true =>
      rw [if_pos rfl]
      refine (hw acc).2 hf _ ⟨acc, Mu.same, by simp only [List.length_cons] at hl; omega, ?_⟩
      rw [Mu.set_set]
      refine lcW_filt hP ds (acc ++ [g d]) (by simp only [List.length_append, List.length_cons, List.length_nil] at hl ⊢; omega) (fun d hd => h d (List.mem_cons_of_mem _ hd)) ?_
      rw [List.append_assoc]
      rw [List.filter_cons, hf, if_pos rfl, List.map_cons] at q
      exact q
    | false =>
      rw [if_neg (by simp)]
      refine lcW_filt hP ds acc (by simp only [List.length_cons] at hl; omega) (fun d hd => h d (List.mem_cons_of_mem _ hd)) ?_
      rw [List.filter_cons, hf, if_neg (by simp)] at q
      exact q
/-- frozen at once -/
theorem lcf {P : Mu → Prop} {p : Pat} {t : WT} {w : WE} {vs : List Nat} {ρ : Ro} {ev : EV} {Φ : WK} (f : D → Bool) (g : D → D) {μ : Mu} {ds : List D} (hl : ds.length ≤ sizeLine) (hP : ∀ Ds l, μ Ds = none → P (μ.set Ds (.lst l)))
    (h : ∀ d ∈ ds, ∃ ρ1, p.bind d (wipeR ρ vs) = some ρ1 ∧ ∀ Ds l, μ Ds = none → (∀ Ψ : Bool → Mu → Prop, Ψ (f d) (μ.set Ds (.lst l)) → t ρ1 (μ.set Ds (.lst l)) ev Ψ) ∧ (f d = true → ∀ Ψ : WK, Ψ (g d) (μ.set Ds (.lst l)) → w ρ1 (μ.set Ds (.lst l)) ev Ψ)) (q : ∀ Ds, μ Ds = none → Φ (.ref Ds) (μ.set Ds (.lst ((ds.filter f).map g)))) :
    ∀ Ds, μ Ds = none → lcW P p t w vs ρ ev Ds Φ ds (μ.set Ds (.lst [])) := fun Ds nD =>
  lcW_filt (f := f) (g := g) (fun l => hP Ds l nD) ds [] (by simpa using hl) (fun d hd => by obtain ⟨ρ1, e, hw⟩ := h d hd; exact ⟨ρ1, e, fun l => hw Ds l nD⟩) (q Ds nD)
theorem lcW_mapP {P : Mu → Prop} {p : Pat} {w : WE} {vs : List Nat} {ρ : Ro} {ev : EV} {Φ : WK} (g : D → D) {μ : Mu} {ds : List D} (hl : ds.length ≤ sizeLine) (hP : ∀ Ds l, μ Ds = none → P (μ.set Ds (.lst l)))
    (h : ∀ d ∈ ds, ∃ ρ1, p.bind d (wipeR ρ vs) = some ρ1 ∧ ∀ Ds l (Ψ : WK), μ Ds = none → Ψ (g d) (μ.set Ds (.lst l)) → w ρ1 (μ.set Ds (.lst l)) ev Ψ) (q : ∀ Ds, μ Ds = none → Φ (.ref Ds) (μ.set Ds (.lst (ds.map g)))) :
    ∀ Ds, μ Ds = none → lcW P p wYes w vs ρ ev Ds Φ ds (μ.set Ds (.lst [])) :=
  lcf (fun _ => true) g hl hP (fun d hd => by
    obtain ⟨ρ1, e, hw⟩ := h d hd
    exact ⟨ρ1, e, fun Ds l nD => ⟨fun Ψ q => q, fun _ Ψ q => hw Ds l Ψ nD q⟩⟩) (fun Ds nD => by rw [List.filter_eq_self.mpr fun _ _ => rfl]; exact q Ds nD)
/-! ### enumerate, a list that may change -/
def iwEM (w : WA) : WI := fun ρ μ ev Ψ => w ρ μ ev fun xs μ1 => ∃ a ds, xs = [.ref a] ∧ μ1 a = some (.lst ds) ∧ Ψ (enumD ds) (fun μ' => μ' a = some (.lst ds)) μ1
section
variable {X : Cx} {T : List (Addr × Str)} {E : XK}
theorem vi_enumM {e : Expr} {w : WA} {p pos tpos : Pos} {elts : List Expr} {kk : Nat} (hg : Gl X "enumerate") (hm : X.mg "enumerate" = none) (h : PA X [e] (upA X.K T E w)) (hs : starEach [e] X.env = [(false, eval e X.env)] := by rfl) : PI X (.Tuple elts kk tpos) (.Call (.Name "enumerate" p) [e] [] pos) (upI X.K T E (iwEM w)) :=
  pi_mono (pi_enum hg hm h hs) fun σ H R ⟨ρ, μ, ev, Ψ, en, st, xo, h, k⟩ => ⟨ρ, μ, ev, _, en, st, xo, h, fun xs μ1 us H1 ⟨a, ds, e, hm, q⟩ iv st1 s1 => by
    subst e
    cases iv with
    | cons ix b =>
      cases b
      cases ix
      obtain ⟨vs, h1, ia⟩ := st1.mo _ _ hm
      refine ⟨a, vs, rfl, SqL.of h1, k _ _ μ1 _ H1 q st1 s1 fun μ2 H2 s2 st2 hp i => ?_⟩
      obtain ⟨us, h2, ib⟩ := st2.mo _ _ hp
      refine ⟨fun d hd => ?_, fun hl => ⟨us, SqL.of h2, by rw [ib.len]; unfold enumD at hl; rw [List.length_map, List.length_zipIdx] at hl; exact hl⟩⟩
      obtain ⟨z, hz, rfl⟩ := enumD_get hd
      obtain ⟨u, e1, e2⟩ := ib.get hz
      refine ⟨⟨us, u, SqL.of h2, e1⟩, fun y H3 ⟨Tp, x', hy, nT, hH, hv⟩ => ?_⟩
      subst hy hH
      have := hv us (SqL.of h2)
      rw [e1] at this; cases this
      have ss := step_new (μ := μ2) (o := .tup [.int (i : Nat), u]) nT (st2.free nT)
      exact ⟨.tup (.inl ⟨st2.free nT, upd_same⟩) (.cons (.int _) (.cons (e2.step ss) .nil)), st2.new nT, ss⟩⟩
end
end VL

set_option maxRecDepth 100000
set_option maxHeartbeats 4000000
/-! values as trees: what stays, shorter said -/
namespace VL
open PySem L2 FW PyProof.Rows
theorem Kp.setN {F : List Addr} {μ μ' : Mu} {f : Addr} {m : MO} (k : Kp F μ μ') (h : μ f = none) : Kp F μ (μ'.set f m) := fun x hx hm => by
  rw [Mu.ne fun e => hm (by rw [e]; exact h)]; exact k x hx hm
theorem Kp.delN {F : List Addr} {μ μ' : Mu} {f : Addr} (k : Kp F μ μ') (h : μ f = none) : Kp F μ (μ'.del f) := fun x hx hm => by
  rw [Mu.dne fun e => hm (by rw [e]; exact h)]; exact k x hx hm
theorem Kp.at_ {F : List Addr} {μ μ' : Mu} {x : Addr} {m : MO} (k : Kp F μ μ') (h : μ x = some m) (n : x ∉ F) : μ' x = some m := by rw [k x n (by rw [h]; exact nofun)]; exact h
/-- what was free ahead, behind something that kept all but F -/
theorem Kp.free {F : List Addr} {μ μ' : Mu} {x : Addr} (k : Kp F μ μ') (h : μ' x = none) (n : x ∉ F) : μ x = none := by
  by_cases hm : μ x = none
  · exact hm
  · rw [← k x n hm]; exact h
theorem Kp.up {F G : List Addr} {μ μ1 μ2 : Mu} (k : Kp F μ μ1) (k2 : Kp G μ1 μ2) (h : ∀ x ∈ G, x ∈ F ∨ μ x = none) : Kp F μ μ2 := fun x hx hm => by
  have e := k x hx hm
  rw [k2 x (fun z => (h x z).elim hx hm) (by rw [e]; exact hm), e]
theorem Mu.new_ne {μ : Mu} {f x : Addr} {m : MO} (h : μ f = none) (e : μ x = some m) : x ≠ f := fun z => by rw [z, h] at e; cases e
theorem vAddA_ll {μ : Mu} {Φ : WK} {ds es : List D} : vAddA (.lst ds) (.lst es) μ Φ ↔ ds.length + es.length ≤ sizeLine ∧ Φ (.lst (ds ++ es)) μ :=
  ⟨fun ⟨xs, ys, e1, e2, h, q⟩ => by cases e1; cases e2; exact ⟨h, q⟩, fun ⟨h, q⟩ => ⟨_, _, rfl, rfl, h, q⟩⟩
end VL

set_option maxRecDepth 100000
set_option maxHeartbeats 4000000
/-! values as trees: how long what repr shows is, by weight; what is new -/
namespace VL
open PySem L2 FW PyProof.Rows
mutual
def wt : PyData → Nat
  | .int _ => 1921
  | .list xs => wts xs + 4
  | .tuple xs => wts xs + 4
  | .none => 4
  | .bool _ => 5
  | .str s => (reprText s).length
  | .dict kvs => (dictText (PyData.shownKv kvs)).length
def wts : List PyData → Nat
  | [] => 0
  | x :: xs => wt x + 2 + wts xs
end
theorem text_piled : ∀ (ts : List Str) (k : Nat) (acc : Str), (textFrom k acc ts).length ≤ acc.length + piled ts
  | [], k, acc => by show acc.length ≤ _; omega
  | t :: r, k, acc => by
    have ih := text_piled r (k + 1) (acc ++ (if k > 0 then ", " else "" : String) ++ t)
    have hs : ((if k > 0 then ", " else "" : String) : Str).length ≤ 2 := by split <;> decide
    have hp : piled (t :: r) = t.length + 2 + piled r := by unfold piled; rw [List.map_cons, List.sum_cons]
    show (textFrom (k + 1) (acc ++ (if k > 0 then ", " else "" : String) ++ t) r).length ≤ _
    rw [Str.length_append, Str.length_append] at ih
    omega
theorem tuple_piled (ts : List Str) : (tupleText ts).length ≤ piled ts + 4 := by
  have z : (Str.join ", " ts).length ≤ piled ts := by
    cases ts with
    | nil => simp [Str.join, piled]; decide
    | cons t r => have := join_length_add (t :: r) (by simp); omega
  unfold tupleText
  rw [Str.length_append, Str.length_append]
  have a1 : (("(" : Str)).length = 1 := by decide
  have a2 : ((if ts.length == 1 then ",)" else ")" : String) : Str).length ≤ 2 := by split <;> decide
  rw [a1]
  omega
mutual
theorem shown_le : ∀ {p : PyData}, p.showable = true → p.shown.length ≤ wt p
  | .none, _ => by show ("None" : Str).length ≤ _; decide +kernel
  | .bool b, _ => by cases b <;> (show Str.length _ ≤ 5; decide +kernel)
  | .int i, h => by
    have h2 : i.natAbs.log2 < 1920 := by simpa [PyData.showable] using h
    exact int_text_len_1921 h2
  | .str s, _ => Nat.le_refl _
  | .list xs, h => by
    have h2 : PyData.showableAll xs = true := by simpa [PyData.showable] using h
    have i := shownAll_le h2
    show (listText (PyData.shownAll xs)).length ≤ wts xs + 4
    unfold listText
    rw [Str.length_append]
    have z := text_piled (PyData.shownAll xs) 0 "["
    have e1 : (("[" : String) : Str).length = 1 := by decide
    have e2 : (("]" : String) : Str).length = 1 := by decide
    omega
  | .tuple xs, h => by
    have h2 : PyData.showableAll xs = true := by simpa [PyData.showable] using h
    have i := shownAll_le h2
    show (tupleText (PyData.shownAll xs)).length ≤ wts xs + 4
    have := tuple_piled (PyData.shownAll xs)
    omega
  | .dict kvs, _ => Nat.le_refl _
theorem shownAll_le : ∀ {xs : List PyData}, PyData.showableAll xs = true → piled (PyData.shownAll xs) ≤ wts xs
  | [], _ => by simp [PyData.shownAll, piled, wts]
  | x :: xs, h => by
    have h2 : x.showable = true ∧ PyData.showableAll xs = true := by simpa [PyData.showableAll] using h
    have a := shown_le h2.1
    have b := shownAll_le h2.2
    have hp : piled (x.shown :: PyData.shownAll xs) = x.shown.length + 2 + piled (PyData.shownAll xs) := by unfold piled; rw [List.map_cons, List.sum_cons]
    show piled (x.shown :: PyData.shownAll xs) ≤ wt x + 2 + wts xs
    omega
end
theorem showOk_of {p : PyData} (h : p.showable = true) (d : p.depth ≤ 60) (w : wt p ≤ 16777216) : ShowOk p := ⟨h, d, by rw [sizeLine_eq]; exact Nat.le_trans (shown_le h) w⟩
theorem wts_ints : ∀ ns : List Int, wts (ns.map PyData.int) = 1923 * ns.length
  | [] => rfl
  | n :: ns => by show 1921 + 2 + wts (ns.map PyData.int) = _; rw [wts_ints ns, List.length_cons]; omega
theorem wts_app (xs ys : List PyData) : wts (xs ++ ys) = wts xs + wts ys := by
  induction xs with
  | nil => simp [wts]
  | cons x xs ih => show wt x + 2 + wts (xs ++ ys) = wt x + 2 + wts xs + wts ys; rw [ih]; omega
theorem log_small {x : Int} (h : x.natAbs < 2 ^ 64) : x.natAbs.log2 < 1920 := Nat.lt_trans (log2_lt (k := 64) h (by decide)) (by decide)
/-! what is new -/
theorem nw_new {F F' G : List Addr} {μ μc : Mu} (k : Kp G μ μc) (hF : ∀ x ∈ F, μ x = none) (w : Nw F F' μc) (hG : ∀ x ∈ G, μc x ≠ none) : ∀ x ∈ F', μ x = none := fun x hx => by
  rcases w x hx with z | z
  · exact hF x z
  · exact k.free z fun h => hG x h z
theorem nw_off {F F' : List Addr} {μc : Mu} {y : Addr} (w : Nw F F' μc) (hy : y ∉ F) (h : μc y ≠ none) : y ∉ F' := fun z => (w y z).elim hy h
theorem some_ne {μ : Mu} {x : Addr} {m : MO} (h : μ x = some m) : μ x ≠ none := by rw [h]; exact nofun
end VL

set_option maxRecDepth 100000
set_option maxHeartbeats 4000000
/-! values as trees: exceptions that are kept, lambdas that are heard -/
namespace VL
open PySem L2 FW PyProof.Rows LamX
/-! ### isinstance of an exception that is kept -/
section
variable {K : PySem.W.Frag} {T : List (Addr × Str)}
def vIsX (K : PySem.W.Frag) : VL_ := fun xs μ Φ => ∃ C ns ds D b, xs = [.exc C ns ds, .ref D] ∧ ExcC K C ∧ PySem.W.kitOne K (.ref C) (.ref D) = some b ∧ Φ (.bl b) μ
def vIsiE (K : PySem.W.Frag) : VL_ := fun xs μ Φ => vIsiO K xs μ Φ ∨ vIsX K xs μ Φ
theorem s_isiE : SimL K T (rIsA K) (vIsiE K) := fun xs vs μ H Φ Q ia st h k => by
  rcases h with h | ⟨C, ns, ds, D', b, e, eC, kb, q⟩
  · exact .inl (s_isiO xs vs μ H Φ Q ia st h k)
  · subst e
    cases ia with
    | cons ix c => cases c with
      | cons iy c =>
        cases iy; cases c
        cases ix with
        | exc m h m2 h2 l i => exact .inr ⟨_, _, _, _, _, b, rfl, h, eC, .inr ⟨_, _, rfl, h2⟩, .own _, kb, k.now q (.bl b) st⟩
/-- the field of an exception that is kept -/
def wXt (K : PySem.W.Frag) (f : Str) (w : WE) : WE := fun ρ μ ev Φ => w ρ μ ev fun d μ1 => ∃ C ns ds x, d = .exc C ns ds ∧ XfC K C ∧ PySem.W.findIn K (.ref C) f = some none ∧ lookD f ns ds = some x ∧ Φ x μ1
end
section
variable {X : Cx} {T : List (Addr × Str)} {E : XK}
theorem ve_xt {e : Expr} {f : Str} {w : WE} {pos : Pos} (he : PE X e (up X.K T E w)) (hb : attributeBase e f X.env (eval e X.env) = eval e X.env := by rfl) : PE X (.Attribute e f pos) (up X.K T E (wXt X.K f w)) :=
  pe_mono (pe_xt he hb) fun σ H Q ⟨ρ, μ, ev, Φ, en, st, xo, h, k⟩ => ⟨ρ, μ, ev, _, en, st, xo, h, fun d μ1 v H1 ⟨C, ns, ds, x, e, xf, no, hl, q⟩ iv st1 s1 => by
    subst e
    cases iv with
    | exc m h m2 h2 l i =>
      obtain ⟨u, e1, e2⟩ := look_is i hl
      exact ⟨_, _, _, _, u, rfl, h, h2, xf, no, e1, (k.step s1).now q e2 st1⟩⟩
/-! ### a def whose code object is known -/
theorem fun_okDC {P : Program} {w : World} {K : PySem.W.Frag} {mg : Str → Option Value} {base : Heap} {CX : CXT} {x qual : Str} {st : Stmt} {dvs : List V} {f cc : Addr} {fd : FuncData} {N ps : List Str} {k : Nat} {sp : VSp} (F : FunD K x qual (defArgs st) (defBody st) (defScope st) dvs [] f fd) (hc : fd.code = .ref cc) (S : FnScope N ps (defScope st)) (size : ∀ ds μ ev Φ, sp ds μ ev Φ → ds.length = ps.length)
    (walk : ∀ (A : Around) (outer : List PySem.Env) (s : Shared) (H : Hp) (E : XK), (A.deeper (envOfC qual (defScope st) s.heap.objs.size f (.ref cc))).guards = some [] → Room k (A.deeper (envOfC qual (defScope st) s.heap.objs.size f (.ref cc))) →
      ∃ t, PSs (cxOf CX P w K mg base N qual (defScope st) f (.ref cc) A outer s H E) (defBody st) (upS K T E t) ∧ ∀ ds μ ev Φ, sp ds μ ev Φ → t { nx := fun _ μ' => Φ .non μ', rt := Φ } (vstart N ds) μ ev) : FnG P w K mg base CX (k + 1) f fd ps (lift K T sp) := by
  obtain ⟨oc, od, dV, kV, doc, pm, an, cdv, ct, osl, rfl, lk, hcd, _, _⟩ := F.ex
  obtain rfl : cdv = .ref cc := hc
  refine ⟨fun vs H Q E ⟨ds, μ, ev, Φ, ia, _, _, h, _⟩ => by rw [ia.len]; exact size _ _ _ _ h, fun A outer s H args us vs Q E hG hr e0 hb hv hs => ?_⟩
  obtain ⟨ds, μ, ev, Φ, ia, st', xo, h, k'⟩ := hs
  refine LamX.run_ofS lk hcd S hr e0 hb hv (by rw [ia.len]; exact size _ _ _ _ h) fun hr' => ?_
  obtain ⟨t, ht, hq⟩ := walk A outer s H E (guards_in hG) hr'
  refine ⟨_, ht, vstart N ds, μ, ev, _, env_start ia, st', xo, hq ds μ ev Φ h, fun ρ' μ' σ' H' q en st2 s2 => ?_, k', fun _ _ _ _ z => z.elim, fun _ _ _ _ z => z.elim⟩
  exact k' .non μ' .non H' q .non st2 s2
/-! ### a def that hears: y = None; try: a(); except e as n: y = n; rest -/
def hearE (Q : VK) : Ends := { nx := fun _ H' => Q .non H', rt := Q }
def hearD (Φ : WK) : VEnds := { nx := fun _ μ' => Φ .non μ', rt := Φ }
def hearX (K : PySem.W.Frag) (T : List (Addr × Str)) (c : Value) (r : WS) (Q : VK) : XK := fun cls d H' => PySem.W.exmOne K cls c = some true ∧ ∀ (σ' : L2.St) (a : Addr), H' a = none → σ'.length = 3 → upS K T C8.E0 r (hearE Q) (((σ'.set 2 (some (.ref a))).set 1 (some (.ref a))).set 2 none) (upd H' a (ExT a cls d))
def hearQ (K : PySem.W.Frag) (T : List (Addr × Str)) (r : WS) (Q : VK) : VK := fun _ H' => ∀ σ' : L2.St, σ'.length = 3 → σ'[1]? = some (some .non) → upS K T C8.E0 r (hearE Q) σ' H'
def TThear (K : PySem.W.Frag) (T : List (Addr × Str)) (c : Value) (r : WS) : (XK → Hp → VK → Prop) → Hp → VK → Prop := fun tl H Q =>
  ∀ (E' : XK) (Q' : VK), (∀ cls d H', hearX K T c r Q cls d H' → E' cls d H') → (∀ v H', hearQ K T r Q v H' → Q' v H') → tl E' H Q'
theorem hear_gives {Ng : List Str} {x a n y ex q : Str} {sg : Scope} {g : Addr} {cdg c : Value} {rest : List Stmt} {r : WS} {j1 : _} {p1 p2 p3 p4 p5 p6 p7 p8 p9 p10 p11 p12 : Pos} (hNg : Ng = [a, y, n]) (nd : Ng.Nodup)
    (hx1 : Loc sg y) (hx2 : sg.names.lookup y = some .local) (hx3 : sg.names.lookup n = some .local) (hn1 : (n == ("__debug__" : Str)) = false) (hn2 : (n == ("__classdict__" : Str)) = false)
    (hc : ∀ (s : Shared) (H : Hp), Names (cxOf C8.CX0 X.prog X.w X.K X.mg X.base Ng x sg g cdg X.A X.stack s H C8.E0).nox ex c)
    (hrest : ∀ (s : Shared) (H : Hp), PSs (cxOf C8.CX0 X.prog X.w X.K X.mg X.base Ng x sg g cdg X.A X.stack s H C8.E0).nox rest (upS X.K T C8.E0 r)) :
    GivesTo X Ng x sg g cdg (.Assign [.Name y p1] (.Constant .none j1 p2) p3 :: .Try [.Expr (.Call (.Name a p4) [] [] p5) p6] [.ExceptHandler (some (.Name ex p7)) (some n) [.Assign [.Name y p8] (.Name n p9) p10] p11] [] [] p12 :: rest) a q (TThear X.K T c r) := by
  subst hNg
  intro f c' s H Q tl act hk h
  refine ⟨_, pss_cons (ps_set (i := 1) nd rfl hx1 pe_non) (pss_cons (ps_try_keep (i := 2) (j := 1) (c := c) (tb := fun W D σ H => σ[0]? = some (some (.ref f)) ∧ H c' = some (CodeO c' q) ∧ tl (fun cls d H' => ∀ σ', W cls d σ' H') H (fun _ H' => D.nx σ H')) rfl rfl nd rfl hx3 rfl hx2 (by decide) (hc s H)
    (fun W pn xe tk _ => ⟨fun pins s' σ H' D I ⟨h1, h2, h3⟩ => (pss_one (ps_expr (act W pn xe _ _ _ tk (fun cls d σ' H' hh => hh σ')))).run pins s' σ H' D I ⟨h1, h2, h3⟩⟩) rfl hn1 hn2) (hrest s H)), ?_⟩
  exact ⟨by simp [L2.start], rfl, hk, h _ _ (fun cls d H' z σ' => ⟨z.1, fun a na hl => z.2 σ' a na hl⟩) fun v H' z => z _ rfl rfl⟩
end
end VL

set_option maxRecDepth 100000
set_option maxHeartbeats 4000000
/-! values as trees: a lambda handed to a def that hears -/
namespace VL
open PySem PySem.Spec L2 FW PyProof.Rows LamX
def wHear (K : PySem.W.Frag) (c : Value) (r : WS) (w : WE) : WE := fun ρ μ _ Φ => w ρ μ (fun C ns ds μ' => PySem.W.exmOne K (.ref C) c = some true ∧ r (hearD Φ) [none, some (.exc C ns ds), none] μ' ev0) (fun _ μ' => r (hearD Φ) [none, some .non, none] μ' ev0)
section
variable {K : PySem.W.Frag} {T : List (Addr × Str)} {E : XK} {w : WE} {r : WS} {c : Value}
theorem step_extN {μ : Mu} {H H1 : Hp} (eN : ExtN H H1) : Step μ H μ H1 := fun a o h m n => ⟨eN a o h n, m⟩
theorem Sto.extN {μ : Mu} {H H1 : Hp} (st : Sto K T μ H) (eN : ExtN H H1) (T1 : Tabs T H1) : Sto K T μ H1 := ⟨fun a m e => (st.mo a m e).at_ (step_extN eN) (by
  obtain ⟨o, h, n, _⟩ := (st.mo a m e).there
  rw [h]; exact eN a o h n), T1⟩
theorem hear_ends {μ μ' : Mu} {H H' : Hp} {Φ : WK} {Q : VK} (k : KOk K T μ H Φ Q) (s : Step μ H μ' H') : EndsOk K T μ' H' (hearD Φ) (hearE Q) :=
  ⟨fun _ μ2 _ H2 q _ st2 s2 => k .non μ2 .non H2 q .non st2 (s.trans s2), fun d μ2 v H2 q iv st2 s2 => k d μ2 v H2 q iv st2 (s.trans s2), fun _ _ _ _ z => z.elim, fun _ _ _ _ z => z.elim⟩
theorem hear_up {σ : L2.St} {H : Hp} {Q : VK} (h : up K T E (wHear K c r w) σ H Q) : tLam T (TThear K T c r) (fun E' => up K T E' w) σ H Q := by
  obtain ⟨ρ, μ, ev, Φ, en, st, xo, h, k⟩ := h
  refine ⟨st.tab, fun H1 eN T1 E' Q' hE hQ => ?_⟩
  have s0 : Step μ H μ H1 := step_extN eN
  refine ⟨ρ, μ, _, _, en.step s0, st.extN eN T1, ?_, h, ?_⟩
  · intro C ns ds vs dd μ' H' ⟨q1, q2⟩ hd md hl ia st1 s1
    refine hE _ _ _ ⟨q1, fun σ' a na l3 => ?_⟩
    have nd : dd ≠ a := fun e => by rw [e, na] at hd; cases hd
    have s2 := step_new (o := ExT a (.ref C) (some dd)) na (st1.free na)
    refine ⟨_, μ', ev0, hearD Φ, ⟨by simp [l3], fun i d e => ?_⟩, st1.new na, xok0, q2, hear_ends k (s0.trans (s1.trans s2))⟩
    match i, e with
    | 0, e => simp at e
    | 2, e => simp at e
    | j + 3, e => simp at e
    | 1, e =>
      cases e
      refine ⟨.ref a, ?_, .exc (st1.free na) upd_same md (by rw [upd_ne nd]; exact hd) hl (ia.step s2)⟩
      rw [List.getElem?_set_ne (by decide), List.getElem?_set_self (by simp [l3])]
  · intro d μ' v H' q iv st1 s1
    refine hQ _ _ fun σ' l3 h1 => ⟨_, μ', ev0, hearD Φ, ⟨by simp [l3], fun i d e => ?_⟩, st1, xok0, q, hear_ends k (s0.trans s1)⟩
    match i, e with
    | 0, e => simp at e
    | 2, e => simp at e
    | j + 3, e => simp at e
    | 1, e => cases e; exact ⟨.non, h1, .non⟩
end
section
variable {X : Cx}
theorem ve_hearS {T : List (Addr × Str)} {x a y n ex : Str} {g c P : Addr} {k : Nat} {pg : Arguments} {bg : List Stmt} {sg : Scope} {dV kV doc pm cdv ct oc cE : Value} {an od : Option Addr} {osl : Array (Option Value)} {Ng : List Str} {rest : List Stmt} {r : WS} {j1 : _} {p1 p2 p3 p4 p5 p6 p7 p8 p9 p10 p11 p12 : Pos} {E : XK}
    {params : Arguments} {body : Expr} {scope : Scope} {w : WE} {q1 q2 q3 : Pos} (hg : Gl X x) (hm : X.mg x = some (.ref g)) (hk : PySem.W.keepIn X.K (.ref g) = true)
    (lk : X.K.lookup g = some ⟨oc, od, .func (PySem.W.fnOf x x pg bg sg dV kV doc pm an cdv ct), osl⟩) (hcg : PySem.W.codeIn X.K cdv x = true) (hb : L2.Binds X.K (PySem.W.fnOf x x pg bg sg dV kV doc pm an cdv ct) [a] []) (Sg : FnScope Ng [a] sg) (hva : Vis sg a)
    (ebg : bg = .Assign [.Name y p1] (.Constant .none j1 p2) p3 :: .Try [.Expr (.Call (.Name a p4) [] [] p5) p6] [.ExceptHandler (some (.Name ex p7)) (some n) [.Assign [.Name y p8] (.Name n p9) p10] p11] [] [] p12 :: rest)
    (hNg : Ng = [a, y, n]) (nd : Ng.Nodup) (hx1 : Loc sg y) (hx2 : sg.names.lookup y = some .local) (hx3 : sg.names.lookup n = some .local) (hn1 : (n == ("__debug__" : Str)) = false) (hn2 : (n == ("__classdict__" : Str)) = false)
    (hc : ∀ (s : Shared) (H : Hp), Names (cxOf C8.CX0 X.prog X.w X.K X.mg X.base Ng x sg g cdv X.A X.stack s H C8.E0).nox ex cE)
    (hrest : ∀ (s : Shared) (H : Hp), PSs (cxOf C8.CX0 X.prog X.w X.K X.mg X.base Ng x sg g cdv X.A X.stack s H C8.E0).nox rest (upS X.K T C8.E0 r))
    (TB : TabB X.base X.mg c P) (hcode : X.env.code = .ref c) (hmT : (P, X.env.qual ++ "<lambda>") ∈ T) (hu : ∀ b ∈ T, b.1 = P → b.2 = X.env.qual ++ "<lambda>") (hr : Room (k + 2) X.A) (gd : X.A.guards = some [])
    (L : LamS X.env.scope scope) (hd : defaultsOf params X.env = ([], []))
    (bind : ∀ (q : Str) (cl : List (Str × Addr)) (pm cv ctv : Value), bindArgs (PySem.W.kla_fn "<lambda>" q params body scope cl pm cv ctv) ⟨[], []⟩ = pure [])
    (inner : ∀ (A : Around) (outer : List Env) (s : Shared) (H : Hp) (E : XK) (f c' : Addr), (A.deeper (lamEnv X scope s.heap.objs.size f c')).guards = some [] → Room k (A.deeper (lamEnv X scope s.heap.objs.size f c')) → PE (lamCx X A outer s H E scope f c') body (up X.K T E w))
    (n1 : (x == ("__debug__" : Str)) = false := by decide) (n2 : (a == ("__debug__" : Str)) = false := by decide) (n3 : (a == ("__classdict__" : Str)) = false := by decide) :
    PE X (.Call (.Name x q1) [.Lambda params body scope q2] [] q3) (up X.K T E (wHear X.K cE r w)) := by
  subst ebg
  exact pe_mono (pe_lamcallSG hg hm hk lk hcg hb Sg (by rw [hNg]; rfl) hva (hear_gives hNg nd hx1 hx2 hx3 hn1 hn2 hc hrest) TB hcode hmT hu hr gd L hd bind inner n1 n2 n3) fun σ H Q h => hear_up h
end
end VL

set_option maxRecDepth 100000
set_option maxHeartbeats 4000000
/-! values as trees: the code object of a def that makes lambdas -/
namespace VL
open PySem L2 FW PyProof.Rows
theorem code_of {K : PySem.W.Frag} {x qual : Str} {params : Arguments} {body : List Stmt} {scope : Scope} {dvs : List V} {kws : List (Str × V)} {fd : FuncData} (F : FunD K x qual params body scope dvs kws (He.ga K x) fd) : fd.code = .ref (He.cT K (x, none)).1 := by
  obtain ⟨oc, od, dV, kV, doc, pm, an, cdv, ct, osl, rfl, lk, hcd, _, _⟩ := F.ex
  obtain ⟨cc, rfl⟩ := He.codeIn_ref hcd
  show Value.ref cc = .ref (He.codeOf K (x, none))
  rw [He.codeOf_eq (p := (x, none)) lk rfl]
theorem one_in {α β : Type} {a : α} {b : β} : (a, b) ∈ [(a, b)] := List.mem_cons_self ..
theorem one_only {α β : Type} {a : α} {b : β} : ∀ p ∈ [(a, b)], p.1 = a → p.2 = b := fun p hp _ => by rw [List.mem_singleton.mp hp]
end VL
namespace VL
open PySem L2 FW PyProof.Rows
section
variable {X : Cx} {T : List (Addr × Str)} {E : XK} {pos : Pos}
def wDic0 : WE := fun _ μ _ Φ => Φ (.dic [] []) μ
theorem ve_dic0 : PE X (.Dict [] [] pos) (up X.K T E wDic0) := pe_mono pe_dnewK fun σ H Q ⟨ρ, μ, ev, Φ, en, st, xo, h, k⟩ => fun p hp => k.dic h .nil rfl st p hp
end
end VL

set_option maxRecDepth 100000
set_option maxHeartbeats 4000000
/-! values as trees: a sequence of any kind, walked and unpacked -/
namespace VL
open PySem L2 FW PyProof.Rows
/-- a list, a tuple, or a list that may change -/
def SeqA (μ : Mu) (x : D) (ds : List D) : Prop := (fzL x = some ds ∨ tupOf x = some ds) ∨ ∃ a, x = .ref a ∧ μ a = some (.lst ds)
def iwA (w : WE) : WI := fun ρ μ ev Ψ => iwS w ρ μ ev Ψ ∨ iwM w ρ μ ev Ψ
section
variable {X : Cx} {T : List (Addr × Str)} {E : XK} {tg iter : Expr}
theorem vi_any {w : WE} (h : PE X iter (up X.K T E w)) : PI X tg iter (upI X.K T E (iwA w)) := ⟨fun pins s σ H R I ⟨ρ, μ, ev, Ψ, en, st, xo, h2, k⟩ => by
  rcases h2 with h2 | h2
  · exact (vi_seq h).run pins s σ H R I ⟨ρ, μ, ev, Ψ, en, st, xo, h2, k⟩
  · exact (vi_mut h).run pins s σ H R I ⟨ρ, μ, ev, Ψ, en, st, xo, h2, k⟩⟩
def wGLst (n : Nat) (gs : WGs) : WG := fun d ρ μ ev Φ => ∃ ds, (fzL d = some ds ∨ lstOf μ d = some ds) ∧ ds.length = n ∧ gs ds ρ μ ev Φ
theorem vg_lst {es : List Expr} {kk : Nat} {n : Nat} {gs : WGs} {pos : Pos} (p : ∀ t : TGs, PGs X es t → PG X (.Tuple es kk pos) (gLst X.K n t)) (h : PGs X es (upGs X.K T E gs)) : PG X (.Tuple es kk pos) (upG X.K T E (wGLst n gs)) :=
  pg_mono (p _ h) fun v σ H Q ⟨d, ρ, μ, ev, Φ, iv, en, st, xo, ⟨ds, e, hl, h⟩, k⟩ => by
    obtain ⟨a, us, rfl, sq, i⟩ := sqL_of st iv e
    exact ⟨_, _, rfl, sq, by rw [i.len]; exact hl, _, ρ, μ, ev, Φ, i, en, st, xo, h, k⟩
def wGAny (n : Nat) (gs : WGs) : WG := fun d ρ μ ev Φ => ∃ ds, (tupOf d = some ds ∨ (fzL d = some ds ∨ lstOf μ d = some ds)) ∧ ds.length = n ∧ gs ds ρ μ ev Φ
theorem vg_any {es : List Expr} {kk : Nat} {n : Nat} {gs : WGs} {pos : Pos} (p : ∀ t : TGs, PGs X es t → PG X (.Tuple es kk pos) (gTup X.K n t)) (p2 : ∀ t : TGs, PGs X es t → PG X (.Tuple es kk pos) (gLst X.K n t)) (h : PGs X es (upGs X.K T E gs)) : PG X (.Tuple es kk pos) (upG X.K T E (wGAny n gs)) := ⟨fun pins s σ H v u Q I r ⟨d, ρ, μ, ev, Φ, iv, en, st, xo, ⟨ds, e, hl, hh⟩, k⟩ => by
  rcases e with e | e
  · exact (vg_tup p h).run pins s σ H v u Q I r ⟨d, ρ, μ, ev, Φ, iv, en, st, xo, ⟨ds, e, hl, hh⟩, k⟩
  · exact (vg_lst p2 h).run pins s σ H v u Q I r ⟨d, ρ, μ, ev, Φ, iv, en, st, xo, ⟨ds, e, hl, hh⟩, k⟩⟩
end
section
variable {μ μ' : Mu} {x : D} {ds : List D} {F : List Addr}
theorem SeqA.seq (h : SeqA μ x ds) : seqOf μ x = some ds := by
  rcases h with (h | h) | ⟨a, rfl, h⟩
  · cases x <;> simp [fzL] at h <;> subst h <;> rfl
  · cases x <;> simp [tupOf] at h <;> subst h <;> rfl
  · exact seqOf_of h
theorem SeqA.any (h : SeqA μ x ds) : tupOf x = some ds ∨ (fzL x = some ds ∨ lstOf μ x = some ds) := by
  rcases h with (h | h) | ⟨a, rfl, h⟩
  · exact .inr (.inl h)
  · exact .inl h
  · refine .inr (.inr ?_)
    show (match μ a with | some (.lst ds) => some ds | _ => none) = _
    rw [h]
/-- walked, with no change of the list itself -/
theorem iwA_at {i : Nat} {ρ : Ro} {ev : EV} {Ψ : List D → (Mu → Prop) → Mu → Prop} (e : ρ[i]? = some (some x)) (h : SeqA μ x ds) (k : ∀ P : Mu → Prop, (∀ μ', (∀ a, x = .ref a → μ' a = μ a) → P μ') → Ψ ds P μ) : iwA (wVar i) ρ μ ev Ψ := by
  rcases h with h | ⟨a, rfl, h⟩
  · exact .inl ⟨x, e, ds, h, k _ fun _ _ => trivial⟩
  · exact .inr ⟨.ref a, e, a, ds, rfl, h, k _ fun μ' hk => by rw [hk a rfl]; exact h⟩
theorem SeqA.same (s : ∀ a, x = .ref a → μ' a = μ a) (h : SeqA μ x ds) : SeqA μ' x ds := by
  rcases h with h | ⟨a, e, h⟩
  · exact .inl h
  · exact .inr ⟨a, e, by rw [s a e]; exact h⟩
/-- what stands in the store, of values of the kinds that isinstance knows -/
theorem kd_ref {a : Addr} (h : Kd μ (.ref a)) : μ a ≠ none := fun e => by
  obtain ⟨t, h⟩ := h
  simp only [tyD, e] at h
  cases h
theorem tyD_same (h : ∀ a, x = .ref a → μ' a = μ a) : tyD μ' x = tyD μ x := by
  cases x <;> try rfl
  rename_i a
  simp only [tyD, h a rfl]
theorem seqOf_same (h : ∀ a, x = .ref a → μ' a = μ a) : seqOf μ' x = seqOf μ x := by
  cases x <;> try rfl
  rename_i a
  simp only [seqOf, h a rfl]
theorem isLst_same (h : ∀ a, x = .ref a → μ' a = μ a) : isLst μ' x = isLst μ x := by unfold isLst; rw [tyD_same h]
theorem Kd.set_same {Ds : Addr} {m : MO} (k : Kd μ x) (n : μ Ds = none) : ∀ a, x = .ref a → (μ.set Ds m) a = μ a := fun a e => by
  subst e
  exact Mu.ne fun e => kd_ref k (by rw [e]; exact n)
end
end VL

set_option maxRecDepth 100000
set_option maxHeartbeats 4000000
/-! values as trees: a comprehension whose items change the store -/
namespace VL
open PySem L2 FW PyProof.Rows
theorem lcW_inv {P : Mu → Prop} {p : Pat} {w : WE} {vs : List Nat} {ρ : Ro} {ev : EV} {Φ : WK} {Ds : Addr} {ds : List D} (Inv : Nat → List D → Mu → Prop) (hl : ds.length ≤ sizeLine)
    (h : ∀ i d acc μ (Ψ : WK), ds[i]? = some d → acc.length = i → μ Ds = some (.lst acc) → Inv i acc μ → (∀ y μ', μ' Ds = some (.lst acc) → Inv (i + 1) (acc ++ [y]) (μ'.set Ds (.lst (acc ++ [y]))) → Ψ y μ') → P μ ∧ ∃ ρ1, p.bind d (wipeR ρ vs) = some ρ1 ∧ w ρ1 μ ev Ψ)
    (q : ∀ acc μ, acc.length = ds.length → μ Ds = some (.lst acc) → Inv ds.length acc μ → P μ ∧ Φ (.ref Ds) μ) {μ0 : Mu} (e0 : μ0 Ds = some (.lst [])) (h0 : Inv 0 [] μ0) : lcW P p wYes w vs ρ ev Ds Φ ds μ0 := by
  have go : ∀ (rest : List D) (acc : List D) (μ : Mu), ds.drop acc.length = rest → acc.length ≤ ds.length → μ Ds = some (.lst acc) → Inv acc.length acc μ → lcW P p wYes w vs ρ ev Ds Φ rest μ := by
    intro rest
    induction rest with
    | nil =>
      intro acc μ hd hn e hI
      have : acc.length = ds.length := by
        have := congrArg List.length hd
        simp at this
        omega
      rw [this] at hI
      exact q acc μ this e hI
    | cons d rest ih =>
      intro acc μ hd hn e hI
      have hlt : acc.length < ds.length := by
        have := congrArg List.length hd
        simp at this
        omega
      have hd2 : ds[acc.length]? = some d := by
        have := congrArg (fun l => l[0]?) hd
        simpa using this
      have hk := h acc.length d acc μ (fun y μ2 => ∃ acc2, μ2 Ds = some (.lst acc2) ∧ acc2.length < sizeLine ∧ lcW P p wYes w vs ρ ev Ds Φ rest (μ2.set Ds (.lst (acc2 ++ [y])))) hd2 rfl e hI fun y μ' e' hI' => ⟨acc, e', by omega, ih (acc ++ [y]) _ (by
        rw [List.length_append, ← List.drop_drop, hd]; rfl) (by simp; omega) Mu.same (by simpa using hI')⟩
      obtain ⟨hp, ρ1, hb, hw⟩ := hk
      exact ⟨hp, ρ1, hb, by simp only [wYes, if_true]; exact hw⟩
  exact go ds [] μ0 rfl (Nat.zero_le _) e0 h0
end VL

set_option maxRecDepth 100000
set_option maxHeartbeats 4000000
/-! values as trees: three names at once -/
namespace VL
open PySem L2 FW PyProof.Rows
section
variable {X : Cx} {T : List (Addr × Str)} {E : XK}
def wPar3 (i j l : Nat) (w : WA) : WS := fun DD ρ μ ev => w ρ μ ev fun ds μ1 => ∃ c d e, ds = [c, d, e] ∧ DD.nx (((ρ.set i (some c)).set j (some d)).set l (some e)) μ1
theorem vs_par3 {i j l : Nat} {s : Stmt} {w : WA} (h : PS X s (tPar3 i j l (upA X.K T E w))) : PS X s (upS X.K T E (wPar3 i j l w)) :=
  ps_mono h fun Dn σ H ⟨ρ, μ, ev, DD, en, st, xo, h, k⟩ => ⟨ρ, μ, ev, _, en, st, xo, h, fun ds μ1 vs H1 ⟨c, d, e, q, hd⟩ iv st1 s1 => by
    subst q
    cases iv with
    | cons a b => cases b with
      | cons b c => cases c with
        | cons c z => cases z; exact ⟨_, _, _, rfl, (k.step s1).nx hd ((((en.step s1).set i a).set j b).set l c) st1⟩⟩
end
end VL

set_option maxRecDepth 100000
set_option maxHeartbeats 4000000
/-! values as trees: a comprehension with a test, both of which change the store -/
namespace VL
open PySem L2 FW PyProof.Rows
theorem lcW_invT {P : Mu → Prop} {p : Pat} {t : WT} {w : WE} {vs : List Nat} {ρ : Ro} {ev : EV} {Φ : WK} {Ds : Addr} {ds : List D} (Inv : Nat → List D → Mu → Prop) (hl : ds.length ≤ sizeLine)
    (h : ∀ i d acc μ (Ψ : WK) (Ψ0 : Mu → Prop), ds[i]? = some d → acc.length ≤ i → μ Ds = some (.lst acc) → Inv i acc μ → (∀ y μ', μ' Ds = some (.lst acc) → Inv (i + 1) (acc ++ [y]) (μ'.set Ds (.lst (acc ++ [y]))) → Ψ y μ') → (∀ μ', μ' Ds = some (.lst acc) → Inv (i + 1) acc μ' → Ψ0 μ') → P μ ∧ ∃ ρ1, p.bind d (wipeR ρ vs) = some ρ1 ∧ t ρ1 μ ev fun b μ1 => if b = true then w ρ1 μ1 ev Ψ else Ψ0 μ1)
    (q : ∀ acc μ, acc.length ≤ ds.length → μ Ds = some (.lst acc) → Inv ds.length acc μ → P μ ∧ Φ (.ref Ds) μ) {μ0 : Mu} (e0 : μ0 Ds = some (.lst [])) (h0 : Inv 0 [] μ0) : lcW P p t w vs ρ ev Ds Φ ds μ0 := by
  have go : ∀ (rest : List D) (i : Nat) (acc : List D) (μ : Mu), ds.drop i = rest → i ≤ ds.length → acc.length ≤ i → μ Ds = some (.lst acc) → Inv i acc μ → lcW P p t w vs ρ ev Ds Φ rest μ := by
    intro rest
    induction rest with
    | nil =>
      intro i acc μ hd hi hn e hI
      have : i = ds.length := by
        have := congrArg List.length hd
        simp at this
        omega
      rw [this] at hI
      exact q acc μ (by omega) e hI
    | cons d rest ih =>
      intro i acc μ hd hi hn e hI
      have hlt : i < ds.length := by
        have := congrArg List.length hd
        simp at this
        omega
      have hd2 : ds[i]? = some d := by
        have := congrArg (fun l => l[0]?) hd
        simpa using this
      have hd3 : ds.drop (i + 1) = rest := by
        rw [← List.drop_drop, hd]; rfl
      exact h i d acc μ (fun y μ2 => ∃ acc2, μ2 Ds = some (.lst acc2) ∧ acc2.length < sizeLine ∧ lcW P p t w vs ρ ev Ds Φ rest (μ2.set Ds (.lst (acc2 ++ [y])))) (fun μ2 => lcW P p t w vs ρ ev Ds Φ rest μ2) hd2 hn e hI
        (fun y μ' e' hI' => ⟨acc, e', by omega, ih (i + 1) (acc ++ [y]) _ hd3 hlt (by simp; omega) Mu.same hI'⟩) (fun μ' e' hI' => ih (i + 1) acc _ hd3 hlt (by omega) e' hI')
  exact go ds 0 [] μ0 rfl (Nat.zero_le _) (Nat.zero_le _) e0 h0
end VL

set_option maxRecDepth 100000
set_option maxHeartbeats 4000000
/-! a list's slice with a step: xs[lo::c] -/
namespace FW
open PySem PySem.Spec PyProof.Rows L2
def pickS {α : Type} (lo c : Int) (xs : List α) : List α := (sliceRange (sliceBounds (some lo) none (some c) xs.length).1 (sliceBounds (some lo) none (some c) xs.length).2.1 (sliceBounds (some lo) none (some c) xs.length).2.2).filterMap (xs[·]?)
theorem vals_get {vs : List V} {us : List Value} (h : Vals vs us) : ∀ {i : Nat} {v : V}, vs[i]? = some v → ∃ u, us[i]? = some u ∧ RelV v u := by
  induction h with
  | nil => intro i v e; simp at e
  | cons a b ih =>
    intro i v e
    cases i with
    | zero => simp at e; subst e; exact ⟨_, rfl, a⟩
    | succ i => simp at e; obtain ⟨u, h1, h2⟩ := ih e; exact ⟨u, by simpa using h1, h2⟩
theorem vals_pick {vs : List V} {us : List Value} (h : Vals vs us) : ∀ is : List Nat, Vals (is.filterMap (vs[·]?)) (is.filterMap (us[·]?))
  | [] => .nil
  | i :: is => by
    rw [List.filterMap_cons, List.filterMap_cons]
    cases e : vs[i]? with
    | none =>
      have : us[i]? = none := List.getElem?_eq_none (by rw [← h.length]; exact List.getElem?_eq_none_iff.mp e)
      rw [this]
      exact vals_pick h is
    | some v =>
      obtain ⟨u, e2, r⟩ := vals_get h e
      rw [e2]
      exact .cons r (vals_pick h is)
def tSlS (K : PySem.W.Frag) (lo c : Int) (te : TE) : TE := fun σ H Q => te σ H fun x H1 => ∃ a xs, x = .ref a ∧ SqL K H1 a xs ∧ ∀ p, H1 p = none → Q (.ref p) (upd H1 p (.lst (pickS lo c xs)))
variable {X : Cx}
theorem pe_slS {e : Expr} {te : TE} {lo c : Int} {j1 j2 : _} {q1 q2 p3 pos : Pos} (hc : c ≠ 0) (he : PE X e te) : PE X (.Subscript e (.Slice (some (.Constant (.int lo) j1 q1)) none (some (.Constant (.int c) j2 q2)) p3) pos) (tSlS X.K lo c te) := by
  refine ⟨fun pins s σ H Q I h => ?_⟩
  refine Subscript_ (thn (he.run pins s σ H _ I h) fun v s1 ⟨x, H1, I1, r1, q1⟩ => ?_)
  obtain ⟨a, xs, ex, hx, q⟩ := q1
  subst ex
  cases r1
  have hlo : PO X (some (.Constant (.int lo) j1 q1)) (tPart (tC (.int lo))) := po_some pe_int
  have hst : PO X (some (.Constant (.int c) j2 q2)) (tPart (tC (.int c))) := po_some pe_int
  refine wpAny_Slice (thn (hlo.run pins s1 σ H1 (fun o H2 => o = some lo ∧ H2 = H1) I1 ⟨lo, rfl, rfl, rfl⟩) fun vl s2 ⟨l, H2, I2, pl, el, e2⟩ => ?_)
  subst el e2
  refine thn (po_none.run pins s2 σ H2 (fun o H3 => o = none ∧ H3 = H2) I2 ⟨rfl, rfl⟩) fun vu s3 ⟨u, H3, I3, pu, eu, e3⟩ => ?_
  subst eu e3
  refine thn (hst.run pins s3 σ H3 (fun o H4 => o = some c ∧ H4 = H3) I3 ⟨c, rfl, rfl, rfl⟩) fun vs s4 ⟨o, H4, I4, ps, eo, e4⟩ => ?_
  subst eo e4
  have I5 : Inv X pins σ H4 { s4 with heap := s4.heap.push { cls := .type "slice", data := .fields #[vl, vu, vs] } } := I4.kept (t' := s4.toks) fun b ob q => Heap.get?_push_of_some _ q
  obtain ⟨its, r, ht, hz⟩ := I5.list hx
  have hlen := r.length
  refine tail_any (ops := [.ref a, .ref s4.heap.objs.size]) ht.isList.typeIs (PySem.slot_list_getitem.lookup) ?_ (by with_unfolding_all rfl)
  refine wpAny_getItem_list_slice ht.isList (Heap.IsSliceOf.new _ vl vu vs) pl pu ps (by simpa using hc) ?_ (by rw [List.size_toArray]; omega)
  have ep : slicePick its.toArray (some lo) none (some c) = (pickS lo c its).toArray := by
    unfold slicePick pickS
    simp
  have sz := slicePick_size_le its.toArray (some lo) none (some c)
  rw [ep] at sz ⊢
  refine ⟨.ref _, _, I5.laid (t' := s4.toks) (o := .lst (pickS lo c xs)) (fun b ob q => Heap.get?_push_of_some _ q) (Nat.le_refl _) ?_, rfl, q _ (I5.hok.fresh (Nat.le_refl _))⟩
  have rp : Vals (pickS lo c xs) (pickS lo c its) := by
    unfold pickS
    rw [r.length]
    exact vals_pick r _
  refine ⟨?_, _, 0, rp, Heap.get?_push_size _ rfl⟩
  rw [rp.length]
  simp at sz
  omega
end FW
namespace VL
open PySem L2 FW PyProof.Rows
theorem isAll_pick {K : PySem.W.Frag} {μ : Mu} {H : Hp} {vs : List V} {ds : List D} (h : IsAll K μ H vs ds) : ∀ is : List Nat, IsAll K μ H (is.filterMap (vs[·]?)) (is.filterMap (ds[·]?))
  | [] => .nil
  | i :: is => by
    rw [List.filterMap_cons, List.filterMap_cons]
    cases e : ds[i]? with
    | none =>
      have : vs[i]? = none := List.getElem?_eq_none (by rw [h.len]; exact List.getElem?_eq_none_iff.mp e)
      rw [this]
      exact isAll_pick h is
    | some d =>
      obtain ⟨v, e2, r⟩ := h.get e
      rw [e2]
      exact .cons r (isAll_pick h is)
def wSlS (lo c : Int) (w : WE) : WE := fun ρ μ ev Φ => w ρ μ ev fun d μ1 => ∃ ds, (fzL d = some ds ∨ lstOf μ1 d = some ds) ∧ Φ (.lst (pickS lo c ds)) μ1
theorem ve_slS {X : Cx} {T : List (Addr × Str)} {E : XK} {e : Expr} {w : WE} {lo c : Int} {j1 j2 : _} {q1 q2 p3 pos : Pos} (hc : c ≠ 0) (he : PE X e (up X.K T E w)) : PE X (.Subscript e (.Slice (some (.Constant (.int lo) j1 q1)) none (some (.Constant (.int c) j2 q2)) p3) pos) (up X.K T E (wSlS lo c w)) :=
  pe_mono (pe_slS hc he) fun σ H Q ⟨ρ, μ, ev, Φ, en, st, xo, h, k⟩ => ⟨ρ, μ, ev, _, en, st, xo, h, fun d μ1 v H1 ⟨ds, e, q⟩ iv st1 s1 => by
    obtain ⟨a, us, rfl, sq, i⟩ := sqL_of st1 iv e
    refine ⟨a, us, rfl, sq, fun p hp => ?_⟩
    have ip : IsAll X.K μ1 H1 (pickS lo c us) (pickS lo c ds) := by
      unfold pickS
      rw [i.len]
      exact isAll_pick i _
    exact (k.step s1).lst q ip st1 p hp⟩
end VL

set_option maxRecDepth 100000
set_option maxHeartbeats 4000000
/-! a tuple some times -/
namespace VL
open PySem PySem.Spec PyProof.Rows L2 FW
def vRepT : V2 := fun x y μ Φ => ∃ ds k, tupOf x = some ds ∧ y = .int k ∧ ds ≠ [] ∧ 2 ≤ k ∧ k ≤ 1000 ∧ ds.length ≤ 1000 ∧ Φ (.tup (List.replicate k.toNat ds).flatten) μ
theorem s_repT {K : PySem.W.Frag} {T : List (Addr × Str)} : Sim2 K T (rRepT K) vRepT := fun x y v w μ H Φ Q ix iy st ⟨ds, n, e1, e2, ne, n1, n2, hl, q⟩ k => by
  subst e2; cases iy
  cases x with
  | tup es =>
    simp only [tupOf, Option.some.injEq] at e1; subst e1
    cases ix with
    | tup at_ i => exact ⟨_, n, _, rfl, rfl, at_.sq, fun e => ne (by have := i.len; rw [e] at this; exact List.eq_nil_of_length_eq_zero this.symm), n1, n2, by rw [i.len]; exact hl, fun p hp => k.tup q (i.rep _) st p hp⟩
  | _ => simp [tupOf] at e1
end VL

set_option maxRecDepth 100000
set_option maxHeartbeats 4000000
/-! dicts that may change, with keys ints and texts: displays, subscripts, sets of keys that are there -/
namespace VL
open PySem PySem.Spec PyProof.Rows L2 FW
variable {K : PySem.W.Frag} {T : List (Addr × Str)}
theorem units1 {k : Nat} {A : Around} (hr : Room k A) : A.units + 1 < cLine := by have := hr.units; omega
def dicOf (μ : Mu) : D → Option (List Key × List D)
  | .dic ks ds => some (ks, ds)
  | .ref a => match μ a with
    | some (.dic ks ds) => some (ks, ds)
    | _ => none
  | _ => none
theorem dicOf_ref {μ : Mu} {a : Addr} {ks : List Key} {ds : List D} (e : dicOf μ (.ref a) = some (ks, ds)) : μ a = some (.dic ks ds) := by
  have e2 : (match μ a with | some (.dic ks ds) => some (ks, ds) | _ => none) = some (ks, ds) := e
  cases q : μ a with
  | none => rw [q] at e2; cases e2
  | some m => rw [q] at e2; cases m <;> first | (cases e2; rfl) | cases e2
theorem dicOf_of {μ : Mu} {a : Addr} {ks : List Key} {ds : List D} (e : μ a = some (.dic ks ds)) : dicOf μ (.ref a) = some (ks, ds) := by show (match μ a with | some (.dic ks ds) => some (ks, ds) | _ => none) = some (ks, ds); rw [e]
theorem is_dic {μ : Mu} {H : Hp} (st : Sto K T μ H) {v : V} {d : D} {ks : List Key} {ds : List D} (h : Is K μ H v d) (e : dicOf μ d = some (ks, ds)) : ∃ a vs, v = .ref a ∧ H a = some (.dK (ks.zip vs)) ∧ ks.length = vs.length ∧ IsAll K μ H vs ds := by
  cases h with
  | dic m h l i => simp [dicOf] at e; obtain ⟨rfl, rfl⟩ := e; exact ⟨_, _, rfl, h, l, i⟩
  | ref a =>
    obtain ⟨vs, h1, h2, h3⟩ := st.mo _ _ (dicOf_ref e)
    exact ⟨_, vs, rfl, h1, h2, h3⟩
  | _ => simp [dicOf] at e
def keyOf : D → Option Key
  | .int i => some (.inl i)
  | .str s => some (.inr s)
  | _ => none
theorem key_is {μ : Mu} {H : Hp} {v : V} {d : D} {k : Key} (h : Is K μ H v d) (e : keyOf d = some k) : v = kV k := by
  cases h <;> simp [keyOf] at e
  · subst e; rfl
  · subst e; rfl
def lookKD (k : Key) : List Key → List D → Option D
  | x :: ks, d :: ds => if x = k then some d else lookKD k ks ds
  | _, _ => none
theorem valV_look {μ : Mu} {H : Hp} {k : Key} {d : D} : ∀ {ks : List Key} {vs : List V} {ds : List D}, IsAll K μ H vs ds → lookKD k ks ds = some d → ∃ v, valV (ks.zip vs) k = some v ∧ Is K μ H v d
  | [], _, _, _, e => by cases e
  | x :: ks, _, _, .nil, e => by cases e
  | x :: ks, v :: vs, y :: ds, .cons i c, e => by
    unfold lookKD at e
    by_cases q : x = k
    · rw [if_pos q] at e
      cases e
      exact ⟨v, by rw [List.zip_cons_cons, valV_pos q], i⟩
    · rw [if_neg q] at e
      obtain ⟨w, e1, e2⟩ := valV_look c e
      exact ⟨w, by rw [List.zip_cons_cons]; unfold valV at e1 ⊢; rw [List.find?_cons, decide_eq_false q]; exact e1, e2⟩
def vDIx : V2 := fun x y μ Φ => ∃ ks ds k d, dicOf μ x = some (ks, ds) ∧ keyOf y = some k ∧ lookKD k ks ds = some d ∧ Φ d μ
theorem ve_dget {X : Cx} {E : XK} {o i : Expr} {wo wi : WE} {pos : Pos} (hu : X.A.units + 1 < cLine) (ho : PE X o (up X.K T E wo)) (hi : PE X i (up X.K T E wi)) (hs : NoSl i := by exact fun _ _ => rfl) : PE X (.Subscript o i pos) (up X.K T E (wOp vDIx wo wi)) :=
  pe_mono (pe_dget hu ho hi hs) fun σ H Q ⟨ρ, μ, ev, Φ, en, st, xo, h, k⟩ => ⟨ρ, μ, ev, _, en, st, xo, h, fun x μ1 v H1 hx ix st1 s1 =>
    ⟨ρ, μ1, ev, _, en.step s1, st1, xo.step s1, hx, fun y μ2 w H2 hy iy st2 s2 => by
      obtain ⟨ks, ds, kk, d, e1, e2, e3, q⟩ := hy
      obtain ⟨a, vs, rfl, h1, h2, h3⟩ := is_dic st2 (ix.step s2) e1
      obtain ⟨u, f1, f2⟩ := valV_look h3 e3
      have := key_is iy e2
      subst this
      exact ⟨a, u, rfl, by rw [← f1]; exact DGet.k h1, k d μ2 u H2 q f2 st2 (s1.trans s2)⟩⟩⟩
def putX2 {α : Type} (k : Key) (x : α) : List Key → List α → List α
  | y :: ks, a :: as => (if y = k then x else a) :: putX2 k x ks as
  | _, as => as
theorem put_isAll {μ : Mu} {H : Hp} {k : Key} {v : V} {d : D} (h : Is K μ H v d) : ∀ {ks : List Key} {vs : List V} {ds : List D}, IsAll K μ H vs ds → IsAll K μ H (putX2 k v ks vs) (putX2 k d ks ds)
  | [], _, _, i => by cases i with | nil => exact .nil | cons a b => exact .cons a b
  | y :: ks, _, _, .nil => .nil
  | y :: ks, _, _, .cons i c => by
    unfold putX2
    by_cases q : y = k
    · rw [if_pos q, if_pos q]; exact .cons h (put_isAll h c)
    · rw [if_neg q, if_neg q]; exact .cons i (put_isAll h c)
theorem put_len2 {α : Type} {k : Key} {x : α} : ∀ {ks : List Key} {as : List α}, (putX2 k x ks as).length = as.length
  | [], _ => rfl
  | _ :: _, [] => rfl
  | y :: ks, a :: as => by unfold putX2; rw [List.length_cons, List.length_cons, put_len2]
theorem put_map {k : Key} {v : V} : ∀ {ks : List Key} {vs : List V}, ((ks.zip vs).map fun kv => if kv.1 = k then (kv.1, v) else kv) = ks.zip (putX2 k v ks vs)
  | [], _ => rfl
  | _ :: _, [] => rfl
  | y :: ks, u :: vs => by
    unfold putX2
    rw [List.zip_cons_cons, List.map_cons, List.zip_cons_cons, put_map]
    congr 1
    by_cases q : y = k
    · rw [if_pos q, if_pos q]
    · rw [if_neg q, if_neg q]
theorem put_there {k : Key} {v : V} {ks : List Key} {vs : List V} (l : ks.length = vs.length) (h : k ∈ ks) : putK (ks.zip vs) k v = ks.zip (putX2 k v ks vs) := by
  unfold putK
  rw [if_pos, put_map]
  rw [List.any_eq_true]
  obtain ⟨i, hi, e⟩ := List.mem_iff_getElem.mp h
  refine ⟨(k, vs[i]'(by omega)), ?_, by simp⟩
  rw [List.mem_iff_getElem]
  exact ⟨i, by rw [List.length_zip]; omega, by rw [List.getElem_zip, e]⟩
def vDSet : VSet := fun o i d μ Φ => ∃ a ks ds k, o = .ref a ∧ keyOf i = some k ∧ μ a = some (.dic ks ds) ∧ k ∈ ks ∧ ks.length < sizeLine ∧ Φ (μ.set a (.dic ks (putX2 k d ks ds)))
theorem s_setD : SimSet K T rSetD vDSet := fun o i d vo vi vd μ H Φ Q io ii id st ⟨a, ks, ds, kk, e1, e2, hm, hk, hl, q⟩ k => by
  subst e1; cases io
  have := key_is ii e2
  subst this
  obtain ⟨vs, h1, h2, h3⟩ := st.mo _ _ hm
  have s := step_set (H := H) (m' := .dic ks (putX2 kk d ks ds)) (o := .dK (ks.zip (putX2 kk vd ks vs))) hm
  refine ⟨a, _, rfl, DPut.k h1 (by rw [List.length_zip]; omega), ?_⟩
  rw [put_there h2 hk]
  exact k _ _ q (st.set (m' := .dic ks (putX2 kk d ks ds)) hm ⟨_, upd_same, by rw [put_len2]; exact h2, (put_isAll id h3).step s⟩) s
/-! ### displays -/
def upP (K : PySem.W.Frag) (T : List (Addr × Str)) (E : XK) (ks : List Str) (wa : WA) : L2.St → Hp → (List (V × V) → Hp → Prop) → Prop := fun σ H Q => ∃ ρ μ ev Φ, Sl K μ H σ ρ ∧ Sto K T μ H ∧ XOk K T μ H ev E ∧ wa ρ μ ev Φ ∧
  ∀ ds μ' vs H', Φ ds μ' → IsAll K μ' H' vs ds → ks.length = vs.length → Sto K T μ' H' → Step μ H μ' H' → Q ((ks.zip vs).map fun p => (V.str p.1, p.2)) H'
def PPd (X : Cx) (T : List (Addr × Str)) (E : XK) (pos : Pos) (keys : List (Option Expr)) (values : List Expr) (ks : List Str) (wa : WA) : Prop := ∃ trs, PPs X pos keys values trs ∧ ∀ σ H Q, upP X.K T E ks wa σ H Q → tPairs trs σ H Q
variable {X : Cx} {E : XK} {pos : Pos}
theorem vpp_nil : PPd X T E pos [] [] [] wNil := ⟨[], pps_nil, fun σ H Q ⟨ρ, μ, ev, Φ, en, st, xo, h, k⟩ => k [] μ [] H h .nil rfl st (Step.refl _ _)⟩
theorem vpp_cons {kx v : Expr} {z : Str} {w : WE} {ks : List (Option Expr)} {vs : List Expr} {zs : List Str} {wa : WA} (hk : PE X kx (up X.K T E (wC (.str z)))) (hv : PE X v (up X.K T E w)) (hr : PPd X T E pos ks vs zs wa) : PPd X T E pos (some kx :: ks) (v :: vs) (z :: zs) (wCons w wa) := by
  obtain ⟨trs, hp, hs⟩ := hr
  refine ⟨(_, _) :: trs, pps_cons hk hv hp, fun σ H Q ⟨ρ, μ, ev, Φ, en, st, xo, h, k⟩ => ?_⟩
  refine ⟨ρ, μ, ev, fun d μ' => d = .str z ∧ μ' = μ, en, st, xo, ⟨rfl, rfl⟩, fun d μ' u H1 ⟨e1, e2⟩ iv st1 s1 => ?_⟩
  subst e1 e2
  cases iv
  exact ⟨ρ, _, ev, _, en.step s1, st1, xo.step s1, h, fun x μ1 y H2 hx iy st2 s2 => hs σ H2 _ ⟨ρ, μ1, ev, _, en.step (s1.trans s2), st2, xo.step (s1.trans s2), hx, fun ds μ2 vs H3 hd ia hl st3 s3 => k _ μ2 (y :: vs) H3 hd (.cons (iy.step s3) ia) (by rw [List.length_cons, List.length_cons, hl]) st3 (s1.trans (s2.trans s3))⟩⟩
theorem merge_new : ∀ (more acc : List (Key × V)), (acc ++ more).map (·.1) |>.Nodup → mergeK acc more = acc ++ more
  | [], acc, _ => by simp [mergeK]
  | p :: more, acc, h => by
    have hp : valV acc p.1 = none := by
      unfold valV
      rw [Option.map_eq_none_iff, List.find?_eq_none]
      intro x hx e
      rw [List.map_append, List.map_cons, List.nodup_append] at h
      exact h.2.2 x.1 (List.mem_map.mpr ⟨x, hx, rfl⟩) p.1 (List.mem_cons_self ..) (of_decide_eq_true e)
    show mergeK (putK acc p.1 p.2) more = _
    rw [putK_new _ hp, merge_new more (acc ++ [(p.1, p.2)]) (by rw [List.append_assoc]; exact h), List.append_assoc]; rfl
def wDispM (ks : List Str) (wa : WA) : WE := fun ρ μ ev Φ => ∀ p, μ p = none → wa ρ (μ.set p (.dic [] [])) ev fun ds μ1 => μ1 p = some (.dic [] []) ∧ Φ (.ref p) (μ1.set p (.dic (ks.map .inr) ds))
theorem zip_inr (ks : List Str) (vs : List V) : ((ks.zip vs).map fun p => ((.inr p.1 : Key), p.2)) = (ks.map .inr).zip vs := by
  induction ks generalizing vs with
  | nil => rfl
  | cons x ks ih =>
    cases vs with
    | nil => rfl
    | cons v vs => rw [List.zip_cons_cons, List.map_cons, ih, List.map_cons, List.zip_cons_cons]
theorem ve_dispM {keys : List (Option Expr)} {values : List Expr} {ks : List Str} {wa : WA} (h : PPd X T E pos keys values ks wa) (hall : keys.all (·.isSome) = true) (hl : keys.length = values.length) (h0 : keys ≠ []) (h15 : keys.length ≤ 15) (k15 : ks.length ≤ 15) (nd : ks.Nodup) :
    PE X (.Dict keys values pos) (up X.K T E (wDispM ks wa)) := by
  obtain ⟨trs, hp, hs⟩ := h
  refine pe_mono (pe_disp hp hall hl h0 h15) fun σ H Q ⟨ρ, μ, ev, Φ, en, st, xo, h, k⟩ p hpn => ?_
  have s := step_newM (μ := μ) (m := .dic [] []) (o := .dK []) hpn
  have st1 : Sto X.K T (μ.set p (.dic [] [])) (upd H p (.dK [])) := st.newM hpn ⟨[], upd_same, rfl, .nil⟩
  refine hs σ _ _ ⟨ρ, μ.set p (.dic [] []), ev, _, en.step s, st1, xo.step s, h p (st.free hpn), fun ds μ1 vs H1 hq ia hl2 st2 s2 => ?_⟩
  obtain ⟨hm, q⟩ := hq
  refine ⟨?_, (ks.zip vs).map fun p => ((.inr p.1 : Key), p.2), ?_, ?_, ?_⟩
  · obtain ⟨us, h1, _⟩ := st2.mo _ _ hm
    rw [h1]; rfl
  · rw [List.map_map]; rfl
  · rw [List.length_map, List.length_zip]; omega
  · have e : mergeK [] ((ks.zip vs).map fun p => ((.inr p.1 : Key), p.2)) = (ks.map .inr).zip vs := by
      rw [merge_new _ [] (by
        rw [List.nil_append, zip_inr, List.map_fst_zip (by rw [List.length_map]; omega)]
        exact List.pairwise_map.mpr (nd.imp fun h e => h (Sum.inr.inj e))), List.nil_append, zip_inr]
    rw [e]
    have s3 := step_set (H := H1) (m' := .dic (ks.map .inr) ds) (o := .dK ((ks.map .inr).zip vs)) hm
    exact k _ _ _ _ q (.ref p) (st2.set (m' := .dic (ks.map .inr) ds) hm ⟨vs, upd_same, by rw [List.length_map]; exact hl2, ia.step s3⟩) (s.trans (s2.trans s3))
end VL

set_option maxRecDepth 100000
set_option maxHeartbeats 4000000
/-! range with a step -/
namespace VL
open PySem PySem.Spec PyProof.Rows L2 FW
variable {X : Cx} {T : List (Addr × Str)} {E : XK} {tg : Expr}
def iwR3 (w : WA) : WI := fun ρ μ ev Ψ => w ρ μ ev fun xs μ1 => ∃ (i j c : Int) (n : Nat), xs = [.int i, .int j, .int c] ∧ RgC i j c n ∧ Ψ ((List.range n).map fun k => .int (i + (k : Nat) * c)) noP μ1
theorem itOk_rangeC {K : PySem.W.Frag} {lo c : Int} {n : Nat} {μ : Mu} {H : Hp} : ItOk K T (Itc lo c n) ((List.range n).map fun k => .int (lo + (k : Nat) * c)) noP μ H := fun μ2 H2 s2 st2 _ i => by
  refine ⟨fun d hd => ?_, fun hl => by rw [List.length_map, List.length_range] at hl; exact hl⟩
  rw [List.getElem?_map] at hd
  by_cases hi : i < n
  · rw [List.getElem?_range hi] at hd
    cases hd
    exact ⟨hi, fun y H3 ⟨z1, z2⟩ => by subst z1; subst z2; exact ⟨.int _, st2, Step.refl _ _⟩⟩
  · rw [List.getElem?_eq_none (by rw [List.length_range]; omega)] at hd; cases hd
theorem vi_range3 {a b c : Expr} {w : WA} {p pos : Pos} (hg : Gl X "range") (hm : X.mg "range" = none) (h : PA X [a, b, c] (upA X.K T E w)) (hs : starEach [a, b, c] X.env = (false, eval a X.env) :: starEach [b, c] X.env := by rfl) (hpl : (backTo pos (starEach [b, c] X.env)).any (·.1) = false := by rfl) :
    PI X tg (.Call (.Name "range" p) [a, b, c] [] pos) (upI X.K T E (iwR3 w)) :=
  pi_mono (pi_range3 hg hm h hs hpl) fun σ H R ⟨ρ, μ, ev, Ψ, en, st, xo, h, k⟩ => ⟨ρ, μ, ev, _, en, st, xo, h, fun ds μ1 vs H1 ⟨i, j, c, n, e, hh, q⟩ iv st1 s1 => by
    subst e
    cases iv with
    | cons a b =>
      cases b with
      | cons b c =>
        cases c with
        | cons c d =>
          cases a; cases b; cases c; cases d
          exact ⟨i, j, _, n, rfl, hh, k _ _ μ1 _ H1 q st1 s1 itOk_rangeC⟩⟩
end VL

set_option maxRecDepth 100000
set_option maxHeartbeats 4000000
/-! values as trees: sums, maxima, zip of a tuple and a list, two «for» in a comprehension, comprehended dicts -/
namespace VL
open PySem L2 FW PyProof.Rows
section
variable {K : PySem.W.Frag} {T : List (Addr × Str)}
/-! ### zip of any two sequences -/
def seqF : D → Option (List D)
  | .lst ds => some ds
  | .sq ds => some ds
  | .tup ds => some ds
  | _ => none
def iwZB (w : WA) : WI := fun ρ μ ev Ψ => w ρ μ ev fun xs μ1 => ∃ x y ds es, xs = [x, y] ∧ seqF x = some ds ∧ seqF y = some es ∧ Ψ (zipD ds es) noP μ1
theorem seqF_is {μ : Mu} {H : Hp} {v : V} {d : D} {ds : List D} (h : Is K μ H v d) (e : seqF d = some ds) : ∃ a vs t, v = .ref a ∧ (∀ μ' H', Step μ H μ' H' → SqB t K H' a vs) ∧ IsAll K μ H vs ds := by
  cases h with
  | lst a i => simp only [seqF, Option.some.injEq] at e; subst e; exact ⟨_, _, false, rfl, fun μ' H' s => (AtS.step s (.inl ⟨a.1, .inl a.2⟩)).sq, i⟩
  | sq a i => simp only [seqF, Option.some.injEq] at e; subst e; exact ⟨_, _, false, rfl, fun μ' H' s => (a.step s).sq, i⟩
  | tup a i => simp only [seqF, Option.some.injEq] at e; subst e; exact ⟨_, _, true, rfl, fun μ' H' s => (a.step s).sq, i⟩
  | _ => simp [seqF] at e
theorem vi_zipB {X : Cx} {E : XK} {e e2 : Expr} {w : WA} {p pos tpos : Pos} {elts : List Expr} {kk : Nat} (hg : Gl X "zip") (hm : X.mg "zip" = none) (h : PA X [e, e2] (upA X.K T E w))
    (hs : starEach [e, e2] X.env = (false, eval e X.env) :: starEach [e2] X.env := by rfl) (hpl : (backTo pos (starEach [e2] X.env)).any (·.1) = false := by rfl) : PI X (.Tuple elts kk tpos) (.Call (.Name "zip" p) [e, e2] [] pos) (upI X.K T E (iwZB w)) :=
  pi_mono (pi_zipB hg hm h hs hpl) fun σ H R ⟨ρ, μ, ev, Ψ, en, st, xo, h, k⟩ => ⟨ρ, μ, ev, _, en, st, xo, h, fun xs μ1 us H1 ⟨x, y, ds, es, e, hx, hy, q⟩ iv st1 s1 => by
    subst e
    cases iv with
    | cons ix b =>
      cases b with
      | cons iy c =>
        cases c
        obtain ⟨a, vs, t, rfl, at_, ia⟩ := seqF_is ix hx
        obtain ⟨b, ws, u, rfl, bt_, ib⟩ := seqF_is iy hy
        refine ⟨a, b, vs, ws, t, u, rfl, at_ _ _ (Step.refl _ _), bt_ _ _ (Step.refl _ _), k _ _ μ1 _ H1 q st1 s1 fun μ2 H2 s2 st2 _ i => ⟨fun d hd => ?_, fun hl => ?_⟩⟩
        · obtain ⟨z, z', hz, hz', rfl⟩ := zipD_get hd
          obtain ⟨u1, e1, e2⟩ := (ia.step s2).get hz
          obtain ⟨u2, f1, f2⟩ := (ib.step s2).get hz'
          refine ⟨⟨vs, ws, u1, u2, at_ _ _ s2, bt_ _ _ s2, e1, f1, rfl, rfl⟩, fun y H3 ⟨Tp, x', y', hy, nT, hH, hv, hw⟩ => ?_⟩
          subst hy hH
          have := hv vs (at_ _ _ s2)
          rw [e1] at this; cases this
          have := hw ws (bt_ _ _ s2)
          rw [f1] at this; cases this
          have ss := step_new (μ := μ2) (o := .tup [u1, u2]) nT (st2.free nT)
          exact ⟨.tup (.inl ⟨st2.free nT, upd_same⟩) (.cons (e2.step ss) (.cons (f2.step ss) .nil)), st2.new nT, ss⟩
        · unfold zipD at hl
          rw [List.length_map, List.length_zip] at hl
          exact ⟨vs, ws, at_ _ _ s2, bt_ _ _ s2, rfl, rfl, by rw [ia.len, ib.len]; omega⟩⟩
/-! ### sum, max -/
theorem vs_intV {μ : Mu} {H : Hp} : ∀ {vs : List V} {ns : List Int}, IsAll K μ H vs (ns.map .int) → vs = ns.map V.int
  | _, [], .nil => rfl
  | _, n :: ns, .cons (.int _) b => by rw [vs_intV b]; rfl
def vSum : VL_ := fun xs μ Φ => ∃ (x : D) (ns : List Int), xs = [x] ∧ (fzL x = some (ns.map .int) ∨ lstOf μ x = some (ns.map .int)) ∧ Φ (.int ns.sum) μ
theorem s_sum : SimL K T (rSum K) vSum := fun xs vs μ H Φ Q ia st ⟨x, ns, e, hs, q⟩ k => by
  subst e
  cases ia with
  | cons ix c =>
    cases c
    obtain ⟨a, us, rfl, sq, i⟩ := sqL_of st ix hs
    rw [vs_intV i] at sq
    exact ⟨a, ns, rfl, sq, k.now q (.int _) st⟩
def vMax : VL_ := fun xs μ Φ => ∃ (x : D) (ns : List Int), xs = [x] ∧ (fzL x = some (ns.map .int) ∨ lstOf μ x = some (ns.map .int)) ∧ ns ≠ [] ∧ ∀ m, m ∈ ns → (∀ y ∈ ns, y ≤ m) → Φ (.int m) μ
theorem s_max : SimL K T (rMax K) vMax := fun xs vs μ H Φ Q ia st ⟨x, ns, e, hs, hne, q⟩ k => by
  subst e
  cases ia with
  | cons ix c =>
    cases c
    obtain ⟨a, us, rfl, sq, i⟩ := sqL_of st ix hs
    rw [vs_intV i] at sq
    exact ⟨a, ns, rfl, sq, by cases ns with | nil => exact absurd rfl hne | cons _ _ => simp, fun m h1 h2 => k.now (q m h1 h2) (.int _) st⟩
/-- the greatest, 0 of none (and where all are less) -/
def maxZ (ns : List Int) : Int := ns.foldr max 0
theorem maxZ_le {ns : List Int} : ∀ {m : Int}, 0 ≤ m → (∀ y ∈ ns, y ≤ m) → maxZ ns ≤ m := by
  induction ns with
  | nil => intro m h0 _; exact h0
  | cons n ns ih =>
    intro m h0 h
    have h1 := h n (List.mem_cons_self ..)
    have h2 := ih h0 fun y hy => h y (List.mem_cons_of_mem _ hy)
    show max n (maxZ ns) ≤ m
    omega
theorem le_maxZ {ns : List Int} {y : Int} (h : y ∈ ns) : y ≤ maxZ ns := by
  induction ns with
  | nil => cases h
  | cons n ns ih =>
    show y ≤ max n (maxZ ns)
    rcases List.mem_cons.mp h with e | e
    · omega
    · have := ih e; omega
theorem maxZ_is {ns : List Int} {m : Int} (h0 : ns = [] → m = 0) (h : ns ≠ [] → m ∈ ns ∧ ∀ y ∈ ns, y ≤ m) (hp : ∀ y ∈ ns, 0 ≤ y) : m = maxZ ns := by
  by_cases e : ns = []
  · rw [h0 e, e]; rfl
  · obtain ⟨h1, h2⟩ := h e
    exact Int.le_antisymm (le_maxZ h1) (maxZ_le (hp m h1) h2)
def wCKw (r : List D → List D → Mu → WK → Prop) (w wk : WA) : WE := fun ρ μ ev Φ => w ρ μ ev fun xs μ1 => wk ρ μ1 ev fun zs μ2 => r xs zs μ2 Φ
def vMax0 : List D → List D → Mu → WK → Prop := fun xs zs μ Φ => ∃ (x : D) (ns : List Int), xs = [x] ∧ zs = [.int 0] ∧ (fzL x = some (ns.map .int) ∨ lstOf μ x = some (ns.map .int)) ∧ (∀ n ∈ ns, 0 ≤ n) ∧ Φ (.int (maxZ ns)) μ
theorem ve_maxD {X : Cx} {E : XK} {e : Expr} {es : List Expr} {kws : List Keyword} {w wk : WA} {x : Str} {p pos : Pos} (hc : X.calm = true) (hg : Gl X x) (hm : X.mg x = none) (hv : bootBuiltins x = some (.builtin "max")) (ha : PA X (e :: es) (upA X.K T E w)) (hk : PK X kws (upA X.K T E wk)) (hn : x ≠ "__name__" := by decide) (hdb : (x == ("__debug__" : Str)) = false := by decide)
    (he : backTo pos (starEach (e :: es) X.env) = (false, eval e X.env) :: backTo pos (starEach es X.env) := by rfl) (hpl : (backTo pos (starEach (e :: es) X.env)).any (·.1) = false := by rfl)
    (hall : (backToKw pos (keywordEach kws X.env)).all (·.1.isSome) = true := by rfl) (hnone : (backToKw pos (keywordEach kws X.env)).any (·.1.isNone) = false := by rfl) (hks : (backToKw pos (keywordEach kws X.env)).filterMap (·.1) = [Str.ofString "default"] := by rfl) :
    PE X (.Call (.Name x p) (e :: es) kws pos) (up X.K T E (wCKw vMax0 w wk)) :=
  pe_mono (pe_callBK (cr_maxD0 hc) hg hm hv ha hk hn hdb he hpl hall hnone hks) fun σ H Q ⟨ρ, μ, ev, Φ, en, st, xo, h, k⟩ => ⟨ρ, μ, ev, _, en, st, xo, h, fun xs μ1 vs H1 hx ix st1 s1 => ⟨ρ, μ1, ev, _, en.step s1, st1, xo.step s1, hx, fun zs μ2 us H2 ⟨x, ns, e1, e2, hs, hp, q⟩ iz st2 s2 => by
    subst e1 e2
    cases ix with
    | cons ix c =>
      cases c
      cases iz with
      | cons iz c =>
        cases c; cases iz
        obtain ⟨a, us, rfl, sq, i⟩ := sqL_of st2 (ix.step s2) hs
        rw [vs_intV i] at sq
        exact ⟨a, ns, 0, rfl, rfl, sq, fun m h1 h2 => by rw [maxZ_is h1 h2 hp]; exact k _ _ _ _ q (.int _) st2 (s1.trans s2)⟩⟩⟩
/-! ### slices of lists and tuples -/
theorem cut_all {ds : List D} {lo hi : Option Int} (h : HT.sIx ds.length 0 lo = 0 ∧ HT.sIx ds.length ds.length hi = ds.length) : cutD ds lo hi = ds := by
  unfold cutD
  rw [h.1, h.2]
  simp
def vSlT : VS := fun x lo hi μ Φ => ∃ ds, tupOf x = some ds ∧ Φ (.tup (cutD ds lo hi)) μ
theorem s_slT : SimS K T (rSlA K) vSlT := fun x v lo hi μ H Φ Q ix st ⟨ds, e, q⟩ k => by
  obtain ⟨a, vs, rfl, at_, ia⟩ := tupOf_is ix e
  refine ⟨a, vs, rfl, at_.sq, fun h => ?_, fun _ p hp => k.tup q (cut_is ia lo hi) st p hp⟩
  rw [ia.len] at h
  rw [cut_all h] at q
  have : x = .tup ds := by cases x <;> simp [tupOf] at e; rw [e]
  rw [← this] at q
  exact k.now q ix st
/-- a list's slice is a list, a tuple's a tuple -/
def vSlA : VS := fun x lo hi μ Φ => (∃ ds, x = .lst ds ∧ Φ (.lst (cutD ds lo hi)) μ) ∨ (∃ ds, x = .tup ds ∧ Φ (.tup (cutD ds lo hi)) μ)
theorem s_slA : SimS K T (fun x lo hi H Q => rSlL K x lo hi H Q ∨ rSlA K x lo hi H Q) vSlA := fun x v lo hi μ H Φ Q ix st h k => by
  rcases h with ⟨ds, e, q⟩ | ⟨ds, e, q⟩
  · exact .inl (s_slL x v lo hi μ H Φ Q ix st ⟨ds, .inl (by rw [e]; rfl), q⟩ k)
  · exact .inr (s_slT x v lo hi μ H Φ Q ix st ⟨ds, by rw [e]; rfl, q⟩ k)
/-! ### texts' questions -/
def okStr : D → Mu → Prop := fun x _ => ∃ z, x = .str z
def vStrQ (f : Str → Bool) : VM := fun x xs μ Φ => ∃ z, x = .str z ∧ xs = [] ∧ Φ (.bl (f z)) μ
theorem s_strQ {f : Str → Bool} : SimM K T "str" (fun x xs H Q => ∃ a, x = .str a ∧ xs = [] ∧ True ∧ Q (.bl (f a)) H) okStr (vStrQ f) :=
  ⟨fun x v μ H ix st ⟨z, e⟩ => by subst e; cases ix; rfl, fun x xs v vs μ H Φ Q ix ia st ⟨z, e1, e2, q⟩ k => by
    subst e1 e2
    cases ix; cases ia
    exact ⟨z, rfl, rfl, trivial, k.now q (.bl _) st⟩⟩
end
/-! ### two «for» in one comprehension -/
def lcI (P : Mu → Prop) (p : Pat) (t : WT) (w : WE) (vs : List Nat) (ρ : Ro) (ev : EV) (Ds : Addr) (N : Mu → Prop) : List D → Mu → Prop
  | [], μ => P μ ∧ N μ
  | d :: ds, μ => P μ ∧ ∃ ρ1, p.bind d (wipeR ρ vs) = some ρ1 ∧ t ρ1 μ ev fun b μ1 => if b = true then w ρ1 μ1 ev fun y μ2 => ∃ acc, μ2 Ds = some (.lst acc) ∧ acc.length < sizeLine ∧ lcI P p t w vs ρ ev Ds N ds (μ2.set Ds (.lst (acc ++ [y]))) else lcI P p t w vs ρ ev Ds N ds μ1
def lcO (P : Mu → Prop) (p : Pat) (t : WT) (wi1 : WI) (p1 : Pat) (t1 : WT) (w : WE) (vs vs1 : List Nat) (ρ : Ro) (ev : EV) (Ds : Addr) (Φ : WK) : List D → Mu → Prop
  | [], μ => P μ ∧ Φ (.ref Ds) μ
  | d :: ds, μ => P μ ∧ ∃ ρ1, p.bind d (wipeR ρ vs) = some ρ1 ∧ t ρ1 μ ev fun b μ1 => if b = true then wi1 ρ1 μ1 ev fun ds1 P1 μ2 => lcI P1 p1 t1 w vs1 ρ1 ev Ds (lcO P p t wi1 p1 t1 w vs vs1 ρ ev Ds Φ ds) ds1 μ2 else lcO P p t wi1 p1 t1 w vs vs1 ρ ev Ds Φ ds μ1
def wLc2 (wi : WI) (p : Pat) (t : WT) (wi1 : WI) (p1 : Pat) (t1 : WT) (w : WE) (vs vs1 : List Nat) : WE := fun ρ μ ev Φ => wi ρ μ ev fun ds P μ1 => ∀ Ds, μ1 Ds = none → lcO P p t wi1 p1 t1 w vs vs1 ρ ev Ds Φ ds (μ1.set Ds (.lst []))
section
variable {X : Cx} {T : List (Addr × Str)} {E : XK} {tg iter tg1 iter1 : Expr} {pos : Pos}
theorem lcI_up {K : PySem.W.Frag} {J : It} {ds : List D} {P : Mu → Prop} {μ0 μ1 : Mu} {H0 H1 : Hp} {p : Pat} {t : WT} {w : WE} {vs : List Nat} {ρ : Ro} {σ : L2.St} {ev : EV} {Ds : Addr} {N : Mu → Prop} {Nx : Hp → Prop} (en : Sl K μ1 H1 σ ρ) (st1 : Sto K T μ1 H1) (s0 : Step μ0 H0 μ1 H1) (xo : XOk K T μ1 H1 ev E) (k : ∀ μ H, Sto K T μ H → Step μ0 H0 μ H → N μ → Nx H)
    (it : ItOk K T J ds P μ1 H1) (hv : ∀ i ∈ p.slots, i ∈ vs) (q : lcI P p t w vs ρ ev Ds N ds μ1) :
    ∃ W : Nat → Nat → Hp → Prop, (∃ m, W 0 m H1) ∧ ∀ i m H, W i m H → (J.stop i H ∧ Nx H) ∨ (J.go i H ∧ ∃ Nx1 : Hp → Prop, (∀ H', Nx1 H' → ∃ m', m' < m ∧ W (i + 1) m' H') ∧ ∀ x H', J.yld i H x H' → p.tg K x (wipe σ vs) H' fun σ2 H2 => wipe σ2 vs = wipe σ vs ∧ upT K T E t σ2 H2 fun b H3 =>
      if b = true then up K T E w σ2 H3 fun y H4 => ∃ acc, H4 Ds = some (.lst acc) ∧ acc.length < sizeLine ∧ Nx1 (upd H4 Ds (.lst (acc ++ [y]))) else Nx1 H3) := by
  refine ⟨fun i m H2 => m = ds.length - i ∧ i ≤ ds.length ∧ ∃ μ2, Sto K T μ2 H2 ∧ Step μ1 H1 μ2 H2 ∧ lcI P p t w vs ρ ev Ds N (ds.drop i) μ2, ⟨_, rfl, Nat.zero_le _, μ1, st1, Step.refl _ _, q⟩, fun i m H2 ⟨em, hi, μ2, st2, s2, q2⟩ => ?_⟩
  by_cases hl : i < ds.length
  · have ed : ds.drop i = ds[i] :: ds.drop (i + 1) := (List.drop_eq_getElem_cons hl)
    rw [ed] at q2
    obtain ⟨hP, ρ1, hb, q2⟩ := q2
    obtain ⟨go, yl⟩ := (it μ2 H2 s2 st2 hP i).1 ds[i] (by simp [hl])
    refine .inr ⟨go, fun H3 => ∃ μ3, Sto K T μ3 H3 ∧ Step μ1 H1 μ3 H3 ∧ lcI P p t w vs ρ ev Ds N (ds.drop (i + 1)) μ3, fun H3 ⟨μ3, z2, z3, z4⟩ => ⟨ds.length - (i + 1), by omega, rfl, by omega, μ3, z2, z3, z4⟩, fun x H3 y => ?_⟩
    obtain ⟨ix, st3, s3⟩ := yl x H3 y
    have s13 := s2.trans s3
    refine Pat.run p ix ((en.step s13).wipe vs) hb fun σ2 en2 sm => ⟨sm.wipe hv, ρ1, μ2, ev, _, en2, st3, xo.step s13, q2, fun b μ4 H4 q4 st4 s4 => ?_⟩
    cases b with
    | false => exact ⟨μ4, st4, s13.trans s4, q4⟩
    | true =>
      refine ⟨ρ1, μ4, ev, _, en2.step s4, st4, xo.step (s13.trans s4), q4, fun y μ5 v H5 ⟨acc, ha, hn, q5⟩ iy st5 s5 => ?_⟩
      obtain ⟨us, hu, iu⟩ := st5.mo _ _ ha
      have s6 := step_set (H := H5) (m' := .lst (acc ++ [y])) (o := .lst (us ++ [v])) ha
      exact ⟨us, hu, by rw [iu.len]; exact hn, _, st5.set (m' := .lst (acc ++ [y])) ha ⟨_, upd_same, (iu.app (.cons iy .nil)).step s6⟩, s13.trans (s4.trans (s5.trans s6)), q5⟩
  · have ei : i = ds.length := by omega
    subst ei
    rw [List.drop_length] at q2
    obtain ⟨hP, q2⟩ := q2
    exact .inl ⟨(it μ2 H2 s2 st2 hP _).2 (Nat.le_refl _), k μ2 H2 st2 (s0.trans s2) q2⟩
theorem ve_lc2 {elt : Expr} {ifs ifs1 : List Expr} {scope : Scope} {own : List (Str × Nat)} {wi wi1 : WI} {p p1 : Pat} {t t1 : WT} {w : WE} {vs1 : List Nat} (hc : X.calm = true) (hN : X.N.Nodup) (hi : PI X tg iter (upI X.K T E wi)) (ok : BlkOk X.N X.env.scope scope own) (hv1 : ∀ i ∈ vs1, i ∈ own.map (·.2))
    (hg : ∀ (s : Shared) (H : Hp) (C : Addr) (cl : List (Str × Addr)) (fp : List Addr), PG (X.blk s H scope (compEnvC scope cl C X.env) fp) tg (p.tg X.K)) (ht : ∀ (s : Shared) (H : Hp) (C : Addr) (cl : List (Str × Addr)) (fp : List Addr), PTs (X.blk s H scope (compEnvC scope cl C X.env) fp) ifs (upT X.K T E0 t))
    (hi1 : ∀ (s : Shared) (H : Hp) (C : Addr) (cl : List (Str × Addr)) (fp : List Addr), PI (X.blk s H scope (compEnvC scope cl C X.env) fp) tg1 iter1 (upI X.K T E0 wi1)) (hg1 : ∀ (s : Shared) (H : Hp) (C : Addr) (cl : List (Str × Addr)) (fp : List Addr), PG (X.blk s H scope (compEnvC scope cl C X.env) fp) tg1 (p1.tg X.K))
    (ht1 : ∀ (s : Shared) (H : Hp) (C : Addr) (cl : List (Str × Addr)) (fp : List Addr), PTs (X.blk s H scope (compEnvC scope cl C X.env) fp) ifs1 (upT X.K T E0 t1)) (he : ∀ (s : Shared) (H : Hp) (C : Addr) (cl : List (Str × Addr)) (fp : List Addr), PE (X.blk s H scope (compEnvC scope cl C X.env) fp) elt (up X.K T E0 w))
    (hv : ∀ i ∈ p.slots, i ∈ own.map (·.2)) (hw1 : ∀ i ∈ p1.slots, i ∈ vs1) (hs : ∀ x, foldedSetIterable iter X.env x = pure x := by intro _; rfl) (hs1 : ∀ env x, foldedSetIterable iter1 env x = pure x := by intro _ _; rfl) :
    PE X (.ListComp elt [⟨tg, iter, ifs, 0⟩, ⟨tg1, iter1, ifs1, 0⟩] scope pos) (up X.K T E (fun ρ μ _ Φ => wLc2 wi p t wi1 p1 t1 w (own.map (·.2)) vs1 ρ μ ev0 Φ)) :=
  pe_mono (pe_lc2 (own := own) (vs1 := vs1) hc hN hi ok hv1 hg ht hi1 hg1 ht1 he hs hs1) fun σ H Q ⟨ρ, μ, ev, Φ, en0, st, xo, h, k⟩ => ⟨ρ, μ, ev0, _, en0, st, xok0, h, fun ds P μ1 J H1 q st1 s1 it Ds nD => by
    have en := en0.step s1
    have fD := st1.free nD
    have sN := step_newM (μ := μ1) (m := .lst []) (o := .lst []) nD
    refine ⟨fun i m H2 => m = ds.length - i ∧ i ≤ ds.length ∧ ∃ μ2, Sto X.K T μ2 H2 ∧ Step μ1 H1 μ2 H2 ∧ lcO P p t wi1 p1 t1 w (own.map (·.2)) vs1 ρ ev0 Ds Φ (ds.drop i) μ2, ⟨_, rfl, Nat.zero_le _, _, st1.newM (m := .lst []) (o := .lst []) nD ⟨[], upd_same, .nil⟩, sN, q Ds fD⟩, fun i m H2 ⟨em, hi, μ2, st2, s2, q2⟩ => ?_⟩
    by_cases hl : i < ds.length
    · have ed : ds.drop i = ds[i] :: ds.drop (i + 1) := (List.drop_eq_getElem_cons hl)
      rw [ed] at q2
      obtain ⟨hP, ρ1, hb, q2⟩ := q2
      obtain ⟨go, yl⟩ := (it μ2 H2 s2 st2 hP i).1 ds[i] (by simp [hl])
      refine .inr ⟨go, fun H3 => ∃ μ3, Sto X.K T μ3 H3 ∧ Step μ1 H1 μ3 H3 ∧ lcO P p t wi1 p1 t1 w (own.map (·.2)) vs1 ρ ev0 Ds Φ (ds.drop (i + 1)) μ3, fun H3 ⟨μ3, z2, z3, z4⟩ => ⟨ds.length - (i + 1), by omega, rfl, by omega, μ3, z2, z3, z4⟩, fun x H3 y => ?_⟩
      obtain ⟨ix, st3, s3⟩ := yl x H3 y
      have s13 := s2.trans s3
      refine Pat.run p ix ((en.step s13).wipe _) hb fun σ2 en2 sm => ⟨sm.wipe hv, ρ1, μ2, ev0, _, en2, st3, xok0, q2, fun b μ4 H4 q4 st4 s4 => ?_⟩
      cases b with
      | false => exact ⟨μ4, st4, s13.trans s4, q4⟩
      | true => exact ⟨ρ1, μ4, ev0, _, en2.step s4, st4, xok0, q4, fun ds1 P1 μ5 J1 H5 q5 st5 s5 it1 => lcI_up (μ0 := μ1) (H0 := H1) (en2.step (s4.trans s5)) st5 (s13.trans (s4.trans s5)) xok0 (fun μ6 H6 st6 s6 q6 => ⟨μ6, st6, s6, q6⟩) it1 hw1 q5⟩
    · have ei : i = ds.length := by omega
      subst ei
      rw [List.drop_length] at q2
      obtain ⟨hP, q2⟩ := q2
      exact .inl ⟨(it μ2 H2 s2 st2 hP _).2 (Nat.le_refl _), k _ _ _ _ q2 (.ref Ds) st2 (s1.trans s2)⟩⟩
/-- items that change nothing: what is left is all items of all -/
theorem lcm2 {p p1 : Pat} {t t1 : WT} {wi1 : WI} {w : WE} {vs vs1 : List Nat} {ρ : Ro} {ev : EV} {Φ : WK} (f : D → List D) {ds : List D} {μ0 : Mu} {Ds : Addr} (hn : (ds.flatMap f).length ≤ sizeLine) (h0 : μ0 Ds = none)
    (turn : ∀ d ∈ ds, ∀ (l : List D) (N : Mu → Prop) (acc : List D), acc.length + (f d).length ≤ sizeLine → N (μ0.set Ds (.lst (acc ++ f d))) → ∃ ρ1, p.bind d (wipeR ρ vs) = some ρ1 ∧ t ρ1 (μ0.set Ds (.lst acc)) ev fun b μ1 => if b = true then wi1 ρ1 μ1 ev fun ds1 P1 μ2 => lcI P1 p1 t1 w vs1 ρ1 ev Ds N ds1 μ2 else N μ1)
    (k : Φ (.ref Ds) (μ0.set Ds (.lst (ds.flatMap f)))) : lcO noP p t wi1 p1 t1 w vs vs1 ρ ev Ds Φ ds (μ0.set Ds (.lst [])) := by
  have go : ∀ (es : List D) (acc : List D), (∀ d ∈ es, d ∈ ds) → acc ++ es.flatMap f = ds.flatMap f → lcO noP p t wi1 p1 t1 w vs vs1 ρ ev Ds Φ es (μ0.set Ds (.lst acc)) := by
    intro es
    induction es with
    | nil => intro acc _ e; rw [List.flatMap_nil, List.append_nil] at e; exact ⟨trivial, by rw [e]; exact k⟩
    | cons d es ih =>
      intro acc hm e
      refine ⟨trivial, ?_⟩
      have hl : (acc ++ (d :: es).flatMap f).length ≤ sizeLine := by rw [e]; exact hn
      rw [List.flatMap_cons, List.length_append, List.length_append] at hl
      exact turn d (hm d (List.mem_cons_self ..)) [] (lcO noP p t wi1 p1 t1 w vs vs1 ρ ev Ds Φ es) acc (by omega) (ih (acc ++ f d) (fun x hx => hm x (List.mem_cons_of_mem _ hx)) (by rw [List.append_assoc]; exact e))
  exact go ds [] (fun _ h => h) rfl
theorem lcmI {p : Pat} {t : WT} {w : WE} {vs : List Nat} {ρ : Ro} {ev : EV} {N : Mu → Prop} {P : Mu → Prop} (g : D → D) {μ0 : Mu} {Ds : Addr} (hP : ∀ acc, P (μ0.set Ds (.lst acc))) : ∀ {ds : List D} {acc : List D}, acc.length + ds.length ≤ sizeLine →
    (∀ d ∈ ds, ∀ acc, ∃ ρ1, p.bind d (wipeR ρ vs) = some ρ1 ∧ ∀ (Ψ : WK) (Λ : Mu → Prop), Ψ (g d) (μ0.set Ds (.lst acc)) → t ρ1 (μ0.set Ds (.lst acc)) ev fun b μ1 => if b = true then w ρ1 μ1 ev Ψ else Λ μ1) → N (μ0.set Ds (.lst (acc ++ ds.map g))) → lcI P p t w vs ρ ev Ds N ds (μ0.set Ds (.lst acc))
  | [], acc, _, _, k => by rw [List.map_nil, List.append_nil] at k; exact ⟨hP _, k⟩
  | d :: ds, acc, hl, turn, k => by
    rw [List.length_cons] at hl
    obtain ⟨ρ1, hb, q⟩ := turn d (List.mem_cons_self ..) acc
    refine ⟨hP _, ρ1, hb, q _ _ ⟨acc, Mu.same, by omega, ?_⟩⟩
    have e : (μ0.set Ds (.lst acc)).set Ds (.lst (acc ++ [g d])) = μ0.set Ds (.lst (acc ++ [g d])) := by
      funext b
      by_cases h : b = Ds
      · rw [h, Mu.same, Mu.same]
      · rw [Mu.ne h, Mu.ne h, Mu.ne h]
    rw [e]
    exact lcmI g hP (by rw [List.length_append, List.length_singleton]; omega) (fun x hx => turn x (List.mem_cons_of_mem _ hx)) (by rw [List.append_assoc]; exact k)
/-! ### dicts comprehended -/
def hasK (k : Key) (ks : List Key) : Bool := ks.any fun y => decide (y = k)
theorem hasK_iff {k : Key} {ks : List Key} : hasK k ks = true ↔ k ∈ ks := by simp [hasK]
def addK (k : Key) (ks : List Key) : List Key := if hasK k ks = true then ks else ks ++ [k]
def addV {α : Type} (k : Key) (x : α) (ks : List Key) (es : List α) : List α := if hasK k ks = true then putX2 k x ks es else es ++ [x]
theorem add_len {α : Type} {k : Key} {x : α} {ks : List Key} {es : List α} (h : ks.length = es.length) : (addK k ks).length = (addV k x ks es).length := by
  unfold addK addV
  by_cases q : hasK k ks = true
  · rw [if_pos q, if_pos q, put_len2]; exact h
  · rw [if_neg q, if_neg q, List.length_append, List.length_append, h]; rfl
theorem add_zip {k : Key} {v : V} {ks : List Key} {vs : List V} (h : ks.length = vs.length) : putK (ks.zip vs) k v = (addK k ks).zip (addV k v ks vs) := by
  unfold addK addV
  by_cases q : hasK k ks = true
  · rw [if_pos q, if_pos q]; exact put_there h (hasK_iff.mp q)
  · rw [if_neg q, if_neg q]
    have hv : valV (ks.zip vs) k = none := by
      unfold valV
      rw [Option.map_eq_none_iff, List.find?_eq_none]
      intro x hx e
      have h1 := (List.of_mem_zip (show (x.1, x.2) ∈ ks.zip vs from hx)).1
      rw [show x.1 = k from of_decide_eq_true e] at h1
      exact q (hasK_iff.mpr h1)
    rw [putK_new _ hv, List.zip_append h]; rfl
theorem add_all {K : PySem.W.Frag} {μ : Mu} {H : Hp} {k : Key} {v : V} {d : D} {ks : List Key} {vs : List V} {ds : List D} (i : Is K μ H v d) (h : IsAll K μ H vs ds) : IsAll K μ H (addV k v ks vs) (addV k d ks ds) := by
  unfold addV
  by_cases q : hasK k ks = true
  · rw [if_pos q, if_pos q]; exact put_isAll i h
  · rw [if_neg q, if_neg q]; exact h.app (.cons i .nil)
def lcK (P : Mu → Prop) (p : Pat) (t : WT) (wk wv : WE) (vs : List Nat) (ρ : Ro) (ev : EV) (Ds : Addr) (Φ : WK) : List D → Mu → Prop
  | [], μ => P μ ∧ Φ (.ref Ds) μ
  | d :: ds, μ => P μ ∧ ∃ ρ1, p.bind d (wipeR ρ vs) = some ρ1 ∧ t ρ1 μ ev fun b μ1 => if b = true then wk ρ1 μ1 ev fun y μ2 => wv ρ1 μ2 ev fun z μ3 => ∃ ks es k, keyOf y = some k ∧ μ3 Ds = some (.dic ks es) ∧ ks.length < sizeLine ∧ lcK P p t wk wv vs ρ ev Ds Φ ds (μ3.set Ds (.dic (addK k ks) (addV k z ks es))) else lcK P p t wk wv vs ρ ev Ds Φ ds μ1
def wDc (wi : WI) (p : Pat) (t : WT) (wk wv : WE) (vs : List Nat) : WE := fun ρ μ ev Φ => wi ρ μ ev fun ds P μ1 => ∀ Ds, μ1 Ds = none → lcK P p t wk wv vs ρ ev Ds Φ ds (μ1.set Ds (.dic [] []))
theorem ve_dc {kx vx : Expr} {ifs : List Expr} {scope : Scope} {own : List (Str × Nat)} {wi : WI} {p : Pat} {t : WT} {wk wv : WE} (hc : X.calm = true) (hN : X.N.Nodup) (hi : PI X tg iter (upI X.K T E wi)) (ok : BlkOk X.N X.env.scope scope own)
    (hg : ∀ (s : Shared) (H : Hp) (C : Addr) (cl : List (Str × Addr)) (fp : List Addr), PG (X.blk s H scope (compEnvC scope cl C X.env) fp) tg (p.tg X.K)) (ht : ∀ (s : Shared) (H : Hp) (C : Addr) (cl : List (Str × Addr)) (fp : List Addr), PTs (X.blk s H scope (compEnvC scope cl C X.env) fp) ifs (upT X.K T E0 t))
    (hk : ∀ (s : Shared) (H : Hp) (C : Addr) (cl : List (Str × Addr)) (fp : List Addr), PE (X.blk s H scope (compEnvC scope cl C X.env) fp) kx (up X.K T E0 wk)) (he : ∀ (s : Shared) (H : Hp) (C : Addr) (cl : List (Str × Addr)) (fp : List Addr), PE (X.blk s H scope (compEnvC scope cl C X.env) fp) vx (up X.K T E0 wv))
    (hv : ∀ i ∈ p.slots, i ∈ own.map (·.2)) (hs : ∀ x, foldedSetIterable iter X.env x = pure x := by intro _; rfl) : PE X (.DictComp kx vx [⟨tg, iter, ifs, 0⟩] scope pos) (up X.K T E (fun ρ μ _ Φ => wDc wi p t wk wv (own.map (·.2)) ρ μ ev0 Φ)) :=
  pe_mono (pe_dc (own := own) hc hN hi ok hg ht hk he hs) fun σ H Q ⟨ρ, μ, ev, Φ, en0, st, xo, h, k⟩ => ⟨ρ, μ, ev0, _, en0, st, xok0, h, fun ds P μ1 J H1 q st1 s1 it Ds nD => by
    have en := en0.step s1
    have fD := st1.free nD
    have sN := step_newM (μ := μ1) (m := .dic [] []) (o := .dK []) nD
    refine ⟨fun i m H2 => m = ds.length - i ∧ i ≤ ds.length ∧ ∃ μ2, Sto X.K T μ2 H2 ∧ Step μ1 H1 μ2 H2 ∧ lcK P p t wk wv (own.map (·.2)) ρ ev0 Ds Φ (ds.drop i) μ2, ⟨_, rfl, Nat.zero_le _, _, st1.newM (m := .dic [] []) (o := .dK []) nD ⟨[], upd_same, rfl, .nil⟩, sN, q Ds fD⟩, fun i m H2 ⟨em, hi, μ2, st2, s2, q2⟩ => ?_⟩
    by_cases hl : i < ds.length
    · have ed : ds.drop i = ds[i] :: ds.drop (i + 1) := (List.drop_eq_getElem_cons hl)
      rw [ed] at q2
      obtain ⟨hP, ρ1, hb, q2⟩ := q2
      obtain ⟨go, yl⟩ := (it μ2 H2 s2 st2 hP i).1 ds[i] (by simp [hl])
      refine .inr ⟨go, fun H3 => ∃ μ3, Sto X.K T μ3 H3 ∧ Step μ1 H1 μ3 H3 ∧ lcK P p t wk wv (own.map (·.2)) ρ ev0 Ds Φ (ds.drop (i + 1)) μ3, fun H3 ⟨μ3, z2, z3, z4⟩ => ⟨ds.length - (i + 1), by omega, rfl, by omega, μ3, z2, z3, z4⟩, fun x H3 y => ?_⟩
      obtain ⟨ix, st3, s3⟩ := yl x H3 y
      have s13 := s2.trans s3
      refine Pat.run p ix ((en.step s13).wipe _) hb fun σ2 en2 sm => ⟨sm.wipe hv, ρ1, μ2, ev0, _, en2, st3, xok0, q2, fun b μ4 H4 q4 st4 s4 => ?_⟩
      cases b with
      | false => exact ⟨μ4, st4, s13.trans s4, q4⟩
      | true =>
        refine ⟨ρ1, μ4, ev0, _, en2.step s4, st4, xok0, q4, fun y μ5 vy H5 q5 iy st5 s5 => ⟨ρ1, μ5, ev0, _, en2.step (s4.trans s5), st5, xok0, q5, fun z μ6 vz H6 ⟨ks, es, kk, e1, hm, hn, q6⟩ iz st6 s6 => ?_⟩⟩
        obtain ⟨us, hu, hl2, iu⟩ := st6.mo _ _ hm
        have hy := key_is (iy.step s6) e1
        have s7 := step_set (H := H6) (m' := .dic (addK kk ks) (addV kk z ks es)) (o := .dK ((addK kk ks).zip (addV kk vz ks us))) hm
        refine ⟨ks.zip us, kk, hy, hu, by rw [List.length_zip]; omega, ?_⟩
        rw [add_zip hl2]
        exact ⟨_, st6.set (m' := .dic (addK kk ks) (addV kk z ks es)) hm ⟨_, upd_same, add_len hl2, (add_all iz iu).step s7⟩, s13.trans (s4.trans (s5.trans (s6.trans s7))), q6⟩
    · have ei : i = ds.length := by omega
      subst ei
      rw [List.drop_length] at q2
      obtain ⟨hP, q2⟩ := q2
      exact .inl ⟨(it μ2 H2 s2 st2 hP _).2 (Nat.le_refl _), k _ _ _ _ q2 (.ref Ds) st2 (s1.trans s2)⟩⟩
def keyD : Key → D
  | .inl i => .int i
  | .inr z => .str z
def vTupD : VL_ := fun xs μ Φ => ∃ x ks ds, xs = [x] ∧ dicOf μ x = some (ks, ds) ∧ Φ (.tup (ks.map keyD)) μ
theorem is_keys {K : PySem.W.Frag} {μ : Mu} {H : Hp} : ∀ ks : List Key, IsAll K μ H (ks.map kV) (ks.map keyD)
  | [] => .nil
  | .inl i :: ks => .cons (.int i) (is_keys ks)
  | .inr z :: ks => .cons (.str z) (is_keys ks)
theorem s_tupD {K : PySem.W.Frag} : SimL K T rTupD vTupD := fun xs vs μ H Φ Q ia st ⟨x, ks, ds, e, hd, q⟩ k => by
  subst e
  cases ia with
  | cons ix c =>
    cases c
    obtain ⟨a, us, rfl, h1, h2, h3⟩ := is_dic st ix hd
    refine ⟨a, _, rfl, h1, fun p hp => ?_⟩
    have e : (ks.zip us).map (fun kv => kV kv.1) = ks.map kV := by
      rw [show (fun kv : Key × V => kV kv.1) = kV ∘ Prod.fst from rfl, ← List.map_map, List.map_fst_zip (by omega)]
    rw [e]
    exact k.tup q (is_keys ks) st p hp
end
end VL

set_option maxRecDepth 100000
set_option maxHeartbeats 4000000
/-! values as trees: a def that hears, «except c as n: y = n.f» ahead of other handlers -/
namespace VL
open PySem PySem.Spec L2 FW PyProof.Rows LamX
def hearXF (K : PySem.W.Frag) (T : List (Addr × Str)) (c : Value) (fl : Str) (r : WS) (Q : VK) : XK := fun cls d H' => PySem.W.exmOne K cls c = some true ∧ ∀ (σ' : L2.St) (a : Addr), H' a = none → σ'.length = 3 →
  up K T C8.E0 (wXt K fl (wVar 2)) (σ'.set 2 (some (.ref a))) (upd H' a (ExT a cls d)) fun v H'' => upS K T C8.E0 r (hearE Q) (((σ'.set 2 (some (.ref a))).set 1 (some v)).set 2 none) H''
def TThearF (K : PySem.W.Frag) (T : List (Addr × Str)) (c : Value) (fl : Str) (r : WS) : (XK → Hp → VK → Prop) → Hp → VK → Prop := fun tl H Q =>
  ∀ (E' : XK) (Q' : VK), (∀ cls d H', hearXF K T c fl r Q cls d H' → E' cls d H') → (∀ v H', hearQ K T r Q v H' → Q' v H') → tl E' H Q'
section
variable {X : Cx} {T : List (Addr × Str)}
theorem hear_givesF {Ng : List Str} {x a n y ex q fl : Str} {sg : Scope} {g : Addr} {cdg c : Value} {hds : List ExceptHandler} {rest : List Stmt} {r : WS} {j1 : _} {p1 p2 p3 p4 p5 p6 p7 p8 p9 p10 p11 p12 p13 : Pos} (hNg : Ng = [a, y, n]) (nd : Ng.Nodup)
    (hx1 : Loc sg y) (hx2 : sg.names.lookup y = some .local) (hx3 : sg.names.lookup n = some .local) (hn1 : (n == ("__debug__" : Str)) = false) (hn2 : (n == ("__classdict__" : Str)) = false)
    (hc : ∀ (s : Shared) (H : Hp), Names (cxOf C8.CX0 X.prog X.w X.K X.mg X.base Ng x sg g cdg X.A X.stack s H C8.E0).nox ex c)
    (hrest : ∀ (s : Shared) (H : Hp), PSs (cxOf C8.CX0 X.prog X.w X.K X.mg X.base Ng x sg g cdg X.A X.stack s H C8.E0).nox rest (upS X.K T C8.E0 r)) :
    GivesTo X Ng x sg g cdg (.Assign [.Name y p1] (.Constant .none j1 p2) p3 :: .Try [.Expr (.Call (.Name a p4) [] [] p5) p6] (.ExceptHandler (some (.Name ex p7)) (some n) [.Assign [.Name y p8] (.Attribute (.Name n p9) fl p13) p10] p11 :: hds) [] [] p12 :: rest) a q (TThearF X.K T c fl r) := by
  subst hNg
  intro f c' s H Q tl act hk h
  refine ⟨_, pss_cons (ps_set (i := 1) nd rfl hx1 pe_non) (pss_cons (ps_try_keepE (i := 2) (j := 1) (c := c) (te := up X.K T C8.E0 (wXt X.K fl (wVar 2))) (tb := fun W D σ H => σ[0]? = some (some (.ref f)) ∧ H c' = some (CodeO c' q) ∧ tl (fun cls d H' => ∀ σ', W cls d σ' H') H (fun _ H' => D.nx σ H')) rfl rfl nd rfl hx3 rfl hx2 (by decide) (hc s H)
    (fun W pn xe tk _ => ⟨fun pins s' σ H' D I ⟨h1, h2, h3⟩ => (pss_one (ps_expr (act W pn xe _ _ _ tk (fun cls d σ' H' hh => hh σ')))).run pins s' σ H' D I ⟨h1, h2, h3⟩⟩)
    (fun a0 pn => ve_xt (vv 2 rfl (Or.inl hx3) hn1 hn2))) (hrest s H)), ?_⟩
  exact ⟨by simp [L2.start], rfl, hk, h _ _ (fun cls d H' z σ' => ⟨z.1, fun a na hl => z.2 σ' a na hl⟩) fun v H' z => z _ rfl rfl⟩
end
def wHearF (K : PySem.W.Frag) (c : Value) (fl : Str) (r : WS) (w : WE) : WE := fun ρ μ _ Φ => w ρ μ (fun C ns ds μ' => PySem.W.exmOne K (.ref C) c = some true ∧ XfC K C ∧ PySem.W.findIn K (.ref C) fl = some none ∧ ∃ x, lookD fl ns ds = some x ∧ r (hearD Φ) [none, some x, none] μ' ev0) (fun _ μ' => r (hearD Φ) [none, some .non, none] μ' ev0)
section
variable {K : PySem.W.Frag} {T : List (Addr × Str)} {E : XK} {w : WE} {r : WS} {c : Value} {fl : Str}
theorem hear_upF {σ : L2.St} {H : Hp} {Q : VK} (h : up K T E (wHearF K c fl r w) σ H Q) : tLam T (TThearF K T c fl r) (fun E' => up K T E' w) σ H Q := by
  obtain ⟨ρ, μ, ev, Φ, en, st, xo, h, k⟩ := h
  refine ⟨st.tab, fun H1 eN T1 E' Q' hE hQ => ?_⟩
  have s0 : Step μ H μ H1 := step_extN eN
  refine ⟨ρ, μ, _, _, en.step s0, st.extN eN T1, ?_, h, ?_⟩
  · intro C ns ds vs dd μ' H' ⟨q1, xf, no, x, q2, q3⟩ hd md hl ia st1 s1
    refine hE _ _ _ ⟨q1, fun σ' a na l3 => ?_⟩
    have nd : dd ≠ a := fun e => by rw [e, na] at hd; cases hd
    have s2 := step_new (o := ExT a (.ref C) (some dd)) na (st1.free na)
    refine ⟨[none, none, some (.exc C ns ds)], μ', ev0, fun d μ2 => d = x ∧ μ2 = μ', ⟨by simp [l3], fun i d e => ?_⟩, st1.new na, xok0, ?_, ?_⟩
    · match i, e with
      | 0, e => simp at e
      | 1, e => simp at e
      | j + 3, e => simp at e
      | 2, e =>
        cases e
        exact ⟨.ref a, by rw [List.getElem?_set_self (by simp [l3])], .exc (st1.free na) upd_same md (by rw [upd_ne nd]; exact hd) hl (ia.step s2)⟩
    · exact ⟨_, rfl, C, ns, ds, x, rfl, xf, no, q2, rfl, rfl⟩
    · rintro d μ2 v H2 ⟨rfl, rfl⟩ iv st2 s3
      refine ⟨[none, some d, none], μ2, ev0, hearD Φ, ⟨by simp [l3], fun i d' e => ?_⟩, st2, xok0, q3, hear_ends k (s0.trans (s1.trans (s2.trans s3)))⟩
      match i, e with
      | 0, e => simp at e
      | 2, e => simp at e
      | j + 3, e => simp at e
      | 1, e =>
        cases e
        refine ⟨v, ?_, iv⟩
        rw [List.getElem?_set_ne (by decide), List.getElem?_set_self (by simp [l3])]
  · intro d μ' v H' q iv st1 s1
    refine hQ _ _ fun σ' l3 h1 => ⟨_, μ', ev0, hearD Φ, ⟨by simp [l3], fun i d e => ?_⟩, st1, xok0, q, hear_ends k (s0.trans s1)⟩
    match i, e with
    | 0, e => simp at e
    | 2, e => simp at e
    | j + 3, e => simp at e
    | 1, e => cases e; exact ⟨.non, h1, .non⟩
end
section
variable {X : Cx}
theorem ve_hearF {T : List (Addr × Str)} {x a y n ex fl : Str} {g c P : Addr} {k : Nat} {pg : Arguments} {bg : List Stmt} {sg : Scope} {dV kV doc pm cdv ct oc cE : Value} {an od : Option Addr} {osl : Array (Option Value)} {Ng : List Str} {hds : List ExceptHandler} {rest : List Stmt} {r : WS} {j1 : _} {p1 p2 p3 p4 p5 p6 p7 p8 p9 p10 p11 p12 p13 : Pos} {E : XK}
    {params : Arguments} {body : Expr} {scope : Scope} {w : WE} {q1 q2 q3 : Pos} (hg : Gl X x) (hm : X.mg x = some (.ref g)) (hk : PySem.W.keepIn X.K (.ref g) = true)
    (lk : X.K.lookup g = some ⟨oc, od, .func (PySem.W.fnOf x x pg bg sg dV kV doc pm an cdv ct), osl⟩) (hcg : PySem.W.codeIn X.K cdv x = true) (hb : L2.Binds X.K (PySem.W.fnOf x x pg bg sg dV kV doc pm an cdv ct) [a] []) (Sg : FnScope Ng [a] sg) (hva : Vis sg a)
    (ebg : bg = .Assign [.Name y p1] (.Constant .none j1 p2) p3 :: .Try [.Expr (.Call (.Name a p4) [] [] p5) p6] (.ExceptHandler (some (.Name ex p7)) (some n) [.Assign [.Name y p8] (.Attribute (.Name n p9) fl p13) p10] p11 :: hds) [] [] p12 :: rest)
    (hNg : Ng = [a, y, n]) (nd : Ng.Nodup) (hx1 : Loc sg y) (hx2 : sg.names.lookup y = some .local) (hx3 : sg.names.lookup n = some .local) (hn1 : (n == ("__debug__" : Str)) = false) (hn2 : (n == ("__classdict__" : Str)) = false)
    (hc : ∀ (s : Shared) (H : Hp), Names (cxOf C8.CX0 X.prog X.w X.K X.mg X.base Ng x sg g cdv X.A X.stack s H C8.E0).nox ex cE)
    (hrest : ∀ (s : Shared) (H : Hp), PSs (cxOf C8.CX0 X.prog X.w X.K X.mg X.base Ng x sg g cdv X.A X.stack s H C8.E0).nox rest (upS X.K T C8.E0 r))
    (TB : TabB X.base X.mg c P) (hcode : X.env.code = .ref c) (hmT : (P, X.env.qual ++ "<lambda>") ∈ T) (hu : ∀ b ∈ T, b.1 = P → b.2 = X.env.qual ++ "<lambda>") (hr : Room (k + 2) X.A) (gd : X.A.guards = some [])
    (L : LamS X.env.scope scope) (hd : defaultsOf params X.env = ([], []))
    (bind : ∀ (q : Str) (cl : List (Str × Addr)) (pm cv ctv : Value), bindArgs (PySem.W.kla_fn "<lambda>" q params body scope cl pm cv ctv) ⟨[], []⟩ = pure [])
    (inner : ∀ (A : Around) (outer : List Env) (s : Shared) (H : Hp) (E : XK) (f c' : Addr), (A.deeper (lamEnv X scope s.heap.objs.size f c')).guards = some [] → Room k (A.deeper (lamEnv X scope s.heap.objs.size f c')) → PE (lamCx X A outer s H E scope f c') body (up X.K T E w))
    (n1 : (x == ("__debug__" : Str)) = false := by decide) (n2 : (a == ("__debug__" : Str)) = false := by decide) (n3 : (a == ("__classdict__" : Str)) = false := by decide) :
    PE X (.Call (.Name x q1) [.Lambda params body scope q2] [] q3) (up X.K T E (wHearF X.K cE fl r w)) := by
  subst ebg
  exact pe_mono (pe_lamcallSG hg hm hk lk hcg hb Sg (by rw [hNg]; rfl) hva (hear_givesF hNg nd hx1 hx2 hx3 hn1 hn2 hc hrest) TB hcode hmT hu hr gd L hd bind inner n1 n2 n3) fun σ H Q h => hear_upF h
end
end VL

set_option maxRecDepth 100000
set_option maxHeartbeats 4000000
/-! values as trees: lists of a def's own are forgotten where it returns -/
namespace VL
open PySem L2 FW PyProof.Rows
def Mu.dels (μ : Mu) (as : List Addr) : Mu := as.foldl Mu.del μ
def fgt (DD : VEnds) : VEnds := { DD with rt := fun d μ => ∃ as : List Addr, DD.rt d (μ.dels as) }
def wForget (t : WS) : WS := fun DD ρ μ ev => t (fgt DD) ρ μ ev
section
variable {K : PySem.W.Frag} {T : List (Addr × Str)} {X : Cx} {E : XK}
theorem step_dels {μ : Mu} {H : Hp} : ∀ as : List Addr, Step μ H (μ.dels as) H
  | [] => Step.refl _ _
  | a :: as => (step_del (a := a)).trans (step_dels (μ := μ.del a) as)
theorem Sto.dels {μ : Mu} {H : Hp} (st : Sto K T μ H) : ∀ as : List Addr, Sto K T (μ.dels as) H := fun as => by
  induction as generalizing μ with
  | nil => exact st
  | cons a as ih => exact ih (μ := μ.del a) st.del
theorem vss_forget {b : List Stmt} {t : WS} (h : PSs X b (upS X.K T E t)) : PSs X b (upS X.K T E (wForget t)) :=
  pss_mono h fun Dn σ H ⟨ρ, μ, ev, DD, en, st, xo, q, k1, k2, k3, k4⟩ => ⟨ρ, μ, ev, fgt DD, en, st, xo, q, k1, fun d μ' v H' ⟨as, q⟩ iv st' s' => k2 d _ v H' q (iv.step (step_dels as)) (st'.dels as) (s'.trans (step_dels as)), k3, k4⟩
theorem dels_one {μ : Mu} {a : Addr} {m : MO} (h : μ a = none) : (μ.set a m).dels [a] = μ := Mu.del_set h
end
end VL

set_option maxRecDepth 100000
set_option maxHeartbeats 4000000
/-! a text some times -/
namespace VL
open PySem L2 FW PyProof.Rows
def timesS (k : Int) (z : Str) : Str := if k = 1 then z else ⟨(List.replicate k.toNat z.cps).foldl (· ++ ·) #[]⟩
def rRepS : R2 := fun x y H Q => ∃ z k, x = .str z ∧ y = .int k ∧ 1 ≤ k ∧ k ≤ 1000 ∧ z.length ≤ 1000 ∧ 1 ≤ z.length ∧ (timesS k z).length ≤ 1000000 ∧ Q (.str (timesS k z)) H
theorem op_repS {X : Cx} : OpR X (binaryOp .Mult) rRepS := by
  intro pins s σ H x y v u Q I rx ry ⟨z, k, e1, e2, k1, k2, z1, z2, hl, q⟩
  subst e1 e2
  obtain ⟨t, rfl⟩ := rx
  obtain ⟨t', rfl⟩ := ry
  have c1 : (decide (k < -(2 ^ 63 : Int)) || decide (k ≥ 2 ^ 63)) = false := by
    rw [Bool.or_eq_false_iff, decide_eq_false_iff_not, decide_eq_false_iff_not]; omega
  refine PySem.P.mul_str c1 (fun _ _ hgt => ?_) (fun _ _ => ?_) ?_
  · have hk : (0 : Int) < k := by omega
    have h1 : (2 ^ 63 - 1 : Int) / k ≥ 2 ^ 20 := by
      rw [ge_iff_le, Int.le_ediv_iff_mul_le hk]; omega
    omega
  · have : z.length * k.toNat ≤ 1000 * 1000 := Nat.mul_le_mul z1 (by omega)
    exact decide_eq_false (Nat.not_lt.mpr (Nat.le_trans this (by rw [sizeLine_eq]; decide)))
  · rw [if_neg (by omega)]
    unfold timesS at q hl
    by_cases hk : k = 1
    · rw [if_pos hk] at q hl
      rw [if_pos (by simp [hk])]
      exact ⟨.str z, H, I.tok _, ⟨_, rfl⟩, q⟩
    · rw [if_neg hk] at q hl
      rw [if_neg (by simp [hk]; omega)]
      exact ⟨Nat.le_trans hl (by rw [sizeLine_eq]; decide), .str _, H, I.tok _, ⟨_, rfl⟩, q⟩

def vRepS : V2 := fun x y μ Φ => ∃ z k, x = .str z ∧ y = .int k ∧ 1 ≤ k ∧ k ≤ 1000 ∧ z.length ≤ 1000 ∧ 1 ≤ z.length ∧ (timesS k z).length ≤ 1000000 ∧ Φ (.str (timesS k z)) μ
theorem s_repS {K : PySem.W.Frag} {T : List (Addr × Str)} : Sim2 K T rRepS vRepS := fun x y v w μ H Φ Q ix iy st ⟨z, k, e1, e2, k1, k2, z1, z2, hl, q⟩ kk => by
  subst e1 e2
  cases ix; cases iy
  exact ⟨z, k, rfl, rfl, k1, k2, z1, z2, hl, kk.now q (.str _) st⟩
end VL

set_option maxRecDepth 100000
set_option maxHeartbeats 4000000
/-! values as trees: two tuples made one; isinstance as an equation -/
namespace VL
open PySem L2 FW PyProof.Rows
theorem s_catT {K : PySem.W.Frag} {T : List (Addr × Str)} : Sim2 K T (rCatT K) vCatT := fun x y v w μ H Φ Q ix iy st ⟨ds, es, e1, e2, hne, hl, q⟩ k => by
  obtain ⟨a, vs, rfl, at1, i1⟩ := tupOf_is ix e1
  obtain ⟨b, us, rfl, at2, i2⟩ := tupOf_is iy e2
  refine ⟨a, b, vs, us, rfl, rfl, at1.sq, at2.sq, fun e => hne (by have := i1.len; rw [e] at this; exact List.eq_nil_of_length_eq_zero this.symm), by rw [i1.len, i2.len]; exact hl, fun hy => ?_, fun _ p hp => k.tup q (i1.app i2) st p hp⟩
  have he : es = [] := by have := i2.len; rw [hy] at this; exact List.eq_nil_of_length_eq_zero this.symm
  have hx : x = .tup ds := by cases x <;> simp [tupOf] at e1; rw [e1]
  rw [he, List.append_nil, ← hx] at q
  exact k.now q ix st
theorem vIsi_b {μ : Mu} {Φ : WK} {x : D} {n t : String} {b : Bool} (ht : tyD μ x = some t) (hb : kitB t n = some b) : vIsi [x, .ty n] μ Φ ↔ Φ (.bl b) μ :=
  ⟨fun ⟨x', n', t', b', e, h1, h2, q⟩ => by cases e; rw [ht] at h1; cases h1; rw [hb] at h2; cases h2; exact q, fun q => ⟨x, n, t, b, rfl, ht, hb, q⟩⟩
theorem upS_mono {K : PySem.W.Frag} {TT : List (Addr × Str)} {E : XK} {t t' : WS} (h : ∀ DD ρ μ ev, t' DD ρ μ ev → t DD ρ μ ev) : ∀ (Dn : Ends) (σ : L2.St) (H : Hp), upS K TT E t' Dn σ H → upS K TT E t Dn σ H := fun Dn σ H ⟨ρ, μ, ev, DD, en, st, xo, q, k⟩ => ⟨ρ, μ, ev, DD, en, st, xo, h DD ρ μ ev q, k⟩
end VL

set_option maxRecDepth 100000
set_option maxHeartbeats 4000000
/-! values as trees: sets of ints and texts that may change -/
namespace VL
open PySem L2 FW PyProof.Rows
/-- a set is no code object -/
theorem set_noCode (P : Program) (w : World) (a : Addr) (S : Key → Bool) (n : Nat) : ∀ c q, SetK P w a S n ≠ LamX.CodeO c q := fun c q e => by
  unfold SetK LamX.CodeO at e
  injection e with e
  let oc : Obj := { cls := .none, dict := none, data := .fields #[.none, .str q 0], slots := #[] }
  let h : Heap := { objs := Array.replicate (c + 1) oc }
  have hg : ∀ i o, h.get? i = some o → o = oc := fun i o hi => by
    unfold Heap.get? at hi
    have : h.objs[i]? = none ∨ h.objs[i]? = some oc := by
      show (Array.replicate (c + 1) oc)[i]? = none ∨ (Array.replicate (c + 1) oc)[i]? = some oc
      rw [Array.getElem?_replicate]
      split
      · exact .inr rfl
      · exact .inl rfl
    rcases this with h1 | h1
    · rw [h1] at hi; cases hi
    · rw [h1] at hi; cases hi; rfl
  have hc : h.get? c = some oc := by
    unfold Heap.get?
    have : h.objs[c]? = some oc := by
      show (Array.replicate (c + 1) oc)[c]? = some oc
      rw [Array.getElem?_replicate, if_pos (by omega)]
    rw [this]
  have e2 := congrFun e h
  have : (h.SetOf (mixKind P w) a S n) := by
    rw [e2]
    exact ⟨oc, _, 0, hc, rfl, rfl⟩
  obtain ⟨o, es, ep, t, ho, _, hd, _⟩ := this
  rw [hg a o ho] at hd
  cases hd
def setM (P : Program) (w : World) (a : Addr) (ks : List Key) : MO := .raw (SetK P w a (fun k => hasK k ks) ks.length)
theorem setM_ok {P : Program} {w : World} {K : PySem.W.Frag} {μ : Mu} {H : Hp} {a : Addr} {ks : List Key} (h : H a = some (SetK P w a (fun k => hasK k ks) ks.length)) : MOk K μ H a (setM P w a ks) := ⟨h, fun _ => by unfold SetK; exact nofun, set_noCode _ _ _ _ _, ⟨_, rfl⟩⟩
theorem add_has (k : Key) (ks : List Key) : (fun j => hasK j ks || decide (j = k)) = fun j => hasK j (addK k ks) := by
  funext j
  unfold addK
  by_cases h : hasK k ks = true
  · rw [if_pos h]
    by_cases e : j = k
    · rw [e, h]; simp
    · simp [e]
  · rw [if_neg h]
    unfold hasK
    rw [List.any_append, List.any_cons, List.any_nil, Bool.or_false]
    congr 1
    by_cases e : j = k
    · simp [e]
    · rw [decide_eq_false e, decide_eq_false fun h => e h.symm]
theorem add_many (k : Key) (ks : List Key) : (if hasK k ks = true then ks.length else ks.length + 1) = (addK k ks).length := by
  unfold addK
  split <;> simp
section
variable {K : PySem.W.Frag} {T : List (Addr × Str)} {P : Program} {w : World}
def vSet0 (P : Program) (w : World) : VL_ := fun xs μ Φ => xs = [] ∧ ∀ p, μ p = none → Φ (.ref p) (μ.set p (setM P w p []))
theorem s_set0 : SimL K T (rSet0K P w) (vSet0 P w) := fun xs vs μ H Φ Q ia st ⟨e, q⟩ k => by
  subst e
  cases ia
  refine ⟨rfl, fun p hp => ?_⟩
  have s := step_newM (μ := μ) (m := setM P w p []) (o := SetK P w p (fun _ => false) 0) hp
  exact k _ _ _ _ (q p (st.free hp)) (.ref p) (st.newM hp (setM_ok (by rw [upd_same]; rfl))) s
def vSetIn (P : Program) (w : World) (neg : Bool) : V2 := fun x y μ Φ => ∃ a ks k, y = .ref a ∧ keyOf x = some k ∧ μ a = some (setM P w a ks) ∧ Φ (.bl (if neg = true then !hasK k ks else hasK k ks)) μ
theorem s_setIn {neg : Bool} : Sim2 K T (rSInK P w neg) (vSetIn P w neg) := fun x y v u μ H Φ Q ix iy st ⟨a, ks, kk, e, hk, hm, q⟩ k => by
  subst e
  cases iy
  obtain ⟨h1, _, _⟩ := st.mo _ _ hm
  exact ⟨kk, a, _, _, key_is ix hk, rfl, h1, k.now q (.bl _) st⟩
def okSet (P : Program) (w : World) (x : D) (μ : Mu) : Prop := ∃ a ks, x = .ref a ∧ μ a = some (setM P w a ks)
def vSAdd (P : Program) (w : World) : VM := fun x xs μ Φ => ∃ a ks k d, x = .ref a ∧ xs = [d] ∧ keyOf d = some k ∧ μ a = some (setM P w a ks) ∧ ks.length < 4000 ∧ Φ .non (μ.set a (setM P w a (addK k ks)))
end
section
variable {X : Cx} {T : List (Addr × Str)} {E : XK} {o e : Expr} {es : List Expr} {wo : WE} {wa : WA} {apos cpos : Pos}
theorem ve_setAdd (ho : PE X o (up X.K T E wo)) (ha : PA X (e :: es) (upA X.K T E wa))
    (hbase : attributeBase o "add" X.env (eval o X.env) = eval o X.env := by rfl)
    (hfew : ((backTo cpos (starEach (e :: es) X.env)).all (fun x => !x.1) && (backToKw cpos (keywordEach [] X.env)).all (fun x => x.1.isSome)
      && decide ((e :: es).length + ([] : List Keyword).length + (if ([] : List Keyword).isEmpty then 0 else 1) < 30)) = true := by rfl)
    (hline : (apos.endLine == cpos.line) = true := by rfl) (hs : starEach (e :: es) X.env = (false, eval e X.env) :: starEach es X.env := by rfl) (hplain : (backTo cpos (starEach es X.env)).any (·.1) = false := by rfl) :
    PE X (.Call (.Attribute o "add" apos) (e :: es) [] cpos) (up X.K T E (wBM (okSet X.prog X.w) (vSAdd X.prog X.w) wo wa)) :=
  pe_mono (pe_saddK ho ha hbase hfew hline hs hplain) fun σ H Q ⟨ρ, μ, ev, Φ, en, st, xo, h, k⟩ => ⟨ρ, μ, ev, _, en, st, xo, h, fun x μ1 v H1 ⟨⟨a, ks, e1, hm⟩, q⟩ ix st1 s1 => by
    subst e1
    cases ix
    obtain ⟨h1, _, _⟩ := st1.mo _ _ hm
    refine ⟨⟨a, _, _, rfl, h1⟩, ρ, μ1, ev, _, en.step s1, st1, xo.step s1, q, fun xs μ2 vs H2 ⟨a2, ks2, kk, d, e2, e3, hk, hm2, hl, q2⟩ ia st2 s2 => ?_⟩
    cases e2
    subst e3
    cases ia with
    | cons iy c =>
      cases c
      obtain ⟨h2, _, _⟩ := st2.mo _ _ hm2
      have s3 := step_set (H := H2) (m' := setM X.prog X.w a (addK kk ks2)) (o := SetK X.prog X.w a (fun j => hasK j (addK kk ks2)) (addK kk ks2).length) hm2
      refine ⟨a, kk, _, _, rfl, by rw [key_is iy hk], h2, (show ks2.length + 1 < 4096 by omega), ?_⟩
      rw [add_has, add_many]
      exact k _ _ _ _ q2 .non (st2.set (m' := setM X.prog X.w a (addK kk ks2)) hm2 (setM_ok upd_same)) (s1.trans (s2.trans s3))⟩
end
section
variable {X : Cx} {T : List (Addr × Str)} {E : XK} {pos : Pos}
theorem ve_callTy0 {id : String} {r : List V → Hp → VK → Prop} {rd : VL_} {x : Str} {p : Pos} (hc : CallR X (.type id) r) (sim : SimL X.K T r rd) (hg : Gl X x) (hm : X.mg x = none) (hv : bootBuiltins x = some (.type id))
    (hn : x ≠ "__name__" := by decide) (hd : (x == ("__debug__" : Str)) = false := by decide) : PE X (.Call (.Name x p) [] [] pos) (up X.K T E (wCB rd wNil)) :=
  pe_mono (pe_callTy0 hc hg hm hv hn hd) fun σ H Q ⟨ρ, μ, ev, Φ, en, st, xo, h, k⟩ => sim [] [] μ H Φ Q .nil st h k
end
/-! ### != where a dict may stand on the left, a tuple on the right -/
def rNeX (K : PySem.W.Frag) : R2 := fun x y H Q => rNeA K x y H Q ∨ rNeDT K x y H Q
theorem op_neX {X : Cx} (hu : X.A.units + 64 < cLine) : OpR X (compareOp .NotEq) (rNeX X.K) := by
  intro pins s σ H x y v u Q I rx ry h
  rcases h with h | h
  · exact op_neA hu pins s σ H x y v u Q I rx ry h
  · exact op_neDT (by omega) pins s σ H x y v u Q I rx ry h
def vNeX : V2 := fun x y μ Φ => vEq true x y μ Φ ∨ ∃ ks ds es, x = .dic ks ds ∧ tupOf y = some es ∧ Φ (.bl true) μ
theorem s_neX {K : PySem.W.Frag} {T : List (Addr × Str)} : Sim2 K T (rNeX K) vNeX := fun x y v u μ H Φ Q ix iy st h k => by
  rcases h with h | ⟨ks, ds, es, e1, e2, q⟩
  · exact .inl (s_ne x y v u μ H Φ Q ix iy st h k)
  · subst e1
    obtain ⟨b, ys, rfl, at_, ib⟩ := tupOf_is iy e2
    cases ix with
    | dic m h l i => exact .inr ⟨_, b, _, ys, rfl, rfl, h, at_.sq, k.now q (.bl _) st⟩
end VL

set_option maxRecDepth 100000
set_option maxHeartbeats 4000000
/-! values as trees: a dict of one key; a dict beside a list or tuple; own classes: len, == with any value -/
namespace VL
open PySem L2 FW PyProof.Rows
/-! ### a dict of one key that is told by a name -/
def wDisp1 (wk wv : WE) : WE := fun ρ μ ev Φ => ∀ p, μ p = none → wk ρ (μ.set p (.dic [] [])) ev fun k μ1 => ∃ z, k = .str z ∧ wv ρ μ1 ev fun d μ2 => μ2 p = some (.dic [] []) ∧ Φ (.ref p) (μ2.set p (.dic [.inr z] [d]))
section
variable {X : Cx} {T : List (Addr × Str)} {E : XK} {pos : Pos}
theorem ve_disp1 {kx vx : Expr} {wk wv : WE} (hk : PE X kx (up X.K T E wk)) (hv : PE X vx (up X.K T E wv)) : PE X (.Dict [some kx] [vx] pos) (up X.K T E (wDisp1 wk wv)) :=
  pe_mono (pe_disp (pps_cons hk hv pps_nil) rfl rfl nofun (by show 1 ≤ 15; decide)) fun σ H Q ⟨ρ, μ, ev, Φ, en, st, xo, h, k⟩ p hpn => by
    have s := step_newM (μ := μ) (m := .dic [] []) (o := .dK []) hpn
    have st1 : Sto X.K T (μ.set p (.dic [] [])) (upd H p (.dK [])) := st.newM hpn ⟨[], upd_same, rfl, .nil⟩
    refine ⟨ρ, μ.set p (.dic [] []), ev, _, en.step s, st1, xo.step s, h p (st.free hpn), fun d μ1 u H1 ⟨z, e1, h1⟩ iu st2 s2 => ?_⟩
    subst e1
    cases iu
    refine ⟨ρ, μ1, ev, _, en.step (s.trans s2), st2, xo.step (s.trans s2), h1, fun d μ2 v H2 ⟨hm, q⟩ iv st3 s3 => ?_⟩
    refine ⟨?_, [(.inr z, v)], rfl, (by show 1 ≤ 15; decide), ?_⟩
    · obtain ⟨us, g1, g2, _⟩ := st3.mo _ _ hm
      rw [g1]; rfl
    · have s4 := step_set (H := H2) (m' := .dic [.inr z] [d]) (o := .dK [((.inr z : Key), v)]) hm
      exact k _ _ _ _ q (.ref p) (st3.set (m' := .dic [.inr z] [d]) hm ⟨[v], upd_same, rfl, .cons (iv.step s4) .nil⟩) (s.trans (s2.trans (s3.trans s4)))
end
/-! ### == where a dict may stand on the left -/
def rEqX (K : PySem.W.Frag) : R2 := fun x y H Q => rEqA K x y H Q ∨ rEqDS K x y H Q
theorem op_eqX {X : Cx} (hu : X.A.units + 64 < cLine) : OpR X (compareOp .Eq) (rEqX X.K) := by
  intro pins s σ H x y v u Q I rx ry h
  rcases h with h | h
  · exact op_eqA hu pins s σ H x y v u Q I rx ry h
  · exact op_eqDS (by omega) pins s σ H x y v u Q I rx ry h
def vEqX : V2 := fun x y μ Φ => vEq false x y μ Φ ∨ ∃ ks ds es, x = .dic ks ds ∧ (tupOf y = some es ∨ fzL y = some es) ∧ Φ (.bl false) μ
theorem s_eqX {K : PySem.W.Frag} {T : List (Addr × Str)} : Sim2 K T (rEqX K) vEqX := fun x y v u μ H Φ Q ix iy st h k => by
  rcases h with h | ⟨ks, ds, es, e1, e2, q⟩
  · exact .inl (s_eq x y v u μ H Φ Q ix iy st h k)
  · subst e1
    have : ∃ b ys, u = .ref b ∧ (SqT K H b ys ∨ SqL K H b ys) := by
      rcases e2 with e2 | e2
      · obtain ⟨b, ys, rfl, at_, ib⟩ := tupOf_is iy e2; exact ⟨b, ys, rfl, .inl at_.sq⟩
      · obtain ⟨b, ys, rfl, at_, ib⟩ := fzL_is iy e2; exact ⟨b, ys, rfl, .inr at_.sq⟩
    obtain ⟨b, ys, rfl, hb⟩ := this
    cases ix with
    | dic m h l i => exact .inr ⟨_, b, _, ys, rfl, rfl, h, hb, k.now q (.bl _) st⟩
/-! ### own classes: len, == with a list or a tuple -/
section
variable {X : Cx} {k : Nat} {C : Addr} {pins : List (Addr × Obj)} {σ : L2.St} {H : Hp} {s : Shared} {Q : VK}
def rLenO (X : Cx) (T : List (Addr × Str)) (C : Addr) (sp : VSp) : List V → Hp → VK → Prop := fun xs H Q => ∃ (a dx : Addr) (fs : List (Str × V)) (d : D), xs = [.ref a] ∧ H a = some (.ins C dx fs) ∧
  ∃ μ, Is X.K μ H (.ref a) d ∧ Sto X.K T μ H ∧ ∃ Φ, sp [d] μ ev0 Φ ∧ ∀ d μ' v H', Φ d μ' → Is X.K μ' H' v d → Sto X.K T μ' H' → Step μ H μ' H' → ∃ n : Int, v = .int n ∧ 0 ≤ n ∧ n < 2 ^ 63 ∧ Q (.int n) H'
theorem call_lenO {T : List (Addr × Str)} {sp : VSp} (S : SpecV X.prog X.w X.K X.mg X.base T k C "__len__" 0 sp) (hG : X.A.guards = some []) (hr : Room (k + 1) X.A) : CallR X (.builtin "len") (rLenO X T C sp) := by
  intro pins s σ H xs us Q I rv h
  obtain ⟨a, dx, fs, d, rfl, ha, μ, i1, st, Φ, hsp, hk⟩ := h
  obtain ⟨f, as, hs, hf, ⟨⟨fd, ps, g, F, kp, hB⟩, ok⟩, idA⟩ := S.ex
  cases rv with
  | cons r1 rt =>
    cases rt
    cases r1
    obtain ⟨mA, J, _⟩ := ins_get I.hok ha
    obtain ⟨od, J, _⟩ := J.look
    obtain ⟨m, hF⟩ := I.fr
    refine PySem.W.len_K hF I.ok.mod.kin J hs hf ?_
    have hsp' : lift X.K T sp (argsV as [.ref a] []) H (fun v H' => ∃ n : Int, v = .int n ∧ 0 ≤ n ∧ n < 2 ^ 63 ∧ Q (.int n) H') E0 :=
      ⟨_, μ, _, Φ, is_argsD (.cons i1 .nil) .nil as (by simpa using ok), st, xok0, by rw [idA [d] rfl]; exact hsp, fun d μ' v H' q iv st' s' => hk d μ' v H' q iv st' s'⟩
    refine wpAny_mono (run_gA (A := X.A.in1) (vs := [.ref a]) ⟨hr.in1, rfl⟩ F hG hB (fun _ _ _ _ _ _ _ z => z.elim) I (.cons rfl .nil) rfl hsp') (fun r s' q => ?_) fun _ _ x => x
    obtain ⟨v, H', I', rv, n, ev, n0, n1, q2⟩ := I.after q
    subst ev
    obtain ⟨t, rfl⟩ := rv
    exact ⟨⟨n0, n1⟩, .int n, H', I'.tok _, ⟨_, rfl⟩, q2⟩
def vLenO (C : Addr) (sp : VSp) : VL_ := fun xs μ Φ => ∃ x ns fs, xs = [x] ∧ insOf μ x = some (C, ns, fs) ∧ sp [x] μ ev0 fun d μ1 => ∃ n : Int, d = .int n ∧ 0 ≤ n ∧ n < 2 ^ 63 ∧ Φ (.int n) μ1
theorem s_lenO {T : List (Addr × Str)} {sp : VSp} : SimL X.K T (rLenO X T C sp) (vLenO C sp) := fun xs vs μ H Φ Q ia st ⟨x, ns, fs, e, hx, h⟩ k => by
  subst e
  cases ia with
  | cons ix c =>
    cases c
    obtain ⟨a, dx, us, rfl, ha, _, _⟩ := is_ins st ix hx
    refine ⟨a, dx, _, x, rfl, ha, μ, ix, st, _, h, fun d μ' v H' ⟨n, e, n0, n1, q⟩ iv st' s' => ?_⟩
    subst e
    cases iv
    exact ⟨n, rfl, n0, n1, k _ _ _ _ q (.int n) st' s'⟩
theorem sub_tup : PySem.W.subIn X.K (.type "tuple") (.ref C) = some false := by
  have e : fastBuiltinMro "tuple" = some [.type "tuple", .type "object"] := by decide +kernel
  show (fastBuiltinMro "tuple").map (·.contains (.ref C)) = some false
  rw [e]
  first
    | rfl
    | simp
theorem sub_lst : PySem.W.subIn X.K (.type "list") (.ref C) = some false := by
  have e : fastBuiltinMro "list" = some [.type "list", .type "object"] := by decide +kernel
  show (fastBuiltinMro "list").map (·.contains (.ref C)) = some false
  rw [e]
  first
    | rfl
    | simp
def rEqOS (X : Cx) (T : List (Addr × Str)) (C : Addr) (sp : VSp) : R2 := fun x y H Q => ∃ (a b dx : Addr) (fs : List (Str × V)) (ys : List V) (dd : D × D), x = .ref a ∧ y = .ref b ∧ H a = some (.ins C dx fs) ∧ (SqT X.K H b ys ∨ SqL X.K H b ys) ∧
  ∃ μ, Is X.K μ H x dd.1 ∧ Is X.K μ H y dd.2 ∧ Sto X.K T μ H ∧ ∃ Φ, sp [dd.1, dd.2] μ ev0 Φ ∧ ∀ d μ' v H', Φ d μ' → Is X.K μ' H' v d → Sto X.K T μ' H' → Step μ H μ' H' → ∃ c, v = .bl c ∧ Q (.bl c) H'
theorem op_eqOS {T : List (Addr × Str)} {sp : VSp} (S : SpecV X.prog X.w X.K X.mg X.base T k C "__eq__" 1 sp) (hG : X.A.guards = some []) (hr : Room k X.A) : OpR X (compareOp .Eq) (rEqOS X T C sp) := by
  intro pins s σ H x y v u Q I rx ry h
  obtain ⟨a, b, dx, fs, ys, ⟨d1, d2⟩, rfl, rfl, ha, hb, μ, i1, i2, st, Φ, hsp, hk⟩ := h
  obtain ⟨f, as, hs, hf, ⟨⟨fd, ps, g, F, kp, hB⟩, ok⟩, idA⟩ := S.ex
  cases rx
  cases ry
  obtain ⟨mA, J, _⟩ := ins_get I.hok ha
  obtain ⟨od, J, _⟩ := J.look
  obtain ⟨m, hF⟩ := I.fr
  have hsp' : lift X.K T sp (argsV as [.ref a, .ref b] []) H (fun v H' => ∃ c, v = .bl c ∧ Q (.bl c) H') E0 :=
    ⟨_, μ, _, Φ, is_argsD (.cons i1 (.cons i2 .nil)) .nil as (by simpa using ok), st, xok0, by rw [idA [d1, d2] rfl]; exact hsp, fun d μ' v H' q iv st' s' => hk d μ' v H' q iv st' s'⟩
  have run : wpAny (model X.prog X.w) X.A (call (.ref f) [.ref a, .ref b] []) (fun r s' => ∃ c H', r = .bool c ∧ Inv X pins σ H' s' ∧ Q (.bl c) H') X.xe s := by
    refine wpAny_mono (run_gA (vs := [.ref a, .ref b]) ⟨hr, rfl⟩ F hG hB (fun _ _ _ _ _ _ _ z => z.elim) I (.cons rfl (.cons rfl .nil)) rfl hsp') (fun r s' q => ?_) fun _ _ x => x
    obtain ⟨v, H', I', rv, c, ev, q2⟩ := I.after q
    subst ev
    cases rv
    exact ⟨c, H', rfl, I', q2⟩
  have go : ∀ T o, s.heap.get? b = some o → o.cls = .type T → PySem.W.notFirst X.K C (.type T) = true → wpAny (model X.prog X.w) X.A (compareOp .Eq (.ref a) (.ref b)) (EP X pins σ Q) X.xe s := fun T o ho hc hn => by
    refine PySem.W.cmp_K (op := .Eq) (tb := .type T) hr.units0 hF I.ok.mod.kin J (fun A Q E s' k q => wpAny_typeOf (show s'.TypeIs (.ref b) T from ⟨o, k _ _ ho, hc⟩) q) hn hs hf ?_
    refine wpAny_mono run (fun r s' q => ?_) fun _ _ x => x
    obtain ⟨c, H', rfl, I', q⟩ := q
    exact ⟨.bl c, H', I', rfl, q⟩
  rcases hb with hb | hb
  · obtain ⟨its, r, ⟨o, ho, hc, n, hd⟩, hz⟩ := I.tuple hb
    exact go "tuple" o ho hc (by unfold PySem.W.notFirst; rw [sub_tup]; rfl)
  · obtain ⟨its, r, ⟨o, n, ho, hc, hdd, hd⟩, hz⟩ := I.list hb
    exact go "list" o ho hc (by unfold PySem.W.notFirst; rw [sub_lst]; rfl)
def vEqOS (C : Addr) (sp : VSp) : V2 := fun x y μ Φ => ∃ ns fs ds, insOf μ x = some (C, ns, fs) ∧ seqOf μ y = some ds ∧ sp [x, y] μ ev0 fun d μ1 => ∃ c, d = .bl c ∧ Φ (.bl c) μ1
theorem s_eqOS {T : List (Addr × Str)} {sp : VSp} : Sim2 X.K T (rEqOS X T C sp) (vEqOS C sp) := fun x y v w μ H Φ Q ix iy st ⟨ns, fs, ds, hx, hy, h⟩ k => by
  obtain ⟨a, dx, us, rfl, ha, _, _⟩ := is_ins st ix hx
  obtain ⟨b, ys, rfl, sq, _⟩ := is_seq st iy hy
  refine ⟨a, b, dx, _, ys, (x, y), rfl, rfl, ha, ?_, μ, ix, iy, st, _, h, fun d μ' v H' ⟨c, e, q⟩ iv st' s' => ?_⟩
  · first | exact sq | exact sq.symm | exact (by rcases sq with h | h; exact .inr h; exact .inl h)
  · subst e
    cases iv
    exact ⟨c, rfl, k _ _ _ _ q (.bl c) st' s'⟩
end
end VL

set_option maxRecDepth 100000
set_option maxHeartbeats 4000000
/-! values as trees: texts taken apart and put together, signs of a text; dicts that are asked -/
namespace VL
open PySem L2 FW PyProof.Rows
theorem is_strs {K : PySem.W.Frag} {μ : Mu} {H : Hp} : ∀ ws : List Str, IsAll K μ H (ws.map V.str) (ws.map D.str)
  | [] => .nil
  | w :: ws => .cons (.str w) (is_strs ws)
theorem vs_strV {K : PySem.W.Frag} {μ : Mu} {H : Hp} : ∀ {vs : List V} {ns : List Str}, IsAll K μ H vs (ns.map .str) → vs = ns.map V.str
  | _, [], .nil => rfl
  | _, n :: ns, .cons (.str _) b => by rw [vs_strV b]; rfl
section
variable {K : PySem.W.Frag} {T : List (Addr × Str)}
def vSplit : VM := fun x xs μ Φ => ∃ z s, x = .str z ∧ xs = [.str s] ∧ (s.length == 0) = false ∧ z.length + 2 ≤ sizeLine ∧ Φ (.lst ((Txt.split z s).map .str)) μ
theorem s_split : SimM K T "str" (fun x xs H Q => ∃ a b, x = .str a ∧ xs = [.str b] ∧ (b.length == 0) = false ∧ a.length + 2 ≤ sizeLine ∧ rNewStrs (Txt.split a b) H Q) okStr vSplit :=
  ⟨fun x v μ H ix st ⟨z, e⟩ => by subst e; cases ix; rfl, fun x xs v vs μ H Φ Q ix ia st ⟨z, s, e1, e2, h1, h2, q⟩ k => by
    subst e1 e2
    cases ix
    cases ia with
    | cons a b =>
      cases a; cases b
      exact ⟨z, s, rfl, rfl, h1, h2, fun p hp => k.lst q (is_strs _) st p hp⟩⟩
def vJoin : VM := fun x xs μ Φ => ∃ a y ys, x = .str a ∧ xs = [y] ∧ seqOf μ y = some ((ys : List Str).map .str) ∧ (ys.map (·.length)).sum + ys.length * a.length ≤ 16777216 ∧ Φ (.str (Txt.join a ys)) μ
theorem s_join : SimM K T "str" (fun x xs H Q => ∃ a p, ∃ ys : List Str, x = .str a ∧ xs = [.ref p] ∧ (SqL K H p (ys.map V.str) ∨ SqT K H p (ys.map V.str)) ∧ (ys.map (·.length)).sum + ys.length * a.length ≤ 16777216 ∧ Q (.str (Txt.join a ys)) H) okStr vJoin :=
  ⟨fun x v μ H ix st ⟨z, e⟩ => by subst e; cases ix; rfl, fun x xs v vs μ H Φ Q ix ia st ⟨a, y, ys, e1, e2, h1, h2, q⟩ k => by
    subst e1 e2
    cases ix
    cases ia with
    | cons iy b =>
      cases b
      obtain ⟨p, us, rfl, sq, iu⟩ := is_seq st iy h1
      rw [vs_strV iu] at sq
      exact ⟨a, p, ys, rfl, rfl, sq, h2, k.now q (.str _) st⟩⟩
def vUpper : VM := fun x xs μ Φ => ∃ z, x = .str z ∧ xs = [] ∧ z.length ≤ 5592405 ∧ Φ (.str (Txt.upper z)) μ
theorem s_upper : SimM K T "str" (fun x xs H Q => ∃ a, x = .str a ∧ xs = [] ∧ a.length ≤ 5592405 ∧ Q (.str (Txt.upper a)) H) okStr vUpper :=
  ⟨fun x v μ H ix st ⟨z, e⟩ => by subst e; cases ix; rfl, fun x xs v vs μ H Φ Q ix ia st ⟨z, e1, e2, h1, q⟩ k => by
    subst e1 e2
    cases ix; cases ia
    exact ⟨z, rfl, rfl, h1, k.now q (.str _) st⟩⟩
/-- a sign in a text -/
def vSign (neg : Bool) : V2 := fun x y μ Φ => ∃ (c : Nat) (z : Str), x = .str ⟨#[c]⟩ ∧ y = .str z ∧ Φ (.bl (if neg = true then !decide (c ∈ z.cps.toList) else decide (c ∈ z.cps.toList))) μ
theorem s_sign : Sim2 K T (fun x y H Q => ∃ (c : Nat) (z : Str), x = .str ⟨#[c]⟩ ∧ y = .str z ∧ Q (.bl (decide (c ∈ z.cps.toList))) H) (vSign false) := fun x y v u μ H Φ Q ix iy st ⟨c, z, e1, e2, q⟩ k => by
  subst e1 e2
  cases ix; cases iy
  exact ⟨c, z, rfl, rfl, k.now q (.bl _) st⟩
theorem s_notSign : Sim2 K T (fun x y H Q => ∃ (c : Nat) (z : Str), x = .str ⟨#[c]⟩ ∧ y = .str z ∧ Q (.bl (!decide (c ∈ z.cps.toList))) H) (vSign true) := fun x y v u μ H Φ Q ix iy st ⟨c, z, e1, e2, q⟩ k => by
  subst e1 e2
  cases ix; cases iy
  exact ⟨c, z, rfl, rfl, k.now q (.bl _) st⟩
end
/-! ### signs of a text, one behind the other -/
def signsD (z : Str) : List D := z.cps.toList.map fun c => .str ⟨#[c]⟩
def iwSg (w : WE) : WI := fun ρ μ ev Ψ => w ρ μ ev fun d μ1 => ∃ z, d = .str z ∧ Ψ (signsD z) noP μ1
section
variable {X : Cx} {T : List (Addr × Str)} {E : XK} {tg iter : Expr}
theorem vi_str {w : WE} (h : PE X iter (up X.K T E w)) : PI X tg iter (upI X.K T E (iwSg w)) :=
  pi_mono (pi_str h) fun σ H R ⟨ρ, μ, ev, Ψ, en, st, xo, h, k⟩ => ⟨ρ, μ, ev, _, en, st, xo, h, fun d μ1 v H1 ⟨z, e, q⟩ iv st1 s1 => by
    subst e
    cases iv
    refine ⟨z, rfl, k _ _ μ1 _ H1 q st1 s1 fun μ2 H2 s2 st2 _ i => ⟨fun x hx => ?_, fun hl => ?_⟩⟩
    · unfold signsD at hx
      rw [List.getElem?_map] at hx
      obtain ⟨c, hc, rfl⟩ := Option.map_eq_some_iff.mp hx
      rw [Array.getElem?_toList] at hc
      have hlt : i < z.cps.size := (Array.getElem?_eq_some_iff.mp hc).1
      exact ⟨hlt, fun y H3 ⟨z1, c2, hc2, e2⟩ => by subst z1 e2; rw [hc] at hc2; cases hc2; exact ⟨.str _, st2, Step.refl _ _⟩⟩
    · unfold signsD at hl
      rw [List.length_map, Array.length_toList] at hl
      exact hl⟩
/-! ### dicts that are asked -/
theorem valV_no {k : Key} {ks : List Key} {vs : List V} {ds : List D} : ks.length = vs.length → lookKD k ks ds = none → ks.length = ds.length → valV (ks.zip vs) k = none := by
  intro h1 h2 h3
  unfold valV
  rw [Option.map_eq_none_iff, List.find?_eq_none]
  intro x hx e
  have hk : x.1 = k := of_decide_eq_true e
  have hm := (List.of_mem_zip (show (x.1, x.2) ∈ ks.zip vs from hx)).1
  rw [hk] at hm
  clear hx e hk h1
  induction ks generalizing ds with
  | nil => cases hm
  | cons y ks ih =>
    cases ds with
    | nil => cases h3
    | cons d ds =>
      unfold lookKD at h2
      by_cases q : y = k
      · rw [if_pos q] at h2; cases h2
      · rw [if_neg q] at h2
        rcases List.mem_cons.mp hm with z | z
        · exact q z.symm
        · exact ih h2 (by simpa using h3) z
def rDIn (neg : Bool) : R2 := fun x y H Q => ∃ a o, y = .ref a ∧ DGet H a x o ∧ Q (.bl (if neg = true then !o.isSome else o.isSome)) H
theorem op_dIn (hu : X.A.units + 1 < cLine) : OpR X (compareOp .In) (rDIn false) := by
  intro pins s σ H x y v u Q I rx ry h
  obtain ⟨a, o, rfl, g, q⟩ := h
  cases ry
  exact d_in hu I g rx fun s' I' => ⟨.bl _, H, I', rfl, q⟩
theorem op_dNotIn (hu : X.A.units + 1 < cLine) : OpR X (compareOp .NotIn) (rDIn true) := by
  intro pins s σ H x y v u Q I rx ry h
  obtain ⟨a, o, rfl, g, q⟩ := h
  cases ry
  exact d_notIn hu I g rx fun s' I' => ⟨.bl _, H, I', rfl, q⟩
def vDIn (neg : Bool) : V2 := fun x y μ Φ => ∃ k ks ds, keyOf x = some k ∧ dicOf μ y = some (ks, ds) ∧ ks.length = ds.length ∧ Φ (.bl (if neg = true then !(lookKD k ks ds).isSome else (lookKD k ks ds).isSome)) μ
theorem s_dIn {K : PySem.W.Frag} {neg : Bool} : Sim2 K T (rDIn neg) (vDIn neg) := fun x y v u μ H Φ Q ix iy st ⟨kk, ks, ds, e1, e2, hl, q⟩ k => by
  obtain ⟨a, vs, rfl, h1, h2, h3⟩ := is_dic st iy e2
  have hk := key_is ix e1
  subst hk
  refine ⟨a, valV (ks.zip vs) kk, rfl, DGet.k h1, ?_⟩
  have e : (valV (ks.zip vs) kk).isSome = (lookKD kk ks ds).isSome := by
    cases hq : lookKD kk ks ds with
    | none => rw [valV_no h2 hq hl]; rfl
    | some d => obtain ⟨w, f1, f2⟩ := valV_look h3 hq; rw [f1]; rfl
  rw [e]
  exact k.now q (.bl _) st
/-- d.get(k, x) -/
def wDGet2 (wd wk wx : WE) : WE := fun ρ μ ev Φ => wd ρ μ ev fun x μ1 => ∃ a, (∃ ks ds, dicOf μ1 x = some (ks, ds)) ∧ a = x ∧ wk ρ μ1 ev fun y μ2 => wx ρ μ2 ev fun z μ3 => ∃ k ks ds, keyOf y = some k ∧ dicOf μ3 x = some (ks, ds) ∧ ks.length = ds.length ∧ Φ ((lookKD k ks ds).getD z) μ3
theorem ve_dget2 {o e f : Expr} {wd wk wx : WE} {apos cpos : Pos} (hu : X.A.units + 1 < cLine) (ho : PE X o (up X.K T E wd)) (he : PE X e (up X.K T E wk)) (hf : PE X f (up X.K T E wx)) (m : M2 X o "get" apos e f cpos) : PE X (.Call (.Attribute o "get" apos) [e, f] [] cpos) (up X.K T E (wDGet2 wd wk wx)) :=
  pe_mono (pe_dget2 hu ho he hf m) fun σ H Q ⟨ρ, μ, ev, Φ, en, st, xo, h, k⟩ => ⟨ρ, μ, ev, _, en, st, xo, h, fun x μ1 v H1 ⟨_, ⟨ks0, ds0, hd0⟩, e0, q⟩ ix st1 s1 => by
    obtain ⟨a, vs, rfl, h1, h2, h3⟩ := is_dic st1 ix hd0
    refine ⟨a, rfl, .inl ⟨_, .inl h1⟩, ρ, μ1, ev, _, en.step s1, st1, xo.step s1, q, fun y μ2 w H2 q2 iy st2 s2 => ⟨ρ, μ2, ev, _, en.step (s1.trans s2), st2, xo.step (s1.trans s2), q2, fun z μ3 u H3 ⟨kk, ks, ds, e1, e2, hl, q3⟩ iz st3 s3 => ?_⟩⟩
    obtain ⟨b, us, hb, g1, g2, g3⟩ := is_dic st3 (ix.step (s2.trans s3)) e2
    cases hb
    have hk := key_is (iy.step s3) e1
    subst hk
    refine ⟨valV (ks.zip us) kk, DGet.k g1, ?_⟩
    cases hq : lookKD kk ks ds with
    | none =>
      rw [hq] at q3
      rw [valV_no g2 hq hl]
      exact k _ _ _ _ q3 iz st3 (s1.trans (s2.trans s3))
    | some d =>
      rw [hq] at q3
      obtain ⟨w, f1, f2⟩ := valV_look g3 hq
      rw [f1]
      exact k _ _ _ _ q3 f2 st3 (s1.trans (s2.trans s3))⟩
end
end VL

set_option maxRecDepth 100000
set_option maxHeartbeats 4000000
/-! values as trees: == with an empty list by lengths, str of a list or a tuple, zip of a text, a text some times -/
namespace VL
open PySem L2 FW PyProof.Rows
/-! ### [..] == [] -/
def rEqE (K : PySem.W.Frag) : R2 := fun x y H Q => ∃ (a b : Addr) (xs : List V), x = .ref a ∧ y = .ref b ∧ SqL K H a xs ∧ SqL K H b [] ∧ Q (.bl xs.isEmpty) H
theorem op_eqE {X : Cx} (hu : X.A.units < cLine) : OpR X (compareOp .Eq) (rEqE X.K) := by
  intro pins s σ H x y v u Q I rx ry ⟨a, b, xs, e1, e2, ha, hb, q⟩
  subst e1 e2
  cases rx
  cases ry
  obtain ⟨as, r1, ⟨o1, n1, g1, c1, d1, f1⟩, z1⟩ := I.list ha
  obtain ⟨bs, r2, ⟨o2, n2, g2, c2, d2, f2⟩, z2⟩ := I.list hb
  cases r2
  have h1 : s.heap.IsList a as.toArray := ⟨o1, g1, c1, n1, f1⟩
  have h2 : s.heap.IsList b #[] := ⟨o2, g2, c2, n2, f2⟩
  show wpAny (model X.prog X.w) X.A (richCompare .Eq (.ref a) (.ref b)) _ _ s
  cases xs with
  | nil =>
    cases r1
    refine PySem.SeqAt.rcIn_lists (e := fun _ => true) h1 h2 rfl hu (fun j hj => absurd hj (by simp)) ?_
    exact ⟨.bl true, H, I, rfl, q⟩
  | cons x xs =>
    cases r1 with
    | cons r rr =>
      refine PySem.SeqAt.RcAt.lists_lengths h1 h2 (by simp) hu X.prog X.w _ _ ?_
      exact ⟨.bl false, H, I, rfl, q⟩
def rEqAE (K : PySem.W.Frag) : R2 := fun x y H Q => rEqX K x y H Q ∨ rEqE K x y H Q
theorem op_eqAE {X : Cx} (hu : X.A.units + 64 < cLine) : OpR X (compareOp .Eq) (rEqAE X.K) := by
  intro pins s σ H x y v u Q I rx ry h
  rcases h with h | h
  · exact op_eqX hu pins s σ H x y v u Q I rx ry h
  · exact op_eqE (by omega) pins s σ H x y v u Q I rx ry h
def vEqE : V2 := fun x y μ Φ => ∃ ds, fzL x = some ds ∧ y = .lst [] ∧ Φ (.bl ds.isEmpty) μ
theorem is_empty {μ : Mu} {K : PySem.W.Frag} {H : Hp} {vs : List V} {ds : List D} (h : IsAll K μ H vs ds) : vs.isEmpty = ds.isEmpty := by cases h <;> rfl
theorem s_eqE {K : PySem.W.Frag} {T : List (Addr × Str)} : Sim2 K T (rEqE K) vEqE := fun x y v u μ H Φ Q ix iy st ⟨ds, e1, e2, q⟩ k => by
  subst e2
  obtain ⟨a, vs, rfl, at_, ia⟩ := fzL_is ix e1
  obtain ⟨b, ws, rfl, bt_, ib⟩ := fzL_is (ds := []) iy rfl
  cases ib
  refine ⟨a, b, vs, rfl, rfl, at_.sq, bt_.sq, ?_⟩
  rw [is_empty ia]
  exact k.now q (.bl _) st
/-! ### str of a list or a tuple -/
def rStrD (K : PySem.W.Frag) : List V → Hp → VK → Prop := fun xs H Q => ∃ (a : Addr) (d : PyData), xs = [.ref a] ∧ Dp K H (.ref a) d ∧ d.showable = true ∧ d.hasDict = false ∧ d.depth ≤ 60 ∧ d.shown.length ≤ sizeLine ∧ Q (.str d.shown) H
theorem call_strD {X : Cx} (hg : X.A.guards = some []) (hu : X.A.units + 64 < cLine) : CallR X (.type "str") (rStrD X.K) := by
  intro pins s σ H xs us Q I r h
  obtain ⟨a, d, rfl, hd, h1, h2, h3, h4, q⟩ := h
  obtain ⟨u, rfl, e⟩ := vals1 r
  obtain rfl : u = Value.ref a := e
  obtain ⟨as, rd⟩ := Dp.reads I d (.ref a) (.ref a) hd rfl
  exact str_of_reads rd h1 (PyData.noDict_hsm h2) hg (by omega) (fun _ _ e => e) (fun h' u tk hk => ⟨.str d.shown, H, I.kept hk, ⟨u, rfl⟩, q⟩) h4
def vStrT : VL_ := fun xs μ Φ => ∃ ds p, xs = [.tup ds] ∧ toPy μ (.tup ds) = some p ∧ ShowOk p ∧ Φ (.str p.shown) μ
theorem s_strT {K : PySem.W.Frag} {T : List (Addr × Str)} : SimL K T (rStrD K) vStrT := fun xs vs μ H Φ Q ia st ⟨ds, p, e, hp, ⟨h1, h2, h3⟩, q⟩ k => by
  subst e
  cases ia with
  | cons ix c =>
    cases c
    have dp := is_pyT st ix (show toPyT μ (.tup ds) = some p from hp)
    have done := k.now q (.str _) st
    cases ix
    exact ⟨_, p, rfl, dp, h1, noDict_py hp, h2, h3, done⟩
/-! ### zip of a text and a sequence -/
def iwZS (w : WA) : WI := fun ρ μ ev Ψ => w ρ μ ev fun xs μ1 => ∃ z y es, xs = [.str z, y] ∧ seqF y = some es ∧ Ψ (zipD (signsD z) es) noP μ1
theorem vi_zipS {X : Cx} {T : List (Addr × Str)} {E : XK} {e e2 : Expr} {w : WA} {p pos tpos : Pos} {elts : List Expr} {kk : Nat} (hg : Gl X "zip") (hm : X.mg "zip" = none) (h : PA X [e, e2] (upA X.K T E w))
    (hs : starEach [e, e2] X.env = (false, eval e X.env) :: starEach [e2] X.env := by rfl) (hpl : (backTo pos (starEach [e2] X.env)).any (·.1) = false := by rfl) : PI X (.Tuple elts kk tpos) (.Call (.Name "zip" p) [e, e2] [] pos) (upI X.K T E (iwZS w)) :=
  pi_mono (pi_zipS hg hm h hs hpl) fun σ H R ⟨ρ, μ, ev, Ψ, en, st, xo, h, k⟩ => ⟨ρ, μ, ev, _, en, st, xo, h, fun xs μ1 us H1 ⟨z, y, es, e, hy, q⟩ iv st1 s1 => by
    subst e
    cases iv with
    | cons ix b =>
      cases b with
      | cons iy c =>
        cases c
        cases ix
        obtain ⟨b, ws, u, rfl, bt_, ib⟩ := seqF_is iy hy
        refine ⟨z, b, ws, u, rfl, bt_ _ _ (Step.refl _ _), k _ _ μ1 _ H1 q st1 s1 fun μ2 H2 s2 st2 _ i => ⟨fun d hd => ?_, fun hl => ?_⟩⟩
        · obtain ⟨x, z', hx, hz', rfl⟩ := zipD_get hd
          unfold signsD at hx
          rw [List.getElem?_map] at hx
          obtain ⟨c, hc, rfl⟩ := Option.map_eq_some_iff.mp hx
          rw [Array.getElem?_toList] at hc
          obtain ⟨u2, f1, f2⟩ := (ib.step s2).get hz'
          refine ⟨⟨ws, c, u2, bt_ _ _ s2, hc, f1, rfl⟩, fun y H3 ⟨Tp, c', y', hy, nT, hH, hv, hw⟩ => ?_⟩
          subst hy hH
          rw [hc] at hv; cases hv
          have := hw ws (bt_ _ _ s2)
          rw [f1] at this; cases this
          have ss := step_new (μ := μ2) (o := .tup [.str ⟨#[c]⟩, u2]) nT (st2.free nT)
          exact ⟨.tup (.inl ⟨st2.free nT, upd_same⟩) (.cons (.str _) (.cons (f2.step ss) .nil)), st2.new nT, ss⟩
        · unfold zipD signsD at hl
          rw [List.length_map, List.length_zip, List.length_map, Array.length_toList] at hl
          exact ⟨ws, bt_ _ _ s2, rfl, by rw [ib.len]; omega⟩⟩
/-! ### a text some times, it may be empty -/
def timesE (k : Int) (z : Str) : Str := if z.length = 0 then z else timesS k z
def rRepE : R2 := fun x y H Q => ∃ z k, x = .str z ∧ y = .int k ∧ 1 ≤ k ∧ k ≤ 1000 ∧ z.length ≤ 1000 ∧ (timesE k z).length ≤ 1000000 ∧ Q (.str (timesE k z)) H
theorem op_repE {X : Cx} : OpR X (binaryOp .Mult) rRepE := by
  intro pins s σ H x y v u Q I rx ry ⟨z, k, e1, e2, k1, k2, z1, hl, q⟩
  by_cases hz : z.length = 0
  · subst e1 e2
    obtain ⟨t, rfl⟩ := rx
    obtain ⟨t', rfl⟩ := ry
    have c1 : (decide (k < -(2 ^ 63 : Int)) || decide (k ≥ 2 ^ 63)) = false := by
      rw [Bool.or_eq_false_iff, decide_eq_false_iff_not, decide_eq_false_iff_not]; omega
    refine PySem.P.mul_str c1 (fun _ h _ => ?_) (fun _ h => ?_) ?_
    · rw [Bool.or_eq_false_iff] at h; rw [hz] at h; exact absurd h.2 (by decide)
    · rw [Bool.or_eq_false_iff] at h; rw [hz] at h; exact absurd h.2 (by decide)
    · rw [if_neg (by omega), if_pos (by rw [hz]; simp)]
      unfold timesE at q
      rw [if_pos hz] at q
      exact ⟨.str z, H, I.tok _, ⟨_, rfl⟩, q⟩
  · unfold timesE at q hl
    rw [if_neg hz] at q hl
    exact op_repS pins s σ H x y v u Q I rx ry ⟨z, k, e1, e2, k1, k2, z1, by omega, hl, q⟩
def vRepE : V2 := fun x y μ Φ => ∃ z k, x = .str z ∧ y = .int k ∧ 1 ≤ k ∧ k ≤ 1000 ∧ z.length ≤ 1000 ∧ (timesE k z).length ≤ 1000000 ∧ Φ (.str (timesE k z)) μ
theorem s_repE {K : PySem.W.Frag} {T : List (Addr × Str)} : Sim2 K T rRepE vRepE := fun x y v w μ H Φ Q ix iy st ⟨z, k, e1, e2, k1, k2, z1, hl, q⟩ kk => by
  subst e1 e2
  cases ix; cases iy
  exact ⟨z, k, rfl, rfl, k1, k2, z1, hl, kk.now q (.str _) st⟩
end VL

set_option maxRecDepth 100000
set_option maxHeartbeats 4000000
/-! values as trees: sets of tuples of integers, sorted, dicts with one key of any kind, index -/
namespace VL
open PySem L2 FW PyProof.Rows
/-! ### sets of tuples of integers -/
theorem setT_noCode (P : Program) (w : World) (a : Addr) (L : List (Addr × List Int)) : ∀ c q, SetTO P w a L ≠ LamX.CodeO c q := fun c q e => by
  unfold SetTO LamX.CodeO at e
  injection e with e
  let oc : Obj := { cls := .none, dict := none, data := .fields #[.none, .str q 0], slots := #[] }
  let h : Heap := { objs := Array.replicate (c + 1) oc }
  have hg : ∀ i o, h.get? i = some o → o = oc := fun i o hi => by
    have z : h.objs[i]? = none ∨ h.objs[i]? = some oc := by
      show (Array.replicate (c + 1) oc)[i]? = none ∨ (Array.replicate (c + 1) oc)[i]? = some oc
      rw [Array.getElem?_replicate]
      split
      · exact .inr rfl
      · exact .inl rfl
    unfold Heap.get? at hi
    rcases z with z | z
    · rw [z] at hi; cases hi
    · rw [z] at hi; cases hi; rfl
  have hc : h.get? c = some oc := by
    have z : h.objs[c]? = some oc := by
      show (Array.replicate (c + 1) oc)[c]? = some oc
      rw [Array.getElem?_replicate, if_pos (by omega)]
    unfold Heap.get?
    rw [z]
  have e2 := congrFun e h
  have S : SetT0 P w h a L := by rw [e2]; exact ⟨oc, _, 0, hc, rfl, rfl⟩
  obtain ⟨es, ep, t, ⟨o, ho, _, hd⟩, _⟩ := S.ex
  rw [hg a o ho] at hd
  cases hd
def setT (P : Program) (w : World) (a : Addr) (L : List (Addr × List Int)) : MO := .rawT (SetTO P w a L) L
theorem setT_ok {P : Program} {w : World} {K : PySem.W.Frag} {μ : Mu} {H : Hp} {a : Addr} {L : List (Addr × List Int)} (h : H a = some (SetTO P w a L)) (t : ∀ p ∈ L, AtT K μ H p.1 (p.2.map V.int)) : MOk K μ H a (setT P w a L) := ⟨⟨h, fun _ => by unfold SetTO; exact nofun, setT_noCode _ _ _ _, ⟨_, rfl⟩⟩, t⟩
theorem ints_of {μ : Mu} {K : PySem.W.Frag} {H : Hp} : ∀ {vs : List V} {ns : List Int}, IsAll K μ H vs (ns.map .int) → vs = ns.map V.int
  | _, [], .nil => rfl
  | _, n :: ns, .cons (.int _) b => by rw [ints_of b]; rfl
theorem is_ints {μ : Mu} {K : PySem.W.Frag} {H : Hp} : ∀ ns : List Int, IsAll K μ H (ns.map V.int) (ns.map D.int)
  | [] => .nil
  | n :: ns => .cons (.int n) (is_ints ns)
theorem AtT.of_set {K : PySem.W.Frag} {μ : Mu} {H : Hp} {a b : Addr} {vs : List V} {m : MO} {o : HO} (s : Step μ H (μ.set a m) (upd H a o)) (h : AtT K μ H b vs) : AtT K (μ.set a m) (upd H a o) b vs := h.step s
section
variable {K : PySem.W.Frag} {T : List (Addr × Str)} {P : Program} {w : World}
def vSet0T (P : Program) (w : World) : VL_ := fun xs μ Φ => xs = [] ∧ ∀ p, μ p = none → Φ (.ref p) (μ.set p (setT P w p []))
theorem s_set0T : SimL K T (rSet0T P w) (vSet0T P w) := fun xs vs μ H Φ Q ia st ⟨e, q⟩ k => by
  subst e
  cases ia
  refine ⟨rfl, fun p hp => ?_⟩
  have s := step_newM (μ := μ) (m := setT P w p []) (o := SetTO P w p []) hp
  exact k _ _ _ _ (q p (st.free hp)) (.ref p) (st.newM hp (setT_ok (by rw [upd_same]) (fun _ h => nomatch h))) s
def vSetInT (P : Program) (w : World) : V2 := fun x y μ Φ => ∃ a k L, y = .ref a ∧ x = .tup (k.map .int) ∧ μ a = some (setT P w a L) ∧ Φ (.bl (decide (k ∈ L.map (·.2)))) μ
theorem s_setInT : Sim2 K T (rSInT K P w) (vSetInT P w) := fun x y v u μ H Φ Q ix iy st ⟨a, k, L, e1, e2, hm, q⟩ kk => by
  subst e1 e2
  cases iy
  obtain ⟨⟨h1, _⟩, h2⟩ := st.mo _ _ hm
  cases ix with
  | tup at_ ia =>
    rw [ints_of ia] at at_
    exact ⟨a, _, k, L, rfl, rfl, h1, at_.sq, fun p hp => (h2 p hp).sq, kk.now q (.bl _) st⟩
def okSetT (P : Program) (w : World) (x : D) (μ : Mu) : Prop := ∃ a L, x = .ref a ∧ μ a = some (setT P w a L)
def vSAddT (P : Program) (w : World) : VM := fun x xs μ Φ => ∃ a k L, x = .ref a ∧ xs = [.tup (k.map .int)] ∧ μ a = some (setT P w a L) ∧ L.length + 1 < 64 ∧ ∀ L' : List (Addr × List Int), L'.length ≤ L.length + 1 → (∀ j, j ∈ L'.map (·.2) ↔ j ∈ L.map (·.2) ∨ j = k) → Φ .non (μ.set a (setT P w a L'))
end
section
variable {X : Cx} {T : List (Addr × Str)} {E : XK} {o e : Expr} {es : List Expr} {wo : WE} {wa : WA} {apos cpos pos : Pos}
theorem ve_setAddT (hu : X.A.units + 64 < cLine) (ho : PE X o (up X.K T E wo)) (ha : PA X (e :: es) (upA X.K T E wa)) (b1 : attributeBase o "add" X.env (eval o X.env) = eval o X.env := by rfl)
    (b2 : ((backTo cpos (starEach (e :: es) X.env)).all (fun x => !x.1) && (backToKw cpos (keywordEach [] X.env)).all (fun x => x.1.isSome) && decide ((e :: es).length + ([] : List Keyword).length + (if ([] : List Keyword).isEmpty then 0 else 1) < 30)) = true := by rfl)
    (b3 : (apos.endLine == cpos.line) = true := by rfl) (b4 : starEach (e :: es) X.env = (false, eval e X.env) :: starEach es X.env := by rfl) (b5 : (backTo cpos (starEach es X.env)).any (·.1) = false := by rfl) :
    PE X (.Call (.Attribute o "add" apos) (e :: es) [] cpos) (up X.K T E (wBM (okSetT X.prog X.w) (vSAddT X.prog X.w) wo wa)) :=
  pe_mono (pe_saddT hu ho ha b1 b2 b3 b4 b5) fun σ H Q ⟨ρ, μ, ev, Φ, en, st, xo, h, k⟩ => ⟨ρ, μ, ev, _, en, st, xo, h, fun x μ1 v H1 ⟨⟨a, L, e1, hm⟩, q⟩ ix st1 s1 => by
    subst e1
    cases ix
    obtain ⟨⟨h1, _⟩, _⟩ := st1.mo _ _ hm
    refine ⟨⟨a, _, rfl, h1⟩, ρ, μ1, ev, _, en.step s1, st1, xo.step s1, q, fun xs μ2 vs H2 ⟨a2, n, L2, e2, e3, hm2, hl, q2⟩ ia st2 s2 => ?_⟩
    cases e2
    subst e3
    cases ia with
    | cons iy c =>
      cases c
      obtain ⟨⟨h2, _⟩, ht⟩ := st2.mo _ _ hm2
      cases iy with
      | tup at_ ib =>
        rename_i b vs
        have eb := ints_of ib
        subst eb
        refine ⟨a, b, n, L2, rfl, rfl, h2, at_.sq, fun p hp => (ht p hp).sq, hl, fun L' c1 c2 => ?_⟩
        have mem : ∀ p ∈ L', p ∈ L2 ∨ p = (b, n) := fun p hp => by
          by_cases c : n ∈ L2.map (·.2)
          · rw [c1 c] at hp; exact .inl hp
          · rcases List.mem_cons.mp ((c2 c).mem_iff.mp hp) with z | z
            · exact .inr z
            · exact .inl z
        have s3 := step_set (H := H2) (m' := setT X.prog X.w a L') (o := SetTO X.prog X.w a L') hm2
        refine k _ _ _ _ (q2 L' ?_ fun j => ?_) .non (st2.set (m' := setT X.prog X.w a L') hm2 (setT_ok (by rw [upd_same]) fun p hp => ?_)) (s1.trans (s2.trans s3))
        · by_cases c : n ∈ L2.map (·.2)
          · rw [c1 c]; omega
          · rw [(c2 c).length_eq, List.length_cons]; exact Nat.le_refl _
        · by_cases c : n ∈ L2.map (·.2)
          · rw [c1 c]
            refine ⟨.inl, fun z => z.elim id fun z => by rw [z]; exact c⟩
          · rw [((c2 c).map (·.2)).mem_iff, List.map_cons, List.mem_cons]
            exact ⟨fun z => z.elim .inr .inl, fun z => z.elim .inr .inl⟩
        · rcases mem p hp with z | z
          · exact (ht p z).step s3
          · rw [z]; exact at_.step s3⟩
/-! ### sorted -/
def vSortI : VL_ := fun xs μ Φ => ∃ x ns, xs = [x] ∧ (fzL x = some ((ns : List Int).map .int) ∨ lstOf μ x = some (ns.map .int)) ∧ ∀ ns' : List Int, ns'.Perm ns → ns'.Pairwise (· ≤ ·) → Φ (.lst (ns'.map .int)) μ
theorem s_sortI : SimL X.K T (rSortedI X.K) vSortI := fun xs vs μ H Φ Q ia st ⟨x, ns, e, hs, q⟩ k => by
  subst e
  cases ia with
  | cons ix c =>
    cases c
    obtain ⟨a, us, rfl, sq, i⟩ := sqL_of st ix hs
    rw [ints_of i] at sq
    exact ⟨a, ns, rfl, sq, fun ns' p pm sd hp => k.lst (q ns' pm sd) (is_ints ns') st p hp⟩
def pairD (p : Int × Int) : D := .tup [.int p.1, .int p.2]
def vSortP : VL_ := fun xs μ Φ => ∃ ps : List (Int × Int), xs = [.tup (ps.map pairD)] ∧ ∀ ps' : List (Int × Int), ps'.Perm ps → ps'.Pairwise (fun p q => SrtO.lexB q p = false) → Φ (.lst (ps'.map pairD)) μ
theorem s_sortP : SimL X.K T (rSortedPT X.K) vSortP := fun xs vs μ H Φ Q ia st ⟨ps, e, q⟩ k => by
  subst e
  cases ia with
  | cons ix c =>
    cases c
    cases ix with
    | tup at_ ib =>
      rename_i a us
      have one : ∀ (i : Nat) x p, us[i]? = some x → ps[i]? = some p → ∃ t, x = V.ref t ∧ AtT X.K μ H t [.int p.1, .int p.2] := fun i x p hx hp => by
        obtain ⟨x', e1, e2⟩ := ib.get (i := i) (d := pairD p) (by rw [List.getElem?_map, hp]; rfl)
        rw [hx] at e1
        cases e1
        cases e2 with
        | tup at2 ic =>
          have := ints_of (ns := [p.1, p.2]) ic
          subst this
          exact ⟨_, rfl, at2⟩
      have hl : us.length = ps.length := by rw [ib.len, List.length_map]
      refine ⟨a, us, ps, rfl, at_.sq, hl, fun i x p hx hp => by obtain ⟨t, e, h⟩ := one i x p hx hp; exact ⟨t, e, h.sq⟩, fun zs p pm sd hp => ?_⟩
      have all : ∀ z ∈ zs, ∃ t, z.1 = V.ref t ∧ AtT X.K μ H t [.int z.2.1, .int z.2.2] := fun z hz => by
        obtain ⟨i, hi, e⟩ := List.getElem_of_mem (pm.mem_iff.mp hz)
        have hi2 : i < us.length ∧ i < ps.length := by rw [List.length_zip] at hi; omega
        rw [List.getElem_zip] at e
        rw [← e]
        exact one i _ _ (List.getElem?_eq_getElem hi2.1) (List.getElem?_eq_getElem hi2.2)
      have is : ∀ zs : List (V × (Int × Int)), (∀ z ∈ zs, ∃ t, z.1 = V.ref t ∧ AtT X.K μ H t [.int z.2.1, .int z.2.2]) → IsAll X.K μ H (zs.map (·.1)) ((zs.map (·.2)).map pairD) := fun zs => by
        induction zs with
        | nil => exact fun _ => .nil
        | cons z zs ih =>
          intro h
          obtain ⟨t, e, h1⟩ := h z (List.mem_cons_self ..)
          rw [List.map_cons, List.map_cons, List.map_cons, e]
          exact .cons (.tup h1 (.cons (.int _) (.cons (.int _) .nil))) (ih fun x hx => h x (List.mem_cons_of_mem _ hx))
      have pm2 : (zs.map (·.2)).Perm ps := by
        have := pm.map (·.2)
        rw [List.map_snd_zip (by omega)] at this
        exact this
      exact k.lst (q (zs.map (·.2)) pm2 sd) (is zs all) st p hp
end
/-! ### a dict of one key of any kind -/
def wDispK (wk wv : WE) : WE := fun ρ μ ev Φ => ∀ p, μ p = none → wk ρ (μ.set p (.dic [] [])) ev fun k μ1 => ∃ z, keyOf k = some z ∧ wv ρ μ1 ev fun d μ2 => μ2 p = some (.dic [] []) ∧ Φ (.ref p) (μ2.set p (.dic [z] [d]))
section
variable {X : Cx} {T : List (Addr × Str)} {E : XK} {pos : Pos}
theorem ve_dispK {kx vx : Expr} {wk wv : WE} (hk : PE X kx (up X.K T E wk)) (hv : PE X vx (up X.K T E wv)) : PE X (.Dict [some kx] [vx] pos) (up X.K T E (wDispK wk wv)) :=
  pe_mono (pe_disp (pps_cons hk hv pps_nil) rfl rfl nofun (by show 1 ≤ 15; decide)) fun σ H Q ⟨ρ, μ, ev, Φ, en, st, xo, h, k⟩ p hpn => by
    have s := step_newM (μ := μ) (m := .dic [] []) (o := .dK []) hpn
    have st1 : Sto X.K T (μ.set p (.dic [] [])) (upd H p (.dK [])) := st.newM hpn ⟨[], upd_same, rfl, .nil⟩
    refine ⟨ρ, μ.set p (.dic [] []), ev, _, en.step s, st1, xo.step s, h p (st.free hpn), fun d μ1 u H1 ⟨z, e1, h1⟩ iu st2 s2 => ?_⟩
    refine ⟨ρ, μ1, ev, _, en.step (s.trans s2), st2, xo.step (s.trans s2), h1, fun d2 μ2 v H2 ⟨hm, q⟩ iv st3 s3 => ?_⟩
    refine ⟨?_, [(z, v)], ?_, (by show 1 ≤ 15; decide), ?_⟩
    · obtain ⟨us, g1, g2, _⟩ := st3.mo _ _ hm
      rw [g1]; rfl
    · have := key_is iu e1
      subst this
      rfl
    · have s4 := step_set (H := H2) (m' := .dic [z] [d2]) (o := .dK [((z : Key), v)]) hm
      exact k _ _ _ _ q (.ref p) (st3.set (m' := .dic [z] [d2]) hm ⟨[v], upd_same, rfl, .cons (iv.step s4) .nil⟩) (s.trans (s2.trans (s3.trans s4)))
end
/-! ### a new key in a dict -/
theorem zip_new {ks : List Key} {vs : List V} {k : Key} {v : V} (l : ks.length = vs.length) (h : k ∉ ks) : putK (ks.zip vs) k v = (ks ++ [k]).zip (vs ++ [v]) := by
  unfold putK
  rw [if_neg, List.zip_append l]
  · rfl
  · rw [List.any_eq_true]
    rintro ⟨p, hp, e⟩
    have e : p.1 = k := of_decide_eq_true e
    exact h (e ▸ (List.of_mem_zip (show (p.1, p.2) ∈ ks.zip vs from hp)).1)
def vDSetN : VSet := fun o i d μ Φ => ∃ a ks ds k, o = .ref a ∧ keyOf i = some k ∧ μ a = some (.dic ks ds) ∧ k ∉ ks ∧ ks.length < 1000000 ∧ Φ (μ.set a (.dic (ks ++ [k]) (ds ++ [d])))
theorem s_setDN {K : PySem.W.Frag} {T : List (Addr × Str)} : SimSet K T rSetD vDSetN := fun o i d vo vi vd μ H Φ Q io ii id st ⟨a, ks, ds, kk, e1, e2, hm, hk, hl, q⟩ k => by
  subst e1; cases io
  have := key_is ii e2
  subst this
  obtain ⟨vs, h1, h2, h3⟩ := st.mo _ _ hm
  have s := step_set (H := H) (m' := .dic (ks ++ [kk]) (ds ++ [d])) (o := .dK ((ks ++ [kk]).zip (vs ++ [vd]))) hm
  refine ⟨a, _, rfl, DPut.k h1 (by rw [List.length_zip, sizeLine_eq]; omega), ?_⟩
  rw [zip_new h2 hk]
  exact k _ _ q (st.set (m' := .dic (ks ++ [kk]) (ds ++ [d])) hm ⟨_, upd_same, by rw [List.length_append, List.length_append, h2]; rfl, (h3.app (.cons id .nil)).step s⟩) s
/-! ### how many keys; where a number stands -/
def vLenD : VL_ := fun xs μ Φ => ∃ ks ds, xs = [.dic ks ds] ∧ ks.length = ds.length ∧ Φ (.int (ks.length : Nat)) μ
theorem s_lenD {K : PySem.W.Frag} {T : List (Addr × Str)} : SimL K T (fun xs H Q => ∃ a kvs, xs = [V.ref a] ∧ H a = some (.dK kvs) ∧ Q (.int kvs.length) H) vLenD := fun xs vs μ H Φ Q ia st ⟨ks, ds, e, hl, q⟩ k => by
  subst e
  cases ia with
  | cons ix c =>
    cases c
    cases ix with
    | dic m h l i =>
      refine ⟨_, _, rfl, h, ?_⟩
      rw [List.length_zip, ← l, Nat.min_self]
      exact k.now q (.int _) st
def okFz (x : D) (_ : Mu) : Prop := ∃ ds, x = .lst ds
def vIndexI : VM := fun x xs μ Φ => ∃ (ns : List Int) (y : Int) (j : Nat), x = .lst (ns.map .int) ∧ xs = [.int y] ∧ ns[j]? = some y ∧ (∀ m < j, ns[m]? ≠ some y) ∧ Φ (.int j) μ
theorem flat_int : ∀ ns : List Int, (ns.map V.int).all flatV = true := fun ns => List.all_eq_true.mpr fun x hx => by obtain ⟨i, _, rfl⟩ := List.mem_map.mp hx; rfl
theorem eqV_int (i j : Int) : eqV (.int i) (.int j) = decide (i = j) := by
  unfold eqV
  first
    | rfl
    | simp
theorem s_index {K : PySem.W.Frag} {T : List (Addr × Str)} : SimM K T "list" (rIndex K) okFz vIndexI :=
  ⟨fun x v μ H ix st ⟨ds, e⟩ => by
    subst e
    cases ix with
    | lst a i => exact .inl ⟨rfl, _, SqL.of a.2⟩, fun x xs v vs μ H Φ Q ix ia st ⟨ns, y, j, e1, e2, hj, hno, q⟩ k => by
    subst e1 e2
    cases ia with
    | cons iy c =>
      cases c
      cases iy
      cases ix with
      | lst a i =>
        have := ints_of i
        subst this
        refine ⟨_, ns.map V.int, .int y, j, .int y, rfl, rfl, a.sq, rfl, flat_int ns, by rw [List.getElem?_map, hj]; rfl, by rw [eqV_int]; simp, fun m z hm hz => ?_, k.now q (.int _) st⟩
        rw [List.getElem?_map] at hz
        obtain ⟨w, hw, rfl⟩ := Option.map_eq_some_iff.mp hz
        rw [eqV_int, decide_eq_false_iff_not]
        intro e
        subst e
        exact hno m hm hw⟩
/-! ### the greatest of a dict's values -/
def wMaxV (w : WE) : WE := fun ρ μ ev Φ => w ρ μ ev fun d μ1 => ∃ (ks : List Key) (ns : List Int), d = .dic ks (ns.map .int) ∧ ks.length = ns.length ∧ ns ≠ [] ∧ ∀ m, m ∈ ns → (∀ y ∈ ns, y ≤ m) → Φ (.int m) μ1
theorem ve_maxV {X : Cx} {T : List (Addr × Str)} {E : XK} {o : Expr} {w : WE} {p pos apos mpos : Pos} (calm : X.calm = true) (gl : Gl X "max") (free : X.mg "max" = none) (po : PE X o (up X.K T E w)) (b1 : attributeBase o "values" X.env (eval o X.env) = eval o X.env := by rfl) (b2 : (apos.endLine == mpos.line) = true := by rfl)
    (b3 : starEach [Expr.Call (.Attribute o "values" apos) [] [] mpos] X.env = [(false, eval (Expr.Call (.Attribute o "values" apos) [] [] mpos) X.env)] := by rfl) : PE X (.Call (.Name "max" p) [.Call (.Attribute o "values" apos) [] [] mpos] [] pos) (up X.K T E (wMaxV w)) :=
  pe_mono (pe_maxVals calm gl free po b1 b2 b3) fun σ H Q ⟨ρ, μ, ev, Φ, en, st, xo, h, k⟩ => ⟨ρ, μ, ev, _, en, st, xo, h, fun d μ1 v H1 ⟨ks, ns, e, hl, hne, q⟩ iv st1 s1 => by
    subst e
    cases iv with
    | dic m h l i =>
      have := ints_of i
      subst this
      refine ⟨_, _, ns, rfl, h, ?_, hne, fun m h1 h2 => k _ _ _ _ (q m h1 h2) (.int m) st1 s1⟩
      rw [List.map_snd_zip (by omega)]⟩
end VL

set_option maxRecDepth 100000
set_option maxHeartbeats 4000000
/-! values as trees: list(range(n)), a list that may change -/
namespace VL
open PySem L2 FW PyProof.Rows
def wListRg (w : WE) : WE := fun ρ μ ev Φ => w ρ μ ev fun d μ1 => ∃ n : Int, d = .int n ∧ RgOk 0 n ∧ ∀ p, μ1 p = none → Φ (.ref p) (μ1.set p (.lst ((List.range n.toNat).map fun i => .int (i : Nat))))
theorem rg_is {K : PySem.W.Frag} {μ : Mu} {H : Hp} (n : Int) : IsAll K μ H (rgV 0 n) ((List.range n.toNat).map fun i => .int (i : Nat)) := by
  unfold rgV
  rw [show (n - 0) = n by omega]
  generalize List.range n.toNat = l
  induction l with
  | nil => exact .nil
  | cons a l ih =>
    rw [List.map_cons, List.map_cons, Int.zero_add]
    exact .cons (.int _) ih
section
variable {X : Cx} {T : List (Addr × Str)} {E : XK}
theorem ve_listRg {a : Expr} {w : WE} {p p2 pos pos2 : Pos} (calm : X.calm = true) (gl : Gl X "list") (fl : X.mg "list" = none) (gr : Gl X "range") (fr : X.mg "range" = none) (ha : PE X a (up X.K T E w)) (b1 : starEach [a] X.env = (false, eval a X.env) :: starEach [] X.env := by rfl)
    (b2 : starEach [Expr.Call (.Name "range" p2) [a] [] pos2] X.env = (false, eval (Expr.Call (.Name "range" p2) [a] [] pos2) X.env) :: starEach [] X.env := by rfl) : PE X (.Call (.Name "list" p) [.Call (.Name "range" p2) [a] [] pos2] [] pos) (up X.K T E (wListRg w)) :=
  pe_mono (pe_listRg calm gl fl (prg_1 gr fr ha b1) b2) fun σ H Q ⟨ρ, μ, ev, Φ, en, st, xo, h, k⟩ => ⟨ρ, μ, ev, _, en, st, xo, h, fun d μ1 v H1 ⟨n, e, ok, q⟩ iv st1 s1 => by
    subst e
    cases iv
    refine ⟨n, rfl, ok, fun p hp => ?_⟩
    have s := step_newM (μ := μ1) (m := .lst ((List.range n.toNat).map fun i => .int (i : Nat))) (o := .lst (rgV 0 n)) hp
    exact k _ _ _ _ (q p (st1.free hp)) (.ref p) (st1.newM hp ⟨_, upd_same, rg_is n⟩) (s1.trans s)⟩
end
/-! ### a list among lists -/
theorem units65 {k : Nat} {A : Around} (hr : Room k A) : A.units + 65 < cLine := by have := hr.un; omega
def vInD (neg : Bool) : V2 := fun x y μ Φ => ∃ p ps, toPyT μ x = some p ∧ toPyT μ y = some (.list ps) ∧ SeqAt.shaped p = true ∧ SeqAt.shaped (.list ps) = true ∧ Φ (.bl (if neg = true then !ps.any fun z => PyData.eqv z p else ps.any fun z => PyData.eqv z p)) μ
theorem s_inD {K : PySem.W.Frag} {T : List (Addr × Str)} : Sim2 K T (rInD K) (vInD false) := fun x y v u μ H Φ Q ix iy st ⟨p, ps, e1, e2, s1, s2, q⟩ k => ⟨p, ps, is_pyT st ix e1, is_pyT st iy e2, s1, s2, k.now q (.bl _) st⟩
theorem s_notInD {K : PySem.W.Frag} {T : List (Addr × Str)} : Sim2 K T (rNotInD K) (vInD true) := fun x y v u μ H Φ Q ix iy st ⟨p, ps, e1, e2, s1, s2, q⟩ k => ⟨p, ps, is_pyT st ix e1, is_pyT st iy e2, s1, s2, k.now q (.bl _) st⟩
/-- a pair among pairs, all as lists -/
def pairL (p : Int × Int) : D := .lst [.int p.1, .int p.2]
def pairY (p : Int × Int) : PyData := .list [.int p.1, .int p.2]
theorem pairY_eqv (p q : Int × Int) : PyData.eqv (pairY p) (pairY q) = decide (p = q) := by
  unfold pairY
  rw [Bool.eq_iff_iff, decide_eq_true_eq, Prod.ext_iff]
  simp [PyData.eqv, PyData.eqvAll]
theorem pairY_lay (p : Int × Int) : (pairY p).canLay0 = true ∧ (pairY p).depth = 1 := by unfold pairY; simp [PyData.canLay0, PyData.canLayAll0, PyData.depth, PyData.depthAll]
theorem pairYs_lay : ∀ ps : List (Int × Int), PyData.canLayAll0 (ps.map pairY) = true ∧ PyData.depthAll (ps.map pairY) ≤ 1
  | [] => by simp [PyData.canLayAll0, PyData.depthAll]
  | p :: ps => by
    obtain ⟨a, b⟩ := pairYs_lay ps
    obtain ⟨c, d⟩ := pairY_lay p
    rw [List.map_cons]
    simp [PyData.canLayAll0, PyData.depthAll, a, c, d, b]
theorem pairY_shaped (p : Int × Int) : SeqAt.shaped (pairY p) = true := by
  obtain ⟨a, b⟩ := pairY_lay p
  simp [SeqAt.shaped, a, b]
theorem pairYs_shaped (ps : List (Int × Int)) : SeqAt.shaped (.list (ps.map pairY)) = true := by
  obtain ⟨a, b⟩ := pairYs_lay ps
  have c : (PyData.list (ps.map pairY)).canLay0 = true := by simpa [PyData.canLay0] using a
  have d : (PyData.list (ps.map pairY)).depth ≤ 64 := by
    rw [PyData.depth]
    omega
  simp [SeqAt.shaped, c, d]
theorem toPys_pairs {μ : Mu} (ps : List (Int × Int)) : toPys μ (ps.map pairL) = some (ps.map pairY) := by
  induction ps with
  | nil => rfl
  | cons p ps ih =>
    rw [List.map_cons, toPys, ih]
    rfl
theorem vInD_pairs {μ : Mu} {Φ : WK} {neg : Bool} {p : Int × Int} {ps : List (Int × Int)} {y : D} (hy : toPyT μ y = some (.list (ps.map pairY))) (q : Φ (.bl (if neg = true then !decide (p ∈ ps) else decide (p ∈ ps))) μ) : vInD neg (pairL p) y μ Φ := by
  refine ⟨pairY p, ps.map pairY, rfl, hy, pairY_shaped p, pairYs_shaped ps, ?_⟩
  have e : ((ps.map pairY).any fun z => PyData.eqv z (pairY p)) = decide (p ∈ ps) := by
    rw [Bool.eq_iff_iff, List.any_eq_true, decide_eq_true_eq]
    constructor
    · rintro ⟨z, hz, h⟩
      obtain ⟨r, hr, rfl⟩ := List.mem_map.mp hz
      rw [pairY_eqv, decide_eq_true_eq] at h
      rw [← h]; exact hr
    · exact fun h => ⟨pairY p, List.mem_map.mpr ⟨p, h, rfl⟩, by rw [pairY_eqv]; simp⟩
  rw [e]
  exact q
end VL

set_option maxRecDepth 100000
set_option maxHeartbeats 4000000
/-! values as trees: f-strings of texts and ints; str of an own class -/
namespace VL
open PySem L2 FW PyProof.Rows
def wFmt (w : WE) : WE := fun ρ μ ev Φ => w ρ μ ev fun d μ1 => (∃ z : Str, d = .str z ∧ z.length ≤ sizeLine ∧ Φ (.str z) μ1) ∨ ∃ i : Int, d = .int i ∧ i.natAbs.log2 < 1920 ∧ Φ (.str (toString i)) μ1
def wJs : List WE → Str → WE
  | [], acc => fun _ μ _ Φ => Φ (.str acc) μ
  | w :: ws, acc => fun ρ μ ev Φ => w ρ μ ev fun d μ1 => ∃ y : Str, d = .str y ∧ (acc ++ y).length ≤ sizeLine ∧ wJs ws (acc ++ y) ρ μ1 ev Φ
section
variable {X : Cx} {T : List (Addr × Str)} {E : XK}
theorem ve_fmt {e : Expr} {w : WE} {pos : Pos} (he : PE X e (up X.K T E w)) : PE X (.FormattedValue e (-1) none pos) (up X.K T E (wFmt w)) :=
  pe_mono (pe_fmt he) fun σ H Q ⟨ρ, μ, ev, Φ, en, st, xo, h, k⟩ => ⟨ρ, μ, ev, _, en, st, xo, h, fun d μ1 v H1 q iv st1 s1 => by
    rcases q with ⟨z, e, hz, q⟩ | ⟨i, e, hi, q⟩
    · subst e
      cases iv
      exact .inl ⟨z, rfl, hz, (k.step s1).now q (.str _) st1⟩
    · subst e
      cases iv
      exact .inr ⟨i, rfl, hi, (k.step s1).now q (.str _) st1⟩⟩
/-- the parts' judgements, over trees -/
inductive VJ (X : Cx) (T : List (Addr × Str)) (E : XK) : List Expr → List WE → Prop where
  | nil : VJ X T E [] []
  | cons {e : Expr} {w : WE} {es : List Expr} {ws : List WE} (h : PE X e (up X.K T E w)) (r : VJ X T E es ws) : VJ X T E (e :: es) (w :: ws)
theorem vj_pj {es : List Expr} {ws : List WE} (h : VJ X T E es ws) : PJ X es (ws.map fun w => up X.K T E w) := by
  induction h with
  | nil => exact .nil
  | cons h r ih => exact .cons h ih
theorem js_up : ∀ (ws : List WE) (acc : Str) (σ : L2.St) (H : Hp) (Q : VK), up X.K T E (wJs ws acc) σ H Q → tJs (ws.map fun w => up X.K T E w) acc σ H fun out H1 => Q (.str out) H1
  | [], acc, σ, H, Q, ⟨ρ, μ, ev, Φ, en, st, xo, h, k⟩ => k.now h (.str _) st
  | w :: ws, acc, σ, H, Q, ⟨ρ, μ, ev, Φ, en, st, xo, h, k⟩ => ⟨ρ, μ, ev, _, en, st, xo, h, fun d μ1 v H1 ⟨y, e, hl, q⟩ iv st1 s1 => by
    subst e
    cases iv
    exact ⟨y, rfl, hl, js_up ws (acc ++ y) σ H1 Q ⟨ρ, μ1, ev, Φ, en.step s1, st1, xo.step s1, q, k.step s1⟩⟩⟩
theorem ve_joined {v1 v2 : Expr} {rest : List Expr} {ws : List WE} {pos : Pos} (h : VJ X T E (v1 :: v2 :: rest) ws) : PE X (.JoinedStr (v1 :: v2 :: rest) pos) (up X.K T E (wJs ws Str.empty)) :=
  pe_mono (pe_joined (vj_pj h)) fun σ H Q q => js_up ws _ σ H Q q
end
def vStrI : VL_ := fun xs μ Φ => ∃ i : Int, xs = [.int i] ∧ i.natAbs.log2 < 1920 ∧ Φ (.str (toString i)) μ
theorem s_strI {K : PySem.W.Frag} {T : List (Addr × Str)} : SimL K T (fun xs H Q => ∃ i : Int, xs = [V.int i] ∧ i.natAbs.log2 < 1920 ∧ Q (.str (toString i)) H) vStrI := fun xs vs μ H Φ Q ia st ⟨i, e, hi, q⟩ k => by
  subst e
  cases ia with
  | cons ix c =>
    cases c
    cases ix
    exact ⟨i, rfl, hi, k.now q (.str _) st⟩
section
variable {X : Cx} {k : Nat} {C : Addr} {pins : List (Addr × Obj)} {σ : L2.St} {H : Hp} {s : Shared} {Q : VK}
def rStrO (X : Cx) (T : List (Addr × Str)) (C : Addr) (sp : VSp) : List V → Hp → VK → Prop := fun xs H Q => ∃ (a dx : Addr) (fs : List (Str × V)) (d : D), xs = [.ref a] ∧ H a = some (.ins C dx fs) ∧
  ∃ μ, Is X.K μ H (.ref a) d ∧ Sto X.K T μ H ∧ ∃ Φ, sp [d] μ ev0 Φ ∧ ∀ d μ' v H', Φ d μ' → Is X.K μ' H' v d → Sto X.K T μ' H' → Step μ H μ' H' → ∃ z : Str, v = .str z ∧ Q (.str z) H'
theorem call_strO {T : List (Addr × Str)} {sp : VSp} (S : SpecV X.prog X.w X.K X.mg X.base T k C "__str__" 0 sp) (hG : X.A.guards = some []) (hr : Room (k + 2) X.A) : CallR X (.type "str") (rStrO X T C sp) := by
  intro pins s σ H xs us Q I rv h
  obtain ⟨a, dx, fs, d, rfl, ha, μ, i1, st, Φ, hsp, hk⟩ := h
  obtain ⟨f, as, hs, hf, ⟨⟨fd, ps, g, F, kp, hB⟩, ok⟩, idA⟩ := S.ex
  cases rv with
  | cons r1 rt =>
    cases rt
    cases r1
    obtain ⟨mA, J, _⟩ := ins_get I.hok ha
    obtain ⟨od, J, _⟩ := J.look
    have hu : X.A.in1.in1.units < cLine := by have := hr.in1.in1.un; omega
    refine PySem.W.kso_call hu I.kIn J hs hf ?_
    have hsp' : lift X.K T sp (argsV as [.ref a] []) H (fun v H' => ∃ z : Str, v = .str z ∧ Q (.str z) H') E0 :=
      ⟨_, μ, _, Φ, is_argsD (.cons i1 .nil) .nil as (by simpa using ok), st, xok0, by rw [idA [d] rfl]; exact hsp, fun d μ' v H' q iv st' s' => hk d μ' v H' q iv st' s'⟩
    refine wpAny_mono (run_gA (A := X.A.in1.in1) (vs := [.ref a]) ⟨hr.in1.in1, rfl⟩ F hG hB (fun _ _ _ _ _ _ _ z => z.elim) I (.cons rfl .nil) rfl hsp') (fun r s' q => ?_) fun _ _ x => x
    obtain ⟨v, H', I', rv, z, ev, q2⟩ := I.after q
    subst ev
    obtain ⟨t, rfl⟩ := rv
    exact ⟨.str z, H', I'.tok _, ⟨_, rfl⟩, q2⟩
def vStrO (C : Addr) (sp : VSp) : VL_ := fun xs μ Φ => ∃ x ns fs, xs = [x] ∧ insOf μ x = some (C, ns, fs) ∧ sp [x] μ ev0 fun d μ1 => ∃ z : Str, d = .str z ∧ Φ (.str z) μ1
theorem s_strO {T : List (Addr × Str)} {sp : VSp} : SimL X.K T (rStrO X T C sp) (vStrO C sp) := fun xs vs μ H Φ Q ia st ⟨x, ns, fs, e, hx, h⟩ k => by
  subst e
  cases ia with
  | cons ix c =>
    cases c
    obtain ⟨a, dx, us, rfl, ha, _, _⟩ := is_ins st ix hx
    refine ⟨a, dx, _, x, rfl, ha, μ, ix, st, _, h, fun d μ' v H' ⟨z, e, q⟩ iv st' s' => ?_⟩
    subst e
    cases iv
    exact ⟨z, rfl, k _ _ _ _ q (.str z) st' s'⟩
end
end VL

set_option maxRecDepth 100000
set_option maxHeartbeats 4000000
/-! values as trees: what only reads is asked of the things as they are now, as if they stayed -/
namespace VL
open PySem L2 FW PyProof.Rows
mutual
inductive Fz (μ : Mu) : D → D → Prop where
  | same (d : D) : Fz μ d d
  | lst {a : Addr} {ds es : List D} : μ a = some (.lst ds) → FzA μ ds es → Fz μ (.ref a) (.lst es)
  | inL {ds es : List D} : FzA μ ds es → Fz μ (.lst ds) (.lst es)
  | inT {ds es : List D} : FzA μ ds es → Fz μ (.tup ds) (.tup es)
inductive FzA (μ : Mu) : List D → List D → Prop where
  | nil : FzA μ [] []
  | cons {d e : D} {ds es : List D} : Fz μ d e → FzA μ ds es → FzA μ (d :: ds) (e :: es)
end
theorem FzA.same {μ : Mu} : ∀ ds : List D, FzA μ ds ds
  | [] => .nil
  | d :: ds => .cons (.same d) (FzA.same ds)
theorem FzA.len {μ : Mu} : ∀ {ds es : List D}, FzA μ ds es → ds.length = es.length
  | _, _, .nil => rfl
  | _, _, .cons _ f => by rw [List.length_cons, List.length_cons, FzA.len f]
/-- what only some things of the store, own ones, are left to -/
def Few (μ ν : Mu) : Prop := ∀ b m, ν b = some m → ∃ C ns ds, μ b = some (.ins C ns ds)
section
variable {K : PySem.W.Frag} {T : List (Addr × Str)} {μ ν μ2 : Mu} {H H' : Hp}
theorem Few.step (f : Few μ ν) : Step μ H ν H := fun a o h m n => ⟨h, by
  match e : ν a with
  | none => rfl
  | some m' => obtain ⟨C, ns, ds, e2⟩ := f a m' e; rw [m] at e2; cases e2⟩
mutual
theorem Fz.is (st : Sto K T μ H) (f : Few μ ν) : ∀ {d e : D} {v : V}, Fz μ d e → Is K μ H v d → Is K ν H v e
  | _, _, _, .same _, i => i.step f.step
  | _, _, _, .lst (a := a) e g, i => by
    cases i
    obtain ⟨vs, h, j⟩ := st.mo a _ e
    refine .lst ⟨?_, h⟩ (FzA.is st f g j)
    match q : ν a with
    | none => rfl
    | some m' => obtain ⟨C, ns, ds, e2⟩ := f a m' q; rw [e] at e2; cases e2
  | _, _, _, .inL g, i => by
    cases i with
    | lst a j => exact .lst (a.step f.step) (FzA.is st f g j)
  | _, _, _, .inT g, i => by
    cases i with
    | tup a j => exact .tup (a.step f.step) (FzA.is st f g j)
theorem FzA.is (st : Sto K T μ H) (f : Few μ ν) : ∀ {ds es : List D} {vs : List V}, FzA μ ds es → IsAll K μ H vs ds → IsAll K ν H vs es
  | _, _, _, .nil, i => by cases i; exact .nil
  | _, _, _, .cons g r, i => by
    cases i with
    | cons a b => exact .cons (Fz.is st f g a) (FzA.is st f r b)
end
theorem mo_kind {a : Addr} {m : MO} (h : MOk K μ H a m) : ∃ o, H a = some o ∧ (∀ ps, o ≠ .tbl ps) ∧ (∀ vs, o ≠ .tup vs) ∧ ∀ fs, o ≠ .xd fs := by
  cases m with
  | lst ds => obtain ⟨vs, h, _⟩ := h; exact ⟨_, h, nofun, nofun, nofun⟩
  | dic ks ds => obtain ⟨vs, h, _⟩ := h; exact ⟨_, h, nofun, nofun, nofun⟩
  | ins C ns ds => obtain ⟨dx, vs, h, _⟩ := h; exact ⟨_, h, nofun, nofun, nofun⟩
  | raw o => obtain ⟨h, n, _, φ, e⟩ := h; subst e; exact ⟨_, h, nofun, nofun, nofun⟩
  | rawT o L => obtain ⟨⟨h, n, _, φ, e⟩, _⟩ := h; subst e; exact ⟨_, h, nofun, nofun, nofun⟩
mutual
/-- values without lists, dicts or own things -/
def pur : D → Bool
  | .non => true
  | .bl _ => true
  | .int _ => true
  | .str _ => true
  | .tup ds => purs ds
  | _ => false
def purs : List D → Bool
  | [] => true
  | d :: ds => pur d && purs ds
end
/-- where the store was borrowed: tuples and errors' dicts that are there now are none of its things -/
def Off (μ : Mu) (H' : Hp) : Prop := ∀ q o, H' q = some o → ((∃ vs, o = .tup vs) ∨ ∃ fs, o = .xd fs) → μ q = none
mutual
theorem pur_back (f : Off μ H') : ∀ {d : D} {v : V}, pur d = true → Is K μ2 H' v d → Is K μ H' v d
  | _, _, _, .non => .non
  | _, _, _, .bl b => .bl b
  | _, _, _, .int i => .int i
  | _, _, _, .str s => .str s
  | _, _, p, .ty _ => by simp [pur] at p
  | _, _, p, .ref _ => by simp [pur] at p
  | _, _, p, .lst _ _ => by simp [pur] at p
  | _, _, p, .sq _ _ => by simp [pur] at p
  | _, _, p, .tup a i => by
    refine .tup ?_ (purs_back f (by simpa only [pur] using p) i)
    rcases a with ⟨_, h⟩ | h
    · exact .inl ⟨f _ _ h (.inl ⟨_, rfl⟩), h⟩
    · exact .inr h
  | _, _, p, .dic _ _ _ _ => by simp [pur] at p
  | _, _, p, .obj _ _ _ _ => by simp [pur] at p
  | _, _, p, .exc _ _ _ _ _ _ => by simp [pur] at p
theorem purs_back (f : Off μ H') : ∀ {ds : List D} {vs : List V}, purs ds = true → IsAll K μ2 H' vs ds → IsAll K μ H' vs ds
  | _, _, _, .nil => .nil
  | _, _, p, .cons a b => by
    simp only [purs, Bool.and_eq_true] at p
    exact .cons (pur_back f p.1 a) (purs_back f p.2 b)
end
def mu0 : Mu := fun _ => none
theorem few0 : Few μ mu0 := fun _ _ e => nomatch e
theorem sto0 (st : Sto K T μ H) : Sto K T mu0 H := ⟨fun _ _ e => (nomatch e), st.tab⟩
theorem off0 (st : Sto K T μ H) (s : Step mu0 H μ2 H') : Off μ H' := fun q o h n => by
  match e : μ q with
  | none => rfl
  | some m =>
    obtain ⟨u, hu, n1, n2, n3⟩ := mo_kind (st.mo q m e)
    have := (s q u hu rfl n1).1
    rw [h] at this
    cases this
    rcases n with ⟨vs, rfl⟩ | ⟨fs, rfl⟩
    · exact absurd rfl (n2 vs)
    · exact absurd rfl (n3 fs)
theorem back0 (s : Step mu0 H μ2 H') : Step μ H μ H' := fun a o h m n => ⟨(s a o h rfl n).1, m⟩
theorem stoB0 (st : Sto K T μ H) (s : Step mu0 H μ2 H') (t : LamX.Tabs T H') : Sto K T μ H' := ⟨fun b m e => (st.mo b m e).at_ (back0 s) (by
  obtain ⟨o, h, n, _⟩ := (st.mo b m e).there
  rw [(s b o h rfl n).1, h]), t⟩
/-- rows of slots, some of them seen as they are now -/
def FzR (μ : Mu) (ρ ρ' : Ro) : Prop := ρ'.length = ρ.length ∧ ∀ (i : Nat) (e : D), ρ'[i]? = some (some e) → ∃ d, ρ[i]? = some (some d) ∧ Fz μ d e
theorem FzR.refl (ρ : Ro) : FzR μ ρ ρ := ⟨rfl, fun i e h => ⟨e, h, .same e⟩⟩
theorem FzR.set {ρ ρ' : Ro} {i : Nat} {d e : D} (f : FzR μ ρ ρ') (h : ρ[i]? = some (some d)) (g : Fz μ d e) : FzR μ ρ (ρ'.set i (some e)) := by
  refine ⟨by rw [List.length_set]; exact f.1, fun j e2 h2 => ?_⟩
  by_cases hj : i = j
  · subst hj
    by_cases hl : i < ρ'.length
    · rw [List.getElem?_set_self hl] at h2
      cases h2
      exact ⟨d, h, g⟩
    · rw [List.getElem?_eq_none (by rw [List.length_set]; omega)] at h2
      cases h2
  · rw [List.getElem?_set_ne hj] at h2
    exact f.2 j e2 h2
theorem FzR.sl {ρ ρ' : Ro} {σ : L2.St} (f : FzR μ ρ ρ') (st : Sto K T μ H) (w : Few μ ν) (en : Sl K μ H σ ρ) : Sl K ν H σ ρ' :=
  ⟨by rw [en.1, f.1], fun i e h => by
    obtain ⟨d, h2, g⟩ := f.2 i e h
    obtain ⟨v, h3, iv⟩ := en.2 i d h2
    exact ⟨v, h3, g.is st w iv⟩⟩
end
def wBor (w : WE) : WE := fun ρ μ ev Φ => ∃ ρ', FzR μ ρ ρ' ∧ w ρ' mu0 (fun C ns ds _ => purs ds = true ∧ ev C ns ds μ) fun d _ => pur d = true ∧ Φ d μ
section
variable {X : Cx} {T : List (Addr × Str)} {E : XK}
theorem ve_bor {e : Expr} {w : WE} (he : PE X e (up X.K T E w)) : PE X e (up X.K T E (wBor w)) :=
  pe_mono he fun σ H Q ⟨ρ, μ, ev, Φ, en, st, xo, ⟨ρ', fr, h⟩, k⟩ => ⟨ρ', mu0, _, _, fr.sl st few0 en, sto0 st,
    fun C ns ds vs dd m H' ⟨p, h⟩ hd md l ia st1 s1 => xo C ns ds vs dd μ H' h hd (off0 st s1 _ _ hd (.inr ⟨_, rfl⟩)) l (purs_back (off0 st s1) p ia) (stoB0 st s1 st1.tab) (back0 s1), h,
    fun d μ2 v H' ⟨p, q⟩ iv st2 s2 => k d μ v H' q (pur_back (off0 st s2) p iv) (stoB0 st s2 st2.tab) (back0 s2)⟩
end
/-! ### an own thing is made of things that may change -/
def borI (sp : VSp) : VSp := fun ds μ ev Φ => ∃ c C rest rest', ds = .ref c :: rest ∧ μ c = some (.ins C [] []) ∧ FzA μ rest rest' ∧ sp (.ref c :: rest') (mu0.set c (.ins C [] [])) (fun B ns ds μ2 => purs ds = true ∧ μ2 c = some (.ins C [] []) ∧ ev B ns ds μ) fun d μ2 => pur d = true ∧ ∃ ns xs, μ2 c = some (.ins C ns xs) ∧ purs xs = true ∧ Φ d (μ.set c (.ins C ns xs))
section
variable {K : PySem.W.Frag} {T : List (Addr × Str)} {μ μ2 : Mu} {H H' : Hp} {c C : Addr}
theorem few1 (e : μ c = some (.ins C [] [])) : Few μ (mu0.set c (.ins C [] [])) := fun b m h => by
  unfold Mu.set at h
  split at h
  · rename_i hb; rw [hb]; exact ⟨_, _, _, e⟩
  · cases h
theorem sto1 (st : Sto K T μ H) (e : μ c = some (.ins C [] [])) : Sto K T (mu0.set c (.ins C [] [])) H := ⟨fun b m h => (by
  unfold Mu.set at h
  split at h
  · rename_i hb
    cases h
    subst hb
    exact (st.mo b _ e).at_ (few1 e).step rfl
  · cases h), st.tab⟩
theorem off1 (st : Sto K T μ H) (s : Step (mu0.set c (.ins C [] [])) H μ2 H') (hc : ∃ dx fs, H' c = some (.ins C dx fs)) : Off μ H' := fun q o h n => by
  match e : μ q with
  | none => rfl
  | some m =>
    obtain ⟨u, hu, n1, n2, n3⟩ := mo_kind (st.mo q m e)
    by_cases hq : q = c
    · subst hq
      obtain ⟨dx, fs, hc⟩ := hc
      rw [h] at hc
      cases hc
      rcases n with ⟨vs, e⟩ | ⟨fs, e⟩ <;> cases e
    · have := (s q u hu (Mu.ne hq) n1).1
      rw [h] at this
      cases this
      rcases n with ⟨vs, rfl⟩ | ⟨fs, rfl⟩
      · exact absurd rfl (n2 vs)
      · exact absurd rfl (n3 fs)
theorem backI (s : Step (mu0.set c (.ins C [] [])) H μ2 H') (e : μ c = some (.ins C [] [])) (m : MO) : Step μ H (μ.set c m) H' := fun a o h n nt => by
  have hac : a ≠ c := fun z => by rw [z, e] at n; cases n
  exact ⟨(s a o h (Mu.ne hac) nt).1, by rw [Mu.ne hac]; exact n⟩
theorem stoBI {ns : List Str} {xs : List D} (st : Sto K T μ H) (s : Step (mu0.set c (.ins C [] [])) H μ2 H') (e : μ c = some (.ins C [] [])) (t : Sto K T μ2 H') (h2 : μ2 c = some (.ins C ns xs)) (p : purs xs = true) : Sto K T (μ.set c (.ins C ns xs)) H' := by
  obtain ⟨dx, vs, hc, hl, hi⟩ := t.mo c _ h2
  have off := off1 st s ⟨dx, _, hc⟩
  refine ⟨fun b m h => ?_, t.tab⟩
  by_cases hb : b = c
  · subst hb
    rw [Mu.same] at h
    cases h
    refine ⟨dx, vs, hc, hl, purs_back (fun q o h n => ?_) p hi⟩
    have := off q o h n
    have hq : q ≠ b := fun z => by rw [z, e] at this; cases this
    rw [Mu.ne hq]; exact this
  · rw [Mu.ne hb] at h
    obtain ⟨o, ho, n, _⟩ := (st.mo b m h).there
    exact (st.mo b m h).at_ (backI s e _) (by rw [(s b o ho (Mu.ne hb) n).1, ho])
theorem lift_borI {sp : VSp} {vs : List V} {Q : VK} {E : XK} (h : lift K T (borI sp) vs H Q E) : lift K T sp vs H Q E := by
  obtain ⟨ds, μ, ev, Φ, ia, st, xo, ⟨c, C, rest, rest', rfl, e, fz, q⟩, k⟩ := h
  refine ⟨_, _, _, _, ?_, sto1 st e, ?_, q, ?_⟩
  · cases ia with
    | cons i r =>
      cases i
      exact .cons (.ref c) (FzA.is st (few1 e) fz r)
  · rintro B ns ds vs2 dd μ2 H' ⟨p, h2, h⟩ hd md l ia2 st2 s2
    obtain ⟨dx, vs3, hc, hl, hi⟩ := st2.mo c _ h2
    have off := off1 st s2 ⟨dx, _, hc⟩
    have same : μ.set c (.ins C [] []) = μ := by
      funext b
      by_cases hb : b = c
      · subst hb; rw [Mu.same, e]
      · rw [Mu.ne hb]
    have st3 := stoBI st s2 e st2 h2 rfl
    have s3 := backI s2 e (.ins C [] [])
    rw [same] at st3 s3
    exact xo B ns ds vs2 dd μ H' h hd (off _ _ hd (.inr ⟨_, rfl⟩)) l (purs_back off p ia2) st3 s3
  · rintro d μ2 v H' ⟨p, ns, xs, h2, px, q⟩ iv st2 s2
    obtain ⟨dx, vs2, hc, hl, hi⟩ := st2.mo c _ h2
    have off := off1 st s2 ⟨dx, _, hc⟩
    refine k d _ v H' q (pur_back (fun q o h n => ?_) p iv) (stoBI st s2 e st2 h2 px) (backI s2 e _)
    have := off q o h n
    have hq : q ≠ c := fun z => by rw [z, e] at this; cases this
    rw [Mu.ne hq]; exact this
end
theorem canV_borI {P : Program} {w : World} {K : PySem.W.Frag} {mg : Str → Option Value} {base : Heap} {CX : CXT} {T : List (Addr × Str)} {k n : Nat} {f : Addr} {ks : List Str} {as : List Arg} {sp : VSp} (c : CanV P w K mg base CX T k f n ks as sp) : CanV P w K mg base CX T k f n ks as (borI sp) := by
  obtain ⟨⟨fd, ps, g, F, kp, b⟩, ok⟩ := c
  exact ⟨⟨fd, ps, g, ⟨fun vs H Q E h => F.size vs H Q E (lift_borI h), fun A outer s H args us vs Q E hG hr e0 hb hv hs => F.goes A outer s H args us vs Q E hG hr e0 hb hv (lift_borI hs)⟩, kp, b⟩, ok⟩
end VL

set_option maxRecDepth 100000
set_option maxHeartbeats 4000000
/-! values as trees: static methods, called by their class; texts: removeprefix, isascii, isdigit, int -/
namespace VL
open PySem PySem.Spec L2 FW PyProof.Rows
/-- C.m is a static method, its def at f -/
structure SMeth (K : PySem.W.Frag) (C : Addr) (m : Str) (f : Addr) : Prop where
  rd : PySem.W.readsIn K C (.type "type") = true
  ga : PySem.W.specialIn K (.ref C) "__getattribute__" = some (some (.builtin "type.__getattribute__"))
  ex : ∃ p rest, PySem.W.findCls K (.ref C) (.type "type") m = some (.get (.builtin "staticmethod.__get__") (.ref p) .none (.ref C)) ∧ PySem.W.recIn K p "staticmethod" = some (.ref f :: rest)
section
variable {X : Cx} {pins : List (Addr × Obj)} {σ : L2.St} {H : Hp} {s : Shared} {C f : Addr} {m : Str} {A : Around} {E : Value → Shared → Prop}
theorem getstat_ok {pl : Sem Bool} {Q : Value × List Value → Shared → Prop} (I : Inv X pins σ H s) (S : SMeth X.K C m f) (h : ∀ s', Inv X pins σ H s' → Q (.ref f, []) s') : wpAny (model X.prog X.w) A (getMethod (.ref C) m pl) Q E s := by
  obtain ⟨p, rest, e, hp⟩ := S.ex
  refine PySem.W.method_cls I.kIn S.ga (PySem.W.cls_bind I.kIn S.rd e ?_)
  exact wpAny_call (PySem.W.sm_get (s := { s with toks := s.toks + 1 }) I.kIn hp (PySem.W.handed_on rfl (h _ (I.tok _))))
end
def wStat (sel : EV → EV) (C : Addr) (as : List Arg) (sp : VSp) (n mk : Nat) (wo : WE) (w wk : WA) : WE := fun ρ μ ev Φ => wo ρ μ ev fun x μ0 => x = .ref C ∧ w ρ μ0 ev fun ds μ1 => wk ρ μ1 ev fun es μ2 => ds.length = n ∧ es.length = mk ∧ sp (argsD as ds es) μ2 (sel ev) Φ
section
variable {X : Cx} {CX : CXT} {T : List (Addr × Str)} {k j n : Nat} {f C : Addr} {x m : Str} {ks : List Str} {as : List Arg} {sp : VSp} {E E' : XK} {sel : EV → EV} {p pos apos : Pos} {e o : Expr} {es : List Expr} {kws : List Keyword} {w wk : WA} {wo we : WE}
theorem ve_stat {pl : Sem Bool} (S : SMeth X.K C m f) (c : CanV X.prog X.w X.K X.mg X.base CX T k f n ks as sp) (hG : X.A.guards = some []) (hr : Room j X.A) (hk : k ≤ j) (hx : Passes CX X E') (hs : Sel E E' sel) (ho : PE X o (up X.K T E wo)) (ha : PA X (e :: es) (upA X.K T E w)) (hkw : PK X kws (upA X.K T E wk))
    (hall : (backToKw pos (keywordEach kws X.env)).all (·.1.isSome) = true := by rfl) (hks : (backToKw pos (keywordEach kws X.env)).filterMap (·.1) = ks := by rfl)
    (he : starEach (e :: es) X.env = (false, eval e X.env) :: starEach es X.env := by rfl) (hpl : ((backTo pos (starEach (e :: es) X.env)).any (·.1) || (backToKw pos (keywordEach kws X.env)).any (·.1.isNone)) = false := by rfl)
    (ht : eval (.Call (.Attribute o m apos) (e :: es) kws pos) X.env = (do let ov ← eval o X.env; standAt apos.atName; let (f, first) ← holding [ov] (getMethod ov m pl); callWith pos f first (backTo pos (starEach (e :: es) X.env)) (backToKw pos (keywordEach kws X.env))) := by rfl) :
    PE X (.Call (.Attribute o m apos) (e :: es) kws pos) (up X.K T E (wStat sel C as sp n ks.length wo w wk)) := by
  obtain ⟨⟨fd, ps, g, F, kp, hb⟩, ok⟩ := c
  refine ⟨fun pins s σ H Q I ⟨ρ, μ, ev, Φ, en, st, xo, h, k⟩ => PySem.W.methodCall_KW (pl := pl) (thn (ho.run pins s σ H _ I (show up X.K T E wo σ H (fun x H0 => x = .ref C ∧ upA X.K T E w σ H0 fun vs H1 => upA X.K T E wk σ H1 fun zs H2 => vs.length = n ∧ zs.length = ks.length ∧ lift X.K T sp (argsV as vs zs) H2 Q E') from
    ⟨ρ, μ, ev, _, en, st, xo, h, fun x μ0 v H0 ⟨ex, q⟩ i0 st0 s0 => by
      subst ex
      cases i0
      exact ⟨rfl, ρ, μ0, ev, _, en.step s0, st0, xo.step s0, q, fun ds μ1 vs H1 q i1 st1 s1 => ⟨ρ, μ1, ev, _, en.step (s0.trans s1), st1, xo.step (s0.trans s1), q, fun fs μ2 zs H2 ⟨l1, l2, q2⟩ i2 st2 s2 => ⟨by rw [i1.len]; exact l1, by rw [i2.len]; exact l2,
        into_call hs ok xo k i1 (s0.trans s1) i2 st2 s2 l1 l2 q2⟩⟩⟩⟩)) fun u s0 y => ?_) ht⟩
  obtain ⟨x, H0, I0, rx, ex, q⟩ := y
  subst ex
  obtain rfl : u = Value.ref C := rx
  refine getstat_ok I0 S fun s0' I0' => PySem.W.callWith_KW (first := []) (h₀ := X.base) I0'.ok.mod.kin kp hall ?_ hpl he
  refine thn (ha.run pos pins s0' σ H0 _ I0' q) fun us s1 y => ?_
  obtain ⟨vs, H1, J1, r, q⟩ := y
  refine thn (hkw.run pos pins s1 σ H1 _ J1 q) fun ws s2 y => ?_
  obtain ⟨zs, H2, J2, rz, l1, l2, q2⟩ := y
  refine ⟨J2.kIn, ?_⟩
  rw [hks]
  exact run_g F hG (hr.mono hk) hb hx J2 r rz l1 l2 q2
theorem ve_statN0 {pl : Sem Bool} (S : SMeth X.K C m f) (c : CanV X.prog X.w X.K X.mg X.base CX T k f 0 ks as sp) (hG : X.A.guards = some []) (hr : Room j X.A) (hk : k ≤ j) (hx : Passes CX X E') (hs : Sel E E' sel) (ho : PE X o (up X.K T E wo)) (hkw : PK X kws (upA X.K T E wk))
    (hall : (backToKw pos (keywordEach kws X.env)).all (·.1.isSome) = true := by rfl) (hks : (backToKw pos (keywordEach kws X.env)).filterMap (·.1) = ks := by rfl)
    (hpl : ((backTo pos (starEach [] X.env)).any (·.1) || (backToKw pos (keywordEach kws X.env)).any (·.1.isNone)) = false := by rfl)
    (ht : eval (.Call (.Attribute o m apos) [] kws pos) X.env = (do let ov ← eval o X.env; standAt apos.atName; let (f, first) ← holding [ov] (getMethod ov m pl); callWith pos f first (backTo pos (starEach [] X.env)) (backToKw pos (keywordEach kws X.env))) := by rfl) :
    PE X (.Call (.Attribute o m apos) [] kws pos) (up X.K T E (wStat sel C as sp 0 ks.length wo wNil wk)) := by
  obtain ⟨⟨fd, ps, g, F, kp, hb⟩, ok⟩ := c
  refine ⟨fun pins s σ H Q I ⟨ρ, μ, ev, Φ, en, st, xo, h, k⟩ => PySem.W.methodCall_KW (pl := pl) (thn (ho.run pins s σ H _ I (show up X.K T E wo σ H (fun x H0 => x = .ref C ∧ upA X.K T E wk σ H0 fun zs H2 => zs.length = ks.length ∧ lift X.K T sp (argsV as [] zs) H2 Q E') from
    ⟨ρ, μ, ev, _, en, st, xo, h, fun x μ0 v H0 ⟨ex, q⟩ i0 st0 s0 => by
      subst ex
      cases i0
      exact ⟨rfl, ρ, μ0, ev, _, en.step s0, st0, xo.step s0, q, fun fs μ2 zs H2 ⟨l1, l2, q2⟩ i2 st2 s2 => ⟨by rw [i2.len]; exact l2,
        into_call (ds := []) (vs := []) hs ok xo k .nil s0 i2 st2 s2 rfl l2 q2⟩⟩⟩)) fun u s0 y => ?_) ht⟩
  obtain ⟨x, H0, I0, rx, ex, q⟩ := y
  subst ex
  obtain rfl : u = Value.ref C := rx
  refine getstat_ok I0 S fun s0' I0' => PySem.W.callWith_KW0 (first := []) (h₀ := X.base) I0'.ok.mod.kin kp hall ?_ hpl
  refine thn (hkw.run pos pins s0' σ H0 _ I0' q) fun ws s2 y => ?_
  obtain ⟨zs, H2, J2, rz, l2, q2⟩ := y
  refine ⟨J2.kIn, ?_⟩
  rw [hks]
  exact run_g (us := []) (vs := []) F hG (hr.mono hk) hb hx J2 .nil rz rfl l2 q2
end
/-! ### texts -/
section
variable {K : PySem.W.Frag} {T : List (Addr × Str)}
def vRmPre : VM := fun x xs μ Φ => ∃ a b, x = .str a ∧ xs = [.str b] ∧ a.length ≤ sizeLine ∧ Φ (.str (Txt.removeprefix a b)) μ
theorem s_rmpre : SimM K T "str" (fun x xs H Q => ∃ a b, x = .str a ∧ xs = [.str b] ∧ a.length ≤ sizeLine ∧ Q (.str (Txt.removeprefix a b)) H) okStr vRmPre :=
  ⟨fun x v μ H ix st ⟨z, e⟩ => by subst e; cases ix; rfl, fun x xs v vs μ H Φ Q ix ia st ⟨a, b, e1, e2, hl, q⟩ k => by
    subst e1 e2
    cases ix
    cases ia with
    | cons i c =>
      cases c
      cases i
      exact ⟨a, b, rfl, rfl, hl, k.now q (.str _) st⟩⟩
def vIsAsc : VM := fun x xs μ Φ => ∃ a, x = .str a ∧ xs = [] ∧ Φ (.bl (Txt.isascii a)) μ
theorem s_isasc : SimM K T "str" (fun x xs H Q => ∃ a, x = .str a ∧ xs = [] ∧ True ∧ Q (.bl (Txt.isascii a)) H) okStr vIsAsc :=
  ⟨fun x v μ H ix st ⟨z, e⟩ => by subst e; cases ix; rfl, fun x xs v vs μ H Φ Q ix ia st ⟨a, e1, e2, q⟩ k => by
    subst e1 e2
    cases ix
    cases ia
    exact ⟨a, rfl, rfl, trivial, k.now q (.bl _) st⟩⟩
def vIsDig : VM := fun x xs μ Φ => ∃ a, x = .str a ∧ xs = [] ∧ Φ (.bl (Txt.isdigit a)) μ
theorem s_isdig : SimM K T "str" (fun x xs H Q => ∃ a, x = .str a ∧ xs = [] ∧ True ∧ Q (.bl (Txt.isdigit a)) H) okStr vIsDig :=
  ⟨fun x v μ H ix st ⟨z, e⟩ => by subst e; cases ix; rfl, fun x xs v vs μ H Φ Q ix ia st ⟨a, e1, e2, q⟩ k => by
    subst e1 e2
    cases ix
    cases ia
    exact ⟨a, rfl, rfl, trivial, k.now q (.bl _) st⟩⟩
def vIntS : VL_ := fun xs μ Φ => ∃ a n, xs = [.str a] ∧ PySem.intText? a = some n ∧ a.length ≤ 640 ∧ Φ (.int n) μ
theorem s_intS : SimL K T (fun xs H Q => ∃ a n, xs = [V.str a] ∧ PySem.intText? a = some n ∧ a.length ≤ 640 ∧ Q (.int n) H) vIntS := fun xs vs μ H Φ Q ia st ⟨a, n, e, h1, h2, q⟩ k => by
  subst e
  cases ia with
  | cons i c =>
    cases c
    cases i
    exact ⟨a, n, rfl, h1, h2, k.now q (.int _) st⟩
end
end VL

set_option maxRecDepth 100000
set_option maxHeartbeats 4000000
/-! values as trees: what repr shows of things that hold dicts -/
namespace VL
open PySem L2 FW PyProof.Rows
def kP : Key → PyData
  | .inl i => .int i
  | .inr s => .str s
mutual
/-- what a heap tells of a value; its dicts are none of the interpreter's own -/
inductive Tel (h : Heap) : Value → PyData → Prop
  | non : Tel h .none .none
  | bl (b : Bool) : Tel h (.bool b) (.bool b)
  | int (i : Int) (t : Tok) : Tel h (.int i t) (.int i)
  | str (x : Str) (t : Tok) : Tel h (.str x t) (.str x)
  | lst {a : Addr} {o : Obj} {vs : Array Value} {n : Nat} {ps : List PyData} : h.get? a = some o → o.cls = .type "list" → o.data = .seq vs n → TelA h vs.toList ps → Tel h (.ref a) (.list ps)
  | tup {a : Addr} {o : Obj} {vs : Array Value} {n : Nat} {ps : List PyData} : h.get? a = some o → o.cls = .type "tuple" → o.data = .seq vs n → TelA h vs.toList ps → Tel h (.ref a) (.tuple ps)
  | dic {a : Addr} {o : Obj} {es : Array DictEntry} {n : Nat} {kvs : List (PyData × PyData)} : h.get? a = some o → o.cls = .type "dict" → o.data = .dict es n → (a == sysModules) = false → TelA h (es.toList.map (·.key)) (kvs.map (·.1)) →
      TelA h (es.toList.map (·.val)) (kvs.map (·.2)) → Tel h (.ref a) (.dict kvs)
inductive TelA (h : Heap) : List Value → List PyData → Prop
  | nil : TelA h [] []
  | cons {v : Value} {vs : List Value} {p : PyData} {ps : List PyData} : Tel h v p → TelA h vs ps → TelA h (v :: vs) (p :: ps)
end
section
variable {h : Heap}
mutual
theorem Tel.reads : ∀ {p : PyData} {v : Value}, Tel h v p → ∃ as, Reads h v p as
  | _, _, .non => ⟨_, .none⟩
  | _, _, .bl b => ⟨_, .bool b⟩
  | _, _, .int i t => ⟨_, .int i t⟩
  | _, _, .str x t => ⟨_, .str x t⟩
  | _, _, .lst h1 h2 h3 r => by obtain ⟨as, q⟩ := TelA.reads r; exact ⟨_, .list h1 h2 h3 q⟩
  | _, _, .tup h1 h2 h3 r => by obtain ⟨as, q⟩ := TelA.reads r; exact ⟨_, .tuple h1 h2 h3 q⟩
  | _, _, .dic h1 h2 h3 _ r1 r2 => by
    obtain ⟨as, q1⟩ := TelA.reads r1
    obtain ⟨bs, q2⟩ := TelA.reads r2
    exact ⟨_, .dict h1 h2 h3 q1 q2⟩
theorem TelA.reads : ∀ {ps : List PyData} {vs : List Value}, TelA h vs ps → ∃ as, ReadsAll h vs ps as
  | _, _, .nil => ⟨_, .nil⟩
  | _, _, .cons a b => by
    obtain ⟨as, q1⟩ := Tel.reads a
    obtain ⟨bs, q2⟩ := TelA.reads b
    exact ⟨_, .cons q1 q2⟩
end
variable {prog : Program} {w : World}
/-- how a value is shown: what is looked at, and that it is no deeper -/
def ShwK (prog : Program) (w : World) (h : Heap) (v : Value) (p : PyData) : Prop := ∃ bs, ReadAtMost h p.depth bs ∧ ReprK prog w bs h p.depth v p.shown
def ShwA (prog : Program) (w : World) (h : Heap) (vs : List Value) (ps : List PyData) : Prop := ∃ bs, ReadAtMost h (PyData.depthAll ps) bs ∧ ReprAllK prog w bs h (PyData.depthAll ps) vs (PyData.shownAll ps)
theorem ShwA.cons {v : Value} {vs : List Value} {p : PyData} {ps : List PyData} (a : ShwK prog w h v p) (b : ShwA prog w h vs ps) : ShwA prog w h (v :: vs) (p :: ps) := by
  obtain ⟨xs, rx, kx⟩ := a
  obtain ⟨ys, ry, ky⟩ := b
  have l1 : p.depth ≤ PyData.depthAll (p :: ps) := by simp only [PyData.depthAll]; omega
  have l2 : PyData.depthAll ps ≤ PyData.depthAll (p :: ps) := by simp only [PyData.depthAll]; omega
  refine ⟨xs ++ ys, (rx.mono l1).append (ry.mono l2), ?_⟩
  simp only [PyData.shownAll]
  exact .cons ((kx.more fun b z => List.mem_append_left _ z).level_le l1) (ky.more_le (fun b z => List.mem_append_right _ z) l2)
theorem len_kv {kvs : List (PyData × PyData)} (hz : (PyData.dict kvs).shown.length ≤ sizeLine) : (∀ t ∈ PyData.shownAll (kvs.map (·.1)), t.length ≤ sizeLine) ∧ ∀ t ∈ PyData.shownAll (kvs.map (·.2)), t.length ≤ sizeLine := by
  have hz2 : (dictText (PyData.shownKv kvs)).length ≤ sizeLine := by simpa only [PyData.shown] using hz
  refine ⟨fun t ht => ?_, fun t ht => ?_⟩
  · obtain ⟨p, hp, hl⟩ := PyData.shownKv_key_le kvs t ht
    exact Nat.le_trans hl (Nat.le_trans (dictText_mem_le hp) hz2)
  · obtain ⟨p, hp, hl⟩ := PyData.shownKv_val_le kvs t ht
    exact Nat.le_trans hl (Nat.le_trans (dictText_mem_le hp) hz2)
/-- the parts of a dict, shown -/
theorem two_kv {es : List DictEntry} {kvs : List (PyData × PyData)} (a : ShwA prog w h (es.map (·.key)) (kvs.map (·.1))) (b : ShwA prog w h (es.map (·.val)) (kvs.map (·.2))) : ∃ bs, ReadAtMost h (PyData.depthKv kvs) bs ∧ ReprEntriesK prog w bs h (PyData.depthKv kvs) es (PyData.shownKv kvs) := by
  obtain ⟨xs, rx, kx⟩ := a
  obtain ⟨ys, ry, ky⟩ := b
  refine ⟨xs ++ ys, (rx.mono (PyData.depthAll_keys_le kvs)).append (ry.mono (PyData.depthAll_vals_le kvs)), ?_⟩
  rw [PyData.shownKv_eq]
  exact ReprEntriesK.of_two es _ _ (kx.more_le (fun b z => List.mem_append_left _ z) (PyData.depthAll_keys_le kvs)) (ky.more_le (fun b z => List.mem_append_right _ z) (PyData.depthAll_vals_le kvs))
mutual
theorem Tel.shw : ∀ {p : PyData} {v : Value}, Tel h v p → p.showable = true → p.shown.length ≤ sizeLine → ShwK prog w h v p
  | _, _, .non, _, _ => ⟨[], nofun, by simp only [PyData.shown]; exact .of_is ReprIs.none _ _ _⟩
  | _, _, .bl b, _, _ => ⟨[], nofun, by simp only [PyData.shown]; exact .of_is (ReprIs.bool b) _ _ _⟩
  | _, _, .int i t, hs, _ => ⟨[], nofun, by simp only [PyData.shown]; exact .of_is (ReprIs.int t (by simpa [PyData.showable] using hs)) _ _ _⟩
  | _, _, .str x t, _, hz => ⟨[], nofun, by simp only [PyData.shown]; exact .of_is (ReprIs.str x t (by simpa only [PyData.shown] using hz)) _ _ _⟩
  | _, _, .lst (a := a) (vs := vs) (ps := ps) h1 h2 h3 r, hs, hz => by
    have hz2 : (listText (PyData.shownAll ps)).length ≤ sizeLine := by simpa only [PyData.shown] using hz
    obtain ⟨bs, rb, kb⟩ := TelA.shw r (by simpa [PyData.showable] using hs) fun t ht => Nat.le_trans (listText_mem_le ht) hz2
    obtain ⟨as, rd⟩ := Tel.reads (.lst h1 h2 h3 r)
    have nb : a ∉ bs := not_mem_of_deeper rd (by simp only [PyData.depth]; omega) rb
    refine ⟨a :: bs, ReadAtMost.cons rd (by simp only [PyData.depth]; omega) rb, ?_⟩
    simp only [PyData.depth, PyData.shown]
    obtain ⟨l⟩ := vs
    cases l with
    | nil =>
      have r2 : TelA h [] ps := r
      cases r2
      simp only [PyData.shownAll, listText_nil]
      exact ReprK.listEmpty h1 h2 h3
    | cons x l => exact ReprK.list h1 h2 h3 nb (by simpa using kb.length_eq) fun i y e => kb.item i y (by simpa using e)
  | _, _, .tup (a := a) (ps := ps) h1 h2 h3 r, hs, hz => by
    have hz2 : (tupleText (PyData.shownAll ps)).length ≤ sizeLine := by simpa only [PyData.shown] using hz
    obtain ⟨bs, rb, kb⟩ := TelA.shw r (by simpa [PyData.showable] using hs) fun t ht => Nat.le_trans (tupleText_mem_le ht) hz2
    obtain ⟨as, rd⟩ := Tel.reads (.tup h1 h2 h3 r)
    have nb : a ∉ bs := not_mem_of_deeper rd (by simp only [PyData.depth]; omega) rb
    refine ⟨a :: bs, ReadAtMost.cons rd (by simp only [PyData.depth]; omega) rb, ?_⟩
    simp only [PyData.depth, PyData.shown]
    exact ReprK.tuple h1 h2 h3 nb kb
  | _, _, .dic (a := a) (kvs := kvs) h1 h2 h3 hy r1 r2, hs, hz => by
    obtain ⟨s1, s2⟩ := PyData.showableKv_split kvs (by simpa [PyData.showable] using hs)
    obtain ⟨z1, z2⟩ := len_kv hz
    obtain ⟨bs, rb, kb⟩ := two_kv (TelA.shw r1 s1 z1) (TelA.shw r2 s2 z2)
    obtain ⟨as, rd⟩ := Tel.reads (.dic h1 h2 h3 hy r1 r2)
    have nb : a ∉ bs := not_mem_of_deeper rd (by simp only [PyData.depth]; omega) rb
    refine ⟨a :: bs, ReadAtMost.cons rd (by simp only [PyData.depth]; omega) rb, ?_⟩
    simp only [PyData.depth, PyData.shown]
    exact ReprK.dict h1 h2 h3 hy nb kb
theorem TelA.shw : ∀ {ps : List PyData} {vs : List Value}, TelA h vs ps → PyData.showableAll ps = true → (∀ t ∈ PyData.shownAll ps, t.length ≤ sizeLine) → ShwA prog w h vs ps
  | _, _, .nil, _, _ => ⟨[], nofun, by simp only [PyData.shownAll]; exact .nil⟩
  | _, _, .cons (p := p) (ps := ps) a b, hs, hz => by
    have hs2 : p.showable = true ∧ PyData.showableAll ps = true := by simpa [PyData.showableAll] using hs
    exact .cons (Tel.shw a hs2.1 (hz _ (by simp only [PyData.shownAll]; exact List.mem_cons_self ..))) (TelA.shw b hs2.2 fun t ht => hz t (by simp only [PyData.shownAll]; exact List.mem_cons_of_mem _ ht))
end
/-- repr of a thing that is told -/
theorem call_repr_tel {a : Addr} {p : PyData} {A : Around} {E : Value → Shared → Prop} {s : Shared} {Q : Value → Shared → Prop} (t : Tel s.heap (.ref a) p) (hs : p.showable = true) (hz : p.shown.length ≤ sizeLine) (hg : A.guards = some []) (hu : A.units + (p.depth + 1) < cLine)
    (hQ : ∀ h' u tk, (∀ b o, s.heap.get? b = some o → h'.get? b = some o) → Q (.str p.shown u) { s with heap := h', toks := tk }) : wpAny (model prog w) A (call (.builtin "repr") [.ref a]) Q E s := by
  obtain ⟨as, rd⟩ := t.reads
  cases t with
  | lst h1 h2 h3 r =>
    rename_i o vs n ps
    have hz2 : (listText (PyData.shownAll ps)).length ≤ sizeLine := by simpa only [PyData.shown] using hz
    obtain ⟨bs, rb, kb⟩ := TelA.shw (prog := prog) (w := w) r (by simpa [PyData.showable] using hs) fun t ht => Nat.le_trans (listText_mem_le ht) hz2
    have nb : a ∉ bs := not_mem_of_deeper rd (by simp only [PyData.depth]; omega) rb
    simp only [PyData.depth] at hu
    simp only [PyData.shown] at hQ
    refine call_repr_slot (by omega) ⟨o, h1, h2⟩ F.slot_list_repr.toG ?_
    obtain ⟨l⟩ := vs
    cases l with
    | nil =>
      have r2 : TelA s.heap [] ps := r
      cases r2
      simp only [PyData.shownAll, listText_nil] at hQ
      exact call_list_repr_empty ⟨o, h1, h2⟩ h1 h3 ⟨_, _, rfl, hQ s.heap _ _ fun _ _ e => e⟩
    | cons x l =>
      exact call_list_reprK h1 h2 h3 nb (by simpa using kb.length_eq) (fun i y e => kb.item i y (by simpa using e)) hg (fun b _ => Clear.nil b) (by show A.units + 1 + _ < cLine; omega) (fun _ _ e => e) (fun h' u tk hk => ⟨_, _, rfl, hQ h' u tk hk⟩) hz2
  | tup h1 h2 h3 r =>
    rename_i o vs n ps
    have hz2 : (tupleText (PyData.shownAll ps)).length ≤ sizeLine := by simpa only [PyData.shown] using hz
    obtain ⟨bs, rb, kb⟩ := TelA.shw (prog := prog) (w := w) r (by simpa [PyData.showable] using hs) fun t ht => Nat.le_trans (tupleText_mem_le ht) hz2
    have nb : a ∉ bs := not_mem_of_deeper rd (by simp only [PyData.depth]; omega) rb
    simp only [PyData.depth] at hu
    simp only [PyData.shown] at hQ
    refine call_repr_slot (by omega) ⟨o, h1, h2⟩ F.slot_tuple_repr ?_
    exact call_tuple_reprK h1 h2 h3 nb kb hg (fun b _ => Clear.nil b) (by show A.units + 1 + _ < cLine; omega) (fun _ _ e => e) (fun h' u tk hk => ⟨_, _, rfl, hQ h' u tk hk⟩) hz2
  | dic h1 h2 h3 hy r1 r2 =>
    rename_i o es n kvs
    have hz2 : (dictText (PyData.shownKv kvs)).length ≤ sizeLine := by simpa only [PyData.shown] using hz
    obtain ⟨s1, s2⟩ := PyData.showableKv_split kvs (by simpa [PyData.showable] using hs)
    obtain ⟨z1, z2⟩ := len_kv hz
    obtain ⟨bs, rb, kb⟩ := two_kv (TelA.shw (prog := prog) (w := w) r1 s1 z1) (TelA.shw r2 s2 z2)
    have nb : a ∉ bs := not_mem_of_deeper rd (by simp only [PyData.depth]; omega) rb
    simp only [PyData.depth] at hu
    simp only [PyData.shown] at hQ
    refine call_repr_slot (by omega) ⟨o, h1, h2⟩ F.slot_dict_repr ?_
    exact call_dict_reprK h1 h2 h3 hy nb kb hg (fun b _ => Clear.nil b) (by show A.units + 1 + _ < cLine; omega) (fun _ _ e => e) (fun h' u tk hk => ⟨_, _, rfl, hQ h' u tk hk⟩) hz2
end
mutual
/-- a value, its dicts too -/
inductive DpX (K : PySem.W.Frag) (H : Hp) : V → PyData → Prop
  | non : DpX K H .non .none
  | bl (b : Bool) : DpX K H (.bl b) (.bool b)
  | int (i : Int) : DpX K H (.int i) (.int i)
  | str (x : Str) : DpX K H (.str x) (.str x)
  | lst {a : Addr} {xs : List V} {ps : List PyData} : SqL K H a xs → DpXA K H xs ps → DpX K H (.ref a) (.list ps)
  | tup {a : Addr} {xs : List V} {ps : List PyData} : SqT K H a xs → DpXA K H xs ps → DpX K H (.ref a) (.tuple ps)
  | dic {a : Addr} {ks : List Key} {xs : List V} {ps : List PyData} : H a = some (.dK (ks.zip xs)) → ks.length = xs.length → DpXA K H xs ps → DpX K H (.ref a) (.dict ((ks.map kP).zip ps))
inductive DpXA (K : PySem.W.Frag) (H : Hp) : List V → List PyData → Prop
  | nil : DpXA K H [] []
  | cons {v : V} {vs : List V} {p : PyData} {ps : List PyData} : DpX K H v p → DpXA K H vs ps → DpXA K H (v :: vs) (p :: ps)
end
theorem DpXA.len {K : PySem.W.Frag} {H : Hp} : ∀ {vs : List V} {ps : List PyData}, DpXA K H vs ps → vs.length = ps.length
  | _, _, .nil => rfl
  | _, _, .cons _ b => by rw [List.length_cons, List.length_cons, DpXA.len b]
theorem tel_keys {P : Program} {w : World} {h : Heap} : ∀ {ks : List Key} {vs : List V} {kvs : List (Key × Value)} {es : List DictEntry}, ks.length = vs.length → KV (ks.zip vs) kvs → Pairs (mixKind P w) es kvs → TelA h (es.map (·.key)) (ks.map kP) ∧ es.map (·.val) = kvs.map (·.2) ∧ Vals vs (kvs.map (·.2))
  | [], [], _, _, _, .nil, .nil => ⟨.nil, rfl, .nil⟩
  | k :: ks, v :: vs, _, _, l, .cons (b := kv) a b, .cons (e := en) c d e => by
    obtain ⟨i1, i2, i3⟩ := tel_keys (by simpa using l) b e
    refine ⟨.cons ?_ i1, by rw [List.map_cons, List.map_cons, d, i2], .cons a.2 i3⟩
    have a1 : k = kv.1 := a.1
    have c2 : keyIs k en.key = true := by rw [a1]; exact c
    show Tel h en.key (kP k)
    rcases keyIs_shape c2 with ⟨i, t, e1, e2⟩ | ⟨x, t, e1, e2⟩
    · rw [e1, e2]; exact .int i t
    · rw [e1, e2]; exact .str x t
section
variable {X : Cx} {pins : List (Addr × Obj)} {σ : L2.St} {H : Hp} {s : Shared}
mutual
theorem DpX.tel (I : Inv X pins σ H s) : ∀ {p : PyData} {v : V}, DpX X.K H v p → ∀ u, RelV v u → Tel s.heap u p
  | _, _, .non, u, r => by cases r; exact .non
  | _, _, .bl b, u, r => by cases r; exact .bl b
  | _, _, .int i, u, r => by obtain ⟨t, rfl⟩ := r; exact .int i t
  | _, _, .str x, u, r => by obtain ⟨t, rfl⟩ := r; exact .str x t
  | _, _, .lst hs ha, u, r => by
    cases r
    obtain ⟨its, rv, ⟨o, n, ho, hc, _, hd⟩, _⟩ := I.list hs
    exact .lst ho hc hd (DpXA.tel I ha its rv)
  | _, _, .tup hs ha, u, r => by
    cases r
    obtain ⟨its, rv, ⟨o, ho, hc, n, hd⟩, _⟩ := I.tuple hs
    exact .tup ho hc hd (DpXA.tel I ha its rv)
  | _, _, .dic (a := a) (ks := ks) (xs := xs) (ps := ps) hs hl ha, u, r => by
    cases r
    obtain ⟨_, hy, kvs, kv, o, es, ep, ho, hx, hd, _, hp, _⟩ := I.hok a _ hs
    obtain ⟨i1, i2, i3⟩ := tel_keys hl kv hp
    have l := DpXA.len ha
    have e1 : ((ks.map kP).zip ps).map (·.1) = ks.map kP := List.map_fst_zip (by rw [List.length_map]; omega)
    have e2 : ((ks.map kP).zip ps).map (·.2) = ps := List.map_snd_zip (by rw [List.length_map]; omega)
    exact .dic ho hx.1 hd hy (by rw [e1]; exact i1) (by rw [e2, i2]; exact DpXA.tel I ha _ i3)
theorem DpXA.tel (I : Inv X pins σ H s) : ∀ {ps : List PyData} {vs : List V}, DpXA X.K H vs ps → ∀ us, Vals vs us → TelA s.heap us ps
  | _, _, .nil, us, r => by cases r; exact .nil
  | _, _, .cons a b, us, r => by
    cases r with
    | cons r1 r2 => exact .cons (DpX.tel I a _ r1) (DpXA.tel I b _ r2)
end
end
def rReprX (K : PySem.W.Frag) : List V → Hp → VK → Prop := fun xs H Q => ∃ (a : Addr) (p : PyData), xs = [.ref a] ∧ DpX K H (.ref a) p ∧ p.showable = true ∧ p.depth ≤ 60 ∧ p.shown.length ≤ sizeLine ∧ Q (.str p.shown) H
theorem call_reprX {X : Cx} (hg : X.A.guards = some []) (hu : X.A.units + 64 < cLine) : CallR X (.builtin "repr") (rReprX X.K) := by
  intro pins s σ H xs us Q I r ⟨a, p, e, hd, h1, h3, h4, q⟩
  subst e
  obtain ⟨u, rfl, e⟩ := vals1 r
  obtain rfl : u = Value.ref a := e
  exact call_repr_tel (hd.tel I _ rfl) h1 h4 hg (by omega) fun h' u tk hk => ⟨.str p.shown, H, I.kept hk, ⟨u, rfl⟩, q⟩
def rShowX (K : PySem.W.Frag) : List V → Hp → VK → Prop := fun xs H Q => rShowA K xs H Q ∨ rReprX K xs H Q
theorem call_showX {X : Cx} (hg : X.A.guards = some []) (hu : X.A.units + 64 < cLine) : CallR X (.builtin "repr") (rShowX X.K) := by
  intro pins s σ H xs us Q I r h
  rcases h with h | h
  · exact call_showA hg hu pins s σ H xs us Q I r h
  · exact call_reprX hg hu pins s σ H xs us Q I r h
mutual
/-- a value as what repr shows; what may change is none -/
def toPyX : D → Option PyData
  | .non => some .none
  | .bl b => some (.bool b)
  | .int i => some (.int i)
  | .str s => some (.str s)
  | .lst ds => (toPysX ds).map .list
  | .sq ds => (toPysX ds).map .list
  | .tup ds => (toPysX ds).map .tuple
  | .dic ks ds => if ks.length = ds.length then (toPysX ds).map fun ps => .dict ((ks.map kP).zip ps) else none
  | _ => none
def toPysX : List D → Option (List PyData)
  | [] => some []
  | d :: ds => match toPyX d, toPysX ds with
    | some p, some ps => some (p :: ps)
    | _, _ => none
end
/-- of a changing list or dict, too, at the top -/
def toPyY (μ : Mu) : D → Option PyData
  | .ref a => match μ a with
    | some (.lst ds) => (toPysX ds).map .list
    | some (.dic ks ds) => if ks.length = ds.length then (toPysX ds).map fun ps => .dict ((ks.map kP).zip ps) else none
    | _ => none
  | .lst ds => toPyX (.lst ds)
  | .sq ds => toPyX (.sq ds)
  | .tup ds => toPyX (.tup ds)
  | .dic ks ds => toPyX (.dic ks ds)
  | _ => none
section
variable {K : PySem.W.Frag} {T : List (Addr × Str)} {μ : Mu} {H : Hp}
mutual
theorem is_pyX : ∀ {d : D} {v : V} {p : PyData}, Is K μ H v d → toPyX d = some p → DpX K H v p
  | .non, _, _, .non, e => by simp [toPyX] at e; subst e; exact .non
  | .bl b, _, _, .bl _, e => by simp [toPyX] at e; subst e; exact .bl b
  | .int i, _, _, .int _, e => by simp [toPyX] at e; subst e; exact .int i
  | .str s, _, _, .str _, e => by simp [toPyX] at e; subst e; exact .str s
  | .lst ds, _, _, .lst a i, e => by
    simp [toPyX] at e; obtain ⟨ps, h, rfl⟩ := e; exact .lst a.sq (is_pysX i h)
  | .sq ds, _, _, .sq a i, e => by
    simp [toPyX] at e; obtain ⟨ps, h, rfl⟩ := e; exact .lst a.sq (is_pysX i h)
  | .tup ds, _, _, .tup a i, e => by
    simp [toPyX] at e; obtain ⟨ps, h, rfl⟩ := e; exact .tup a.sq (is_pysX i h)
  | .dic ks ds, _, _, .dic m h l i, e => by
    have n := i.len
    simp [toPyX] at e
    obtain ⟨_, ps, h2, rfl⟩ := e
    exact .dic h l (is_pysX i h2)
  | .ref _, _, _, _, e => by simp [toPyX] at e
  | .ty _, _, _, _, e => by simp [toPyX] at e
  | .obj _ _ _, _, _, _, e => by simp [toPyX] at e
  | .exc _ _ _, _, _, _, e => by simp [toPyX] at e
theorem is_pysX : ∀ {ds : List D} {vs : List V} {ps : List PyData}, IsAll K μ H vs ds → toPysX ds = some ps → DpXA K H vs ps
  | [], _, _, .nil, e => by simp [toPysX] at e; subst e; exact .nil
  | d :: ds, _, _, .cons a b, e => by
    unfold toPysX at e
    split at e
    · rename_i p ps h1 h2
      cases e
      exact .cons (is_pyX a h1) (is_pysX b h2)
    · cases e
end
theorem is_pyY (st : Sto K T μ H) {v : V} {d : D} {p : PyData} (h : Is K μ H v d) (e : toPyY μ d = some p) : ∃ a, v = .ref a ∧ DpX K H v p := by
  unfold toPyY at e
  split at e
  · rename_i a
    cases h
    refine ⟨a, rfl, ?_⟩
    split at e
    · rename_i ds q
      obtain ⟨vs, h1, h2⟩ := st.mo _ _ q
      cases hp : toPysX ds with
      | none => rw [hp] at e; cases e
      | some ps => rw [hp] at e; cases e; exact .lst (SqL.of h1) (is_pysX h2 hp)
    · rename_i ks ds q
      obtain ⟨vs, h1, hl, h2⟩ := st.mo _ _ q
      split at e
      · cases hp : toPysX ds with
        | none => rw [hp] at e; cases e
        | some ps => rw [hp] at e; cases e; exact .dic h1 hl (is_pysX h2 hp)
      · cases e
    · cases e
  · have i := is_pyX h e; cases h; exact ⟨_, rfl, i⟩
  · have i := is_pyX h e; cases h; exact ⟨_, rfl, i⟩
  · have i := is_pyX h e; cases h; exact ⟨_, rfl, i⟩
  · have i := is_pyX h e; cases h; exact ⟨_, rfl, i⟩
  · cases e
def vReprX : VL_ := fun xs μ Φ => vRepr xs μ Φ ∨ ∃ x p, xs = [x] ∧ toPyY μ x = some p ∧ ShowOk p ∧ Φ (.str p.shown) μ
theorem s_reprX : SimL K T (rShowX K) vReprX := fun xs vs μ H Φ Q ia st h k => by
  rcases h with h | ⟨x, p, e, hp, ⟨h1, h2, h3⟩, q⟩
  · exact .inl (s_repr xs vs μ H Φ Q ia st h k)
  · subst e
    cases ia with
    | cons ix c =>
      cases c
      obtain ⟨a, rfl, d⟩ := is_pyY st ix hp
      exact .inr ⟨a, p, rfl, d, h1, h2, h3, k.now q (.str _) st⟩
end
end VL

set_option maxRecDepth 100000
set_option maxHeartbeats 4000000
/-! values as trees: a list of pairs sorted, pairs in order, the greater of two, a list turned round -/
namespace FW
open PySem L2 PySem.Spec PyProof.Rows
def rSortedPL (K : PySem.W.Frag) : List V → Hp → VK → Prop := fun vs H Q => ∃ (a : Addr) (xs : List V) (ps : List (Int × Int)), vs = [V.ref a] ∧ SqL K H a xs ∧ xs.length = ps.length ∧ (∀ (i : Nat) x p, xs[i]? = some x → ps[i]? = some p → ∃ t, x = V.ref t ∧ SqT K H t [.int p.1, .int p.2]) ∧
  ∀ (zs : List (V × (Int × Int))) q, zs.Perm (xs.zip ps) → (zs.map (·.2)).Pairwise (fun p q => SrtO.lexB q p = false) → H q = none → Q (.ref q) (upd H q (.lst (zs.map (·.1))))
theorem cr_sortedPL {X : Cx} : CallR X (.builtin "sorted") (rSortedPL X.K) := by
  intro pins s σ H vs us Q I r ⟨a, xs, ps, e, hs, hn, hx, q⟩
  subst e
  obtain ⟨u, rfl, ru⟩ := vals1 r
  obtain rfl : u = Value.ref a := ru
  obtain ⟨its, rv, hl, hz⟩ := I.list hs
  have refs : ∀ x ∈ xs, ∃ t, x = V.ref t := fun x m => by
    obtain ⟨i, hi, rfl⟩ := List.getElem_of_mem m
    obtain ⟨t, e, _⟩ := hx i _ ps[i] (List.getElem?_eq_getElem hi) (List.getElem?_eq_getElem (by omega))
    exact ⟨t, e⟩
  obtain ⟨e1, e2⟩ := refs_back rv refs
  have il : its.length = ps.length := by rw [← hn, rv.length]
  have each : ∀ (i : Nat) v p, its[i]? = some v → ps[i]? = some p → Srt.IsPair s.heap v p.1 p.2 := fun i v p hv hp => by
    have hx1 : xs[i]? = some (backV v) := by rw [e1, List.getElem?_map, hv]; rfl
    obtain ⟨t, e, ht⟩ := hx i _ p hx1 hp
    obtain ⟨t', rfl⟩ := e2 v (List.mem_of_getElem? hv)
    cases e
    obtain ⟨its2, r2, ⟨o, ho, hc, n, hd⟩, _⟩ := I.tuple ht
    obtain ⟨u1, u2, rfl, ri, rj⟩ := vals2 r2
    obtain ⟨t1, rfl⟩ := ri
    obtain ⟨t2, rfl⟩ := rj
    exact ⟨_, o, t1, t2, n, rfl, ho, hc, hd⟩
  have pairs : xs.zip ps = its.map fun v => (backV v, pairAt s.heap v) := by
    refine List.ext_getElem? fun i => ?_
    rw [List.getElem?_map]
    cases hv : its[i]? with
    | none =>
      have hlt : its.length ≤ i := List.getElem?_eq_none_iff.mp hv
      rw [List.getElem?_eq_none (by rw [List.length_zip]; omega)]
      rfl
    | some v =>
      have hlt := (List.getElem?_eq_some_iff.mp hv).1
      have hp : ps[i]? = some ps[i] := List.getElem?_eq_getElem (by omega)
      have hx1 : xs[i]? = some (backV v) := by rw [e1, List.getElem?_map, hv]; rfl
      rw [List.getElem?_zip_eq_some.mpr (show xs[i]? = some (backV v, ps[i]).1 ∧ ps[i]? = some (backV v, ps[i]).2 from ⟨hx1, hp⟩)]
      exact congrArg (fun p => some (backV v, p)) (pairAt_eq (each i v _ hv hp)).symm
  refine SrtO.sorted_pairsO (k := pairAt s.heap) hl.isList (by rw [← rv.length]; exact hz) (fun v hv => ?_) fun h' d out h1 h2 kp hd hn2 => ?_
  · obtain ⟨i, hi, rfl⟩ := List.getElem_of_mem hv
    have := each i its[i] ps[i] (List.getElem?_eq_getElem hi) (List.getElem?_eq_getElem (by omega))
    rw [pairAt_eq this]
    exact this
  · have h3 : ∀ u ∈ out, ∃ a, u = Value.ref a := fun u hu => e2 u (h2.perm.mem_iff.mp hu)
    obtain ⟨n, hn2⟩ := hn2
    have ez : (out.map fun v => (backV v, pairAt s.heap v)).map (·.1) = out.map backV := by rw [List.map_map]; rfl
    have ep : (out.map fun v => (backV v, pairAt s.heap v)).map (·.2) = out.map (pairAt s.heap) := by rw [List.map_map]; rfl
    have done := q (out.map fun v => (backV v, pairAt s.heap v)) d (by rw [pairs]; exact h2.perm.map _) (by rw [ep]; exact List.pairwise_map.mpr h1) (I.hok.fresh hd)
    rw [ez] at done
    exact ⟨.ref d, upd H d (.lst (out.map backV)), I.laid (t' := s.toks) kp hd ⟨by rw [List.length_map, h2.len, ← rv.length]; exact hz, out, n, vals_back h3, hn2⟩, rfl, done⟩
end FW
namespace VL
open PySem L2 FW PyProof.Rows
section
variable {X : Cx} {T : List (Addr × Str)}
def vSortPL : VL_ := fun xs μ Φ => ∃ x, ∃ ps : List (Int × Int), xs = [x] ∧ fzL x = some (ps.map pairD) ∧ ∀ ps' : List (Int × Int), ps'.Perm ps → ps'.Pairwise (fun p q => SrtO.lexB q p = false) → Φ (.lst (ps'.map pairD)) μ
theorem s_sortPL : SimL X.K T (rSortedPL X.K) vSortPL := fun xs vs μ H Φ Q ia st ⟨x, ps, e, hf, q⟩ k => by
  subst e
  cases ia with
  | cons ix c =>
    cases c
    obtain ⟨a, us, rfl, at_, ib⟩ := fzL_is ix hf
    · skip
      have one : ∀ (i : Nat) x p, us[i]? = some x → ps[i]? = some p → ∃ t, x = V.ref t ∧ AtT X.K μ H t [.int p.1, .int p.2] := fun i x p hx hp => by
        obtain ⟨x', e1, e2⟩ := ib.get (i := i) (d := pairD p) (by rw [List.getElem?_map, hp]; rfl)
        rw [hx] at e1
        cases e1
        cases e2 with
        | tup at2 ic =>
          have := ints_of (ns := [p.1, p.2]) ic
          subst this
          exact ⟨_, rfl, at2⟩
      have hl : us.length = ps.length := by rw [ib.len, List.length_map]
      refine ⟨a, us, ps, rfl, at_.sq, hl, fun i x p hx hp => by obtain ⟨t, e, h⟩ := one i x p hx hp; exact ⟨t, e, h.sq⟩, fun zs p pm sd hp => ?_⟩
      have all : ∀ z ∈ zs, ∃ t, z.1 = V.ref t ∧ AtT X.K μ H t [.int z.2.1, .int z.2.2] := fun z hz => by
        obtain ⟨i, hi, e⟩ := List.getElem_of_mem (pm.mem_iff.mp hz)
        have hi2 : i < us.length ∧ i < ps.length := by rw [List.length_zip] at hi; omega
        rw [List.getElem_zip] at e
        rw [← e]
        exact one i _ _ (List.getElem?_eq_getElem hi2.1) (List.getElem?_eq_getElem hi2.2)
      have is : ∀ zs : List (V × (Int × Int)), (∀ z ∈ zs, ∃ t, z.1 = V.ref t ∧ AtT X.K μ H t [.int z.2.1, .int z.2.2]) → IsAll X.K μ H (zs.map (·.1)) ((zs.map (·.2)).map pairD) := fun zs => by
        induction zs with
        | nil => exact fun _ => .nil
        | cons z zs ih =>
          intro h
          obtain ⟨t, e, h1⟩ := h z (List.mem_cons_self ..)
          rw [List.map_cons, List.map_cons, List.map_cons, e]
          exact .cons (.tup h1 (.cons (.int _) (.cons (.int _) .nil))) (ih fun x hx => h x (List.mem_cons_of_mem _ hx))
      have pm2 : (zs.map (·.2)).Perm ps := by
        have := pm.map (·.2)
        rw [List.map_snd_zip (by omega)] at this
        exact this
      exact k.lst (q (zs.map (·.2)) pm2 sd) (is zs all) st p hp
end
section
variable {K : PySem.W.Frag} {T : List (Addr × Str)}
/-! ### pairs in order -/
def leP (p q : Int × Int) : Bool := if p.1 = q.1 then decide (p.2 ≤ q.2) else decide (p.1 ≤ q.1)
theorem lex_two (p q : Int × Int) : Ob.lexAt (fun j => decide (([p.1, p.2] : List Int).getD j 0 = ([q.1, q.2] : List Int).getD j 0)) (fun j => decide (([p.1, p.2] : List Int).getD j 0 ≤ ([q.1, q.2] : List Int).getD j 0)) (decide (([p.1, p.2] : List Int).length ≤ ([q.1, q.2] : List Int).length)) 0 (min ([p.1, p.2] : List Int).length ([q.1, q.2] : List Int).length) = leP p q := by
  unfold leP
  by_cases h1 : p.1 = q.1 <;> by_cases h2 : p.2 = q.2 <;> simp [Ob.lexAt, h1, h2]
def vLeP : V2 := fun x y μ Φ => ∃ p q : Int × Int, x = pairD p ∧ y = pairD q ∧ Φ (.bl (leP p q)) μ
theorem s_leP : Sim2 K T (rLeT K) vLeP := fun x y v u μ H Φ Q ix iy st ⟨p, q, e1, e2, qq⟩ k => by
  subst e1 e2
  cases ix with
  | tup a1 i1 =>
    cases iy with
    | tup a2 i2 =>
      have j1 := ints_of (ns := [p.1, p.2]) i1
      have j2 := ints_of (ns := [q.1, q.2]) i2
      subst j1 j2
      refine ⟨_, _, [p.1, p.2], [q.1, q.2], rfl, rfl, a1.sq, a2.sq, ?_⟩
      rw [lex_two]
      exact k.now qq (.bl _) st
/-! ### max(i, j) -/
def vMax2 : VL_ := fun xs μ Φ => ∃ i j : Int, xs = [.int i, .int j] ∧ Φ (.int (if j > i then j else i)) μ
theorem s_max2 : SimL K T (fun xs H Q => ∃ i j, xs = [V.int i, V.int j] ∧ Q (.int (if j > i then j else i)) H) vMax2 := fun xs vs μ H Φ Q ia st ⟨i, j, e, q⟩ k => by
  subst e
  cases ia with
  | cons a r =>
    cases r with
    | cons b c =>
      cases c
      cases a
      cases b
      exact ⟨i, j, rfl, k.now q (.int _) st⟩
end
/-! ### xs[::-1] -/
def wRevL (w : WE) : WE := fun ρ μ ev Φ => w ρ μ ev fun x μ1 => ∃ ds, (fzL x = some ds ∨ lstOf μ1 x = some ds) ∧ Φ (.lst ds.reverse) μ1
section
variable {X : Cx} {T : List (Addr × Str)} {E : XK}
theorem ve_revL {e : Expr} {w : WE} {k : Nat} {p1 p2 p3 pos : Pos} (he : PE X e (up X.K T E w)) : PE X (.Subscript e (.Slice none none (some (.UnaryOp .USub (.Constant (.int 1) k p1) p2)) p3) pos) (up X.K T E (wRevL w)) :=
  pe_mono (pe_revL he) fun σ H Q ⟨ρ, μ, ev, Φ, en, st, xo, h, k⟩ => ⟨ρ, μ, ev, _, en, st, xo, h, fun x μ1 v H1 ⟨ds, e, q⟩ iv st1 s1 => by
    have k2 : KOk X.K T μ1 H1 Φ Q := fun d μ' v H' q iv st' s' => k d μ' v H' q iv st' (s1.trans s')
    rcases e with e | e
    · obtain ⟨a, vs, rfl, at_, ia⟩ := fzL_is iv e
      exact ⟨a, vs, rfl, at_.sq, fun p hp => k2.lst q ia.rev st1 p hp⟩
    · obtain ⟨a, vs, rfl, h1, ia⟩ := is_lst st1 iv e
      exact ⟨a, vs, rfl, SqL.of h1, fun p hp => k2.lst q ia.rev st1 p hp⟩⟩
end
/-! ### a short text many times -/
def rRepL : R2 := fun x y H Q => ∃ z k, x = .str z ∧ y = .int k ∧ 1 ≤ k ∧ k ≤ 10000 ∧ z.length ≤ 10 ∧ 1 ≤ z.length ∧ (timesS k z).length ≤ 1000000 ∧ Q (.str (timesS k z)) H
theorem op_repL {X : Cx} : OpR X (binaryOp .Mult) rRepL := by
  intro pins s σ H x y v u Q I rx ry ⟨z, k, e1, e2, k1, k2, z1, z2, hl, q⟩
  subst e1 e2
  obtain ⟨t, rfl⟩ := rx
  obtain ⟨t', rfl⟩ := ry
  have c1 : (decide (k < -(2 ^ 63 : Int)) || decide (k ≥ 2 ^ 63)) = false := by
    rw [Bool.or_eq_false_iff, decide_eq_false_iff_not, decide_eq_false_iff_not]; omega
  refine PySem.P.mul_str c1 (fun _ _ hgt => ?_) (fun _ _ => ?_) ?_
  · have hk : (0 : Int) < k := by omega
    have h1 : (2 ^ 63 - 1 : Int) / k ≥ 2 ^ 20 := by
      rw [ge_iff_le, Int.le_ediv_iff_mul_le hk]; omega
    omega
  · have : z.length * k.toNat ≤ 10 * 10000 := Nat.mul_le_mul z1 (by omega)
    exact decide_eq_false (Nat.not_lt.mpr (Nat.le_trans this (by rw [sizeLine_eq]; decide)))
  · rw [if_neg (by omega)]
    unfold timesS at q hl
    by_cases hk : k = 1
    · rw [if_pos hk] at q hl
      rw [if_pos (by simp [hk])]
      exact ⟨.str z, H, I.tok _, ⟨_, rfl⟩, q⟩
    · rw [if_neg hk] at q hl
      rw [if_neg (by simp [hk]; omega)]
      exact ⟨Nat.le_trans hl (by rw [sizeLine_eq]; decide), .str _, H, I.tok _, ⟨_, rfl⟩, q⟩

def vRepL : V2 := fun x y μ Φ => ∃ z k, x = .str z ∧ y = .int k ∧ 1 ≤ k ∧ k ≤ 10000 ∧ z.length ≤ 10 ∧ 1 ≤ z.length ∧ (timesS k z).length ≤ 1000000 ∧ Φ (.str (timesS k z)) μ
theorem s_repL {K : PySem.W.Frag} {T : List (Addr × Str)} : Sim2 K T rRepL vRepL := fun x y v w μ H Φ Q ix iy st ⟨z, k, e1, e2, k1, k2, z1, z2, hl, q⟩ kk => by
  subst e1 e2
  cases ix; cases iy
  exact ⟨z, k, rfl, rfl, k1, k2, z1, z2, hl, kk.now q (.str _) st⟩
end VL

set_option maxRecDepth 100000
set_option maxHeartbeats 4000000
/-! values as trees: what changes no more, with all that stands in it -/
namespace VL
open PySem L2 FW PyProof.Rows
mutual
/-- things at F are seen as they are, for good -/
inductive FzF (μ : Mu) (F : List Addr) : D → D → Prop where
  | same (d : D) : FzF μ F d d
  | lst {a : Addr} {ds es : List D} : μ a = some (.lst ds) → a ∈ F → FzFA μ F ds es → FzF μ F (.ref a) (.lst es)
  | dic {a : Addr} {ks : List Key} {ds es : List D} : μ a = some (.dic ks ds) → a ∈ F → FzFA μ F ds es → FzF μ F (.ref a) (.dic ks es)
  | inL {ds es : List D} : FzFA μ F ds es → FzF μ F (.lst ds) (.lst es)
  | inT {ds es : List D} : FzFA μ F ds es → FzF μ F (.tup ds) (.tup es)
inductive FzFA (μ : Mu) (F : List Addr) : List D → List D → Prop where
  | nil : FzFA μ F [] []
  | cons {d e : D} {ds es : List D} : FzF μ F d e → FzFA μ F ds es → FzFA μ F (d :: ds) (e :: es)
end
theorem FzFA.same {μ : Mu} {F : List Addr} : ∀ ds : List D, FzFA μ F ds ds
  | [] => .nil
  | d :: ds => .cons (.same d) (FzFA.same ds)
section
variable {K : PySem.W.Frag} {T : List (Addr × Str)} {μ : Mu} {H : Hp} {F : List Addr}
theorem dels_none {a : Addr} : ∀ {F : List Addr} {μ : Mu}, μ a = none → (μ.dels F) a = none
  | [], _, h => h
  | b :: F, μ, h => by
    show ((μ.del b).dels F) a = none
    refine dels_none ?_
    unfold Mu.del
    split
    · rfl
    · exact h
theorem dels_in {a : Addr} : ∀ {F : List Addr} {μ : Mu}, a ∈ F → (μ.dels F) a = none
  | b :: F, μ, h => by
    show ((μ.del b).dels F) a = none
    rcases List.mem_cons.mp h with rfl | h
    · exact dels_none Mu.dsame
    · exact dels_in h
theorem dels_ne {a : Addr} : ∀ {F : List Addr} {μ : Mu}, a ∉ F → (μ.dels F) a = μ a
  | [], _, _ => rfl
  | b :: F, μ, h => by
    show ((μ.del b).dels F) a = μ a
    rw [dels_ne fun z => h (List.mem_cons_of_mem _ z)]
    exact Mu.dne fun z => h (z ▸ List.mem_cons_self ..)
theorem FzFA.len : ∀ {ds es : List D}, FzFA μ F ds es → ds.length = es.length
  | _, _, .nil => rfl
  | _, _, .cons _ b => by rw [List.length_cons, List.length_cons, FzFA.len b]
mutual
theorem FzF.is (st : Sto K T μ H) : ∀ {d e : D} {v : V}, FzF μ F d e → Is K μ H v d → Is K (μ.dels F) H v e
  | _, _, _, .same _, i => i.step (step_dels F)
  | _, _, _, .lst (a := a) e m g, i => by
    cases i
    obtain ⟨vs, h, j⟩ := st.mo a _ e
    exact .lst ⟨dels_in m, h⟩ (FzFA.is st g j)
  | _, _, _, .dic (a := a) e m g, i => by
    cases i
    obtain ⟨vs, h, l, j⟩ := st.mo a _ e
    exact .dic (dels_in m) h l (FzFA.is st g j)
  | _, _, _, .inL g, i => by
    cases i with
    | lst a j => exact .lst (a.step (step_dels F)) (FzFA.is st g j)
  | _, _, _, .inT g, i => by
    cases i with
    | tup a j => exact .tup (a.step (step_dels F)) (FzFA.is st g j)
theorem FzFA.is (st : Sto K T μ H) : ∀ {ds es : List D} {vs : List V}, FzFA μ F ds es → IsAll K μ H vs ds → IsAll K (μ.dels F) H vs es
  | _, _, _, .nil, i => by cases i; exact .nil
  | _, _, _, .cons g r, i => by
    cases i with
    | cons a b => exact .cons (FzF.is st g a) (FzFA.is st r b)
end
end
def wFz (w : WE) : WE := fun ρ μ ev Φ => w ρ μ ev fun d μ1 => ∃ F e, FzF μ1 F d e ∧ Φ e (μ1.dels F)
section
variable {X : Cx} {T : List (Addr × Str)} {E : XK}
theorem ve_fz {e : Expr} {w : WE} (he : PE X e (up X.K T E w)) : PE X e (up X.K T E (wFz w)) :=
  pe_mono he fun σ H Q ⟨ρ, μ, ev, Φ, en, st, xo, h, k⟩ => ⟨ρ, μ, ev, _, en, st, xo, h, fun d μ1 v H1 ⟨F, e, g, q⟩ iv st1 s1 => k e _ v H1 q (g.is st1 iv) (st1.dels F) (s1.trans (step_dels F))⟩
end
end VL

set_option maxRecDepth 100000
set_option maxHeartbeats 4000000
/-! values as trees: a list turned round, or () -/
namespace HT
open PySem PySem.Spec PyProof.Rows L2
section
variable {prog : Program} {w : World} {A : Around} {E : Value → Shared → Prop} {s : Shared}
theorem back0 {sl : Addr} {vl vu vs : Value} {Q : Int × Int × Nat → Shared → Prop} (hs : s.heap.IsSliceOf sl vl vu vs) (pl : IsPart vl none) (pu : IsPart vu none) (ps : IsPart vs (some (-1)))
    (h : Q (-1, -1, 0) s) : wpAny (model prog w) A (Builtin.Slice.sliceApplied (.ref sl) (pure ((0 : Nat) : Int))) Q E s := by
  obtain ⟨os, hos, hcs, hds⟩ := id hs
  unfold Builtin.Slice.sliceApplied Builtin.Slice.sliceFields
  refine wpAny_bind (wpAny_bind (wpAny_field hos hds (x := vl) rfl (wpAny_bind (wpAny_field hos hds (x := vu) rfl (wpAny_bind (wpAny_field hos hds (x := vs) rfl (wpAny_pure ?_)))))))
  refine wpAny_bind (slicePart_ ps ?_)
  show wpAny _ _ (if ((-1 : Int) == 0) = true then _ else _) _ _ s
  rw [if_neg (by decide)]
  refine wpAny_bind (slicePart_ pl (wpAny_bind (slicePart_ pu (wpAny_bind (wpAny_pure ?_)))))
  exact wpAny_pure h
theorem item_back0 {t sl : Addr} {vl vu vs : Value} {Q : Value → Shared → Prop} (ht : IsTup s.heap t #[]) (hs : s.heap.IsSliceOf sl vl vu vs) (pl : IsPart vl none) (pu : IsPart vu none) (ps : IsPart vs (some (-1)))
    (h : Q (.ref s.heap.objs.size) { s with heap := s.heap.push { cls := .type "tuple", data := .seq #[] } }) : wpAny (model prog w) A (getItem (.ref t) (.ref sl)) Q E s := by
  obtain ⟨os, hos, hcs, hds⟩ := id hs
  have hTs : s.TypeIs (.ref sl) "slice" := ⟨os, hos, hcs⟩
  have hz : sizeOk (.seq (#[] : Array Value)) := by show 0 ≤ sizeLine; exact Nat.zero_le _
  unfold getItem
  try with_reducible refine wpAny_holding ?_
  first | refine wpAny_bind (wpAny_pure ?_) | skip
  refine wpAny_bind (wpAny_sequenceKey ht.typeIs (by decide) ?_)
  refine wpAny_bind (wpAny_callSpecial?_slot (name := Str.ofString "__getitem__") ht.typeIs PyProof.Rows.slot_tuple_getitem
    (wpAny_call_entry PyProof.Rows.slot_tuple_getitem ht.typeIs entry_tuple_getitem ?_ (args_tuple_getitem _ _)))
  show wpAny _ _ (Builtin.Tuple.tupleItemsOf (.ref t) >>= _) _ _ s
  refine wpAny_bind (tupleItemsOf_ ht ?_)
  refine wpAny_bind (wpAny_typeOf hTs ?_)
  rw [if_pos (by decide)]
  refine wpAny_bind (back0 hs pl pu ps ?_)
  show wpAny _ _ (if ((-1 : Int) == 0 && (-1 : Int) == 1 && (0 : Nat) == (#[] : Array Value).size) = true then _ else _) _ _ s
  rw [if_neg (by decide)]
  first
    | exact wpAny_bind (m := Builtin.Tuple.tupleExact _) (wpAny_newObj_type (wpAny_pure ⟨_, rfl, wpAny_pure h⟩) hz)
    | exact wpAny_bind (m := Builtin.Tuple.tupleExact _) (wpAny_newObj_type (wpAny_bind (wpAny_pure (wpAny_pure ⟨_, rfl, wpAny_pure h⟩))) hz)
    | exact wpAny_bind (wpAny_bind (m := Builtin.Tuple.tupleExact _) (wpAny_newObj_type (wpAny_pure (wpAny_pure ⟨_, rfl, wpAny_pure h⟩)) hz))
    | exact wpAny_bind (wpAny_bind (m := Builtin.Tuple.tupleExact _) (wpAny_newObj_type (wpAny_pure ⟨_, rfl, wpAny_pure h⟩) hz))
end
end HT
namespace VL
open PySem PySem.Spec L2 FW PyProof.Rows
def tRevA (K : PySem.W.Frag) (te : TE) : TE := fun σ H Q => te σ H fun x H1 => (∃ a xs, x = .ref a ∧ SqL K H1 a xs ∧ ∀ p, H1 p = none → Q (.ref p) (upd H1 p (.lst xs.reverse))) ∨ ∃ a, x = .ref a ∧ SqT K H1 a [] ∧ ∀ p, H1 p = none → Q (.ref p) (upd H1 p (.tup []))
section
variable {X : Cx} {T : List (Addr × Str)} {E : XK}
theorem pe_revA {e : Expr} {te : TE} {k : Nat} {p1 p2 p3 pos : Pos} (he : PE X e te) : PE X (.Subscript e (.Slice none none (some (.UnaryOp .USub (.Constant (.int 1) k p1) p2)) p3) pos) (tRevA X.K te) := by
  refine ⟨fun pins s σ H Q I h => ?_⟩
  refine Subscript_ (thn (he.run pins s σ H _ I h) fun v s1 ⟨x, H1, I1, r1, q1⟩ => ?_)
  obtain ⟨a, ex⟩ : ∃ a, x = .ref a := by
    rcases q1 with ⟨a, _, e, _⟩ | ⟨a, e, _⟩ <;> exact ⟨a, e⟩
  subst ex
  cases r1
  have hst : PO X (some (.UnaryOp .USub (.Constant (.int 1) k p1) p2)) (tPart (tUn (rU fun i => .int (-i)) (tC (.int 1)))) := po_some (pe_un un_neg pe_int)
  refine wpAny_Slice (thn (po_none.run pins s1 σ H1 (fun o H2 => o = none ∧ H2 = H1) I1 ⟨rfl, rfl⟩) fun vl s2 ⟨l, H2, I2, pl, el, e2⟩ => ?_)
  subst el e2
  refine thn (po_none.run pins s2 σ H2 (fun o H3 => o = none ∧ H3 = H2) I2 ⟨rfl, rfl⟩) fun vu s3 ⟨u, H3, I3, pu, eu, e3⟩ => ?_
  subst eu e3
  refine thn (hst.run pins s3 σ H3 (fun o H4 => o = some (-1) ∧ H4 = H3) I3 ⟨1, rfl, -1, rfl, rfl, rfl⟩) fun vs s4 ⟨o, H4, I4, ps, eo, e4⟩ => ?_
  subst eo e4
  have I5 : Inv X pins σ H4 { s4 with heap := s4.heap.push { cls := .type "slice", data := .fields #[vl, vu, vs] } } := I4.kept (t' := s4.toks) fun b ob q => Heap.get?_push_of_some _ q
  show wpAny (model X.prog X.w) X.A (subscriptTail e (.Slice none none (some (.UnaryOp .USub (.Constant (.int 1) k p1) p2)) p3) (.ref a) (.ref s4.heap.objs.size)) (EP X pins σ Q) X.xe { s4 with heap := s4.heap.push { cls := .type "slice", data := .fields #[vl, vu, vs] } }
  rcases q1 with ⟨a', xs, ex, hx, q⟩ | ⟨a', ex, hx, q⟩
  · cases ex
    obtain ⟨its, r, ht, hz⟩ := I5.list hx
    have hlen := r.length
    refine tail_any (ops := [.ref a, .ref s4.heap.objs.size]) ht.isList.typeIs (PySem.slot_list_getitem.lookup) ?_ (by with_unfolding_all rfl)
    refine wpAny_getItem_list_slice ht.isList (Heap.IsSliceOf.new _ vl vu vs) pl pu ps (by decide) ?_ (by rw [List.size_toArray]; omega)
    rw [PySem.W.krv_pick]
    refine ⟨.ref _, _, I5.laid (t' := s4.toks) (o := .lst xs.reverse) (fun b ob q => Heap.get?_push_of_some _ q) (Nat.le_refl _) ?_, rfl, q _ (I5.hok.fresh (Nat.le_refl _))⟩
    exact ⟨by rw [List.length_reverse]; exact hz, _, 0, r.reverse, Heap.get?_push_size _ rfl⟩
  · cases ex
    obtain ⟨its, r, ht, hz⟩ := I5.tuple hx
    cases r
    refine tail_any (ops := [.ref a, .ref s4.heap.objs.size]) ht.typeIs (PyProof.Rows.slot_tuple_getitem.lookup) ?_ (by with_unfolding_all rfl)
    refine HT.item_back0 ht (Heap.IsSliceOf.new _ vl vu vs) pl pu ps ?_
    refine ⟨.ref _, _, I5.laid (t' := s4.toks) (o := .tup []) (fun b ob q => Heap.get?_push_of_some _ q) (Nat.le_refl _) ?_, rfl, q _ (I5.hok.fresh (Nat.le_refl _))⟩
    exact ⟨hz, [], .nil, _, Heap.get?_push_size _ rfl, rfl, 0, rfl⟩
def wRevA (w : WE) : WE := fun ρ μ ev Φ => w ρ μ ev fun x μ1 => (∃ ds, (fzL x = some ds ∨ lstOf μ1 x = some ds) ∧ Φ (.lst ds.reverse) μ1) ∨ (x = .tup [] ∧ Φ (.tup []) μ1)
theorem ve_revA {e : Expr} {w : WE} {k : Nat} {p1 p2 p3 pos : Pos} (he : PE X e (up X.K T E w)) : PE X (.Subscript e (.Slice none none (some (.UnaryOp .USub (.Constant (.int 1) k p1) p2)) p3) pos) (up X.K T E (wRevA w)) :=
  pe_mono (pe_revA he) fun σ H Q ⟨ρ, μ, ev, Φ, en, st, xo, h, k⟩ => ⟨ρ, μ, ev, _, en, st, xo, h, fun x μ1 v H1 q iv st1 s1 => by
    have k2 : KOk X.K T μ1 H1 Φ Q := fun d μ' v H' q iv st' s' => k d μ' v H' q iv st' (s1.trans s')
    rcases q with ⟨ds, e | e, q⟩ | ⟨rfl, q⟩
    · obtain ⟨a, vs, rfl, at_, ia⟩ := fzL_is iv e
      exact .inl ⟨a, vs, rfl, at_.sq, fun p hp => k2.lst q ia.rev st1 p hp⟩
    · obtain ⟨a, vs, rfl, h1, ia⟩ := is_lst st1 iv e
      exact .inl ⟨a, vs, rfl, SqL.of h1, fun p hp => k2.lst q ia.rev st1 p hp⟩
    · cases iv with
      | tup at_ i =>
        cases i
        exact .inr ⟨_, rfl, at_.sq, fun p hp => k2.tup q .nil st1 p hp⟩⟩
end
end VL
/-! ### repr of any tree -/
namespace VL
open PySem PySem.Spec L2 FW PyProof.Rows
def rShowZ (K : PySem.W.Frag) : List V → Hp → VK → Prop := fun xs H Q => rShowX K xs H Q ∨ ∃ s, xs = [.str s] ∧ (reprText s).length ≤ sizeLine ∧ Q (.str (reprText s)) H
theorem call_showZ {X : Cx} (hg : X.A.guards = some []) (hu : X.A.units + 64 < cLine) : CallR X (.builtin "repr") (rShowZ X.K) := by
  intro pins s σ H xs us Q I r h
  rcases h with h | ⟨z, rfl, hz, q⟩
  · exact call_showX hg hu pins s σ H xs us Q I r h
  · obtain ⟨u, rfl, t, rfl⟩ := vals1 r
    exact PySem.P.repr_of_str ⟨.str _, H, I.tok _, ⟨_, rfl⟩, q⟩ hz
def vReprZ : VL_ := fun xs μ Φ => ∃ x p, xs = [x] ∧ (toPyX x = some p ∨ toPyY μ x = some p) ∧ ShowOk p ∧ Φ (.str p.shown) μ
theorem s_reprZ {K : PySem.W.Frag} {T : List (Addr × Str)} : SimL K T (rShowZ K) vReprZ := fun xs vs μ H Φ Q ia st ⟨x, p, e, hp, ⟨h1, h2, h3⟩, q⟩ k => by
  subst e
  have viaY : toPyY μ x = some p → rShowZ K vs H Q := fun e => .inl (s_reprX [x] vs μ H Φ Q ia st (.inr ⟨x, p, rfl, e, ⟨h1, h2, h3⟩, q⟩) k)
  rcases hp with hp | hp
  · cases x with
    | non =>
      cases hp
      exact .inl (s_reprX [.non] vs μ H Φ Q ia st (.inl ⟨.non, _, rfl, fun s => nofun, rfl, ⟨h1, h2, h3⟩, q⟩) k)
    | bl b =>
      cases hp
      exact .inl (s_reprX [.bl b] vs μ H Φ Q ia st (.inl ⟨.bl b, _, rfl, fun s => nofun, rfl, ⟨h1, h2, h3⟩, q⟩) k)
    | int i =>
      cases hp
      exact .inl (s_reprX [.int i] vs μ H Φ Q ia st (.inl ⟨.int i, _, rfl, fun s => nofun, rfl, ⟨h1, h2, h3⟩, q⟩) k)
    | str z =>
      cases hp
      cases ia with
      | cons ix c =>
        cases c
        cases ix
        exact .inr ⟨z, rfl, h3, k.now q (.str _) st⟩
    | lst ds => exact viaY hp
    | sq ds => exact viaY hp
    | tup ds => exact viaY hp
    | dic ks ds => exact viaY hp
    | ty n => simp [toPyX] at hp
    | ref a => simp [toPyX] at hp
    | obj C ns ds => simp [toPyX] at hp
    | exc C ns ds => simp [toPyX] at hp
  · exact viaY hp
end VL

set_option maxRecDepth 100000
set_option maxHeartbeats 4000000
/-! values as trees: isinstance(x, str) where x may be of an own class -/
namespace VL
open PySem L2 FW PyProof.Rows
section
variable {K : PySem.W.Frag} {T : List (Addr × Str)} {μ : Mu} {Φ : WK} {x : D}
def vIsiK (K : PySem.W.Frag) : VL_ := fun xs μ Φ => ∃ x n t b, xs = [x, .ty n] ∧ tyO K μ x t ∧ PySem.W.kitOne K t (.type n) = some b ∧ Φ (.bl b) μ
theorem s_isiK : SimL K T (rIsi K) (vIsiK K) := fun xs vs μ H Φ Q ia st ⟨x, n, t, b, e, ht, kb, q⟩ k => by
  subst e
  cases ia with
  | cons ix c => cases c with
    | cons iy c =>
      cases iy; cases c
      exact ⟨_, _, _, _, b, rfl, .ty n, tyO_is st ix ht, kb, k.now q (.bl b) st⟩
/-- what may be asked whether it is a text -/
def KdS (K : PySem.W.Frag) (μ : Mu) (x : D) : Prop := Kd μ x ∨ ∃ C ns fs, insOf μ x = some (C, ns, fs) ∧ InsC K C ∧ PySem.W.kitOne K (.ref C) (.type "str") = some false
theorem l_isiN (h : KdS K μ x) (hn : ∀ t, x ≠ .str t) (q : Φ (.bl false) μ) : vIsiK K [x, .ty "str"] μ Φ := by
  rcases h with ⟨t, ht⟩ | ⟨C, ns, fs, e, i, h⟩
  · refine ⟨x, "str", .type t, false, rfl, .inl ⟨t, ht, rfl⟩, ?_, q⟩
    have ns : t ≠ "str" := fun e => by
      subst e
      cases x <;> simp [tyD] at ht <;> first | exact hn _ rfl | skip
      split at ht <;> simp at ht
    rcases ty_mem ht with rfl | rfl | rfl | rfl | rfl | rfl | rfl <;> first | exact absurd rfl ns | exact kit_ty (by decide +kernel)
  · exact ⟨x, "str", .ref C, false, rfl, .inr ⟨C, ns, fs, e, i, rfl⟩, h, q⟩
theorem l_isiY {t : Str} (q : Φ (.bl true) μ) : vIsiK K [.str t, .ty "str"] μ Φ := ⟨.str t, "str", .type "str", true, rfl, .inl ⟨"str", rfl, rfl⟩, kit_ty (by decide +kernel), q⟩
theorem KdS.set {c : Addr} {m : MO} (h : KdS K μ x) (c0 : μ c = none) : KdS K (μ.set c m) x := by
  rcases h with h | ⟨C, ns, fs, e, i, k⟩
  · left
    unfold Kd
    rw [tyD_same (Kd.set_same h c0)]
    exact h
  · refine .inr ⟨C, ns, fs, ?_, i, k⟩
    cases x with
    | obj => exact e
    | ref a =>
      have := insOf_ref e
      exact insOf_of (by rw [Mu.ne (fun z => by rw [z, c0] at this; cases this)]; exact this)
    | _ => cases e
end
end VL

set_option maxRecDepth 100000
set_option maxHeartbeats 4000000
/-! values as trees: None or a text in a dict of the module; str of a text or a number -/
namespace VL
open PySem PySem.Spec L2 FW PyProof.Rows
theorem none_str {P : Program} {w : World} {h : Heap} {a : Addr} {f : Str → Option Value} (d : h.MapOf (PySem.strKind P w) a f) : ∃ g, h.MapOf (noneKind P w) a g ∧ g none = none := by
  obtain ⟨o, es, ep, ho, hx, hdt, hk, hf⟩ := d
  refine ⟨fun k => findBy (noneKind P w).is es k, ⟨o, es, ep, ho, hx, hdt, fun e he => ?_, fun k => rfl⟩, ?_⟩
  · obtain ⟨k, h1, h2⟩ := hk e he
    exact ⟨some (.inr k), h1, h2⟩
  · have q : (es.find? fun e => nkIs none e.key) = none := by
      rw [Array.find?_eq_none]
      intro e he hq
      obtain ⟨k, h1, _⟩ := hk e he
      have e1 : keyIs (.inr k) e.key = true := h1
      rw [nk_none hq] at e1
      exact keyIs_none _ e1
    show (es.find? fun e => nkIs none e.key).map (·.val) = none
    rw [q] <;> rfl
section
variable {X : Cx} {T : List (Addr × Str)} {ps : List (Str × V × D)} {d : Addr} {K : PySem.W.Frag}
def rInKN (ps : List (Str × V × D)) (d : Addr) (neg : Bool) : R2 := fun x y H Q => rInK ps d neg x y H Q ∨ (x = .non ∧ y = .ref d ∧ Q (.bl neg) H)
def vInKN (ps : List (Str × V × D)) (d : Addr) (neg : Bool) : V2 := fun x y μ Φ => vInK ps d neg x y μ Φ ∨ (x = .non ∧ y = .ref d ∧ Φ (.bl neg) μ)
theorem op_inKN (M : KMap X.K X.w d ps) : OpR X (compareOp .In) (rInKN ps d false) := by
  obtain ⟨es, n, D⟩ := M.kd
  intro pins s σ H x y v u Q I rx ry h
  rcases h with h | ⟨rfl, rfl, q⟩
  · exact op_inK M pins s σ H x y v u Q I rx ry h
  · cases rx
    cases ry
    obtain ⟨g, hm, hg⟩ := none_str (PySem.W.mapOf_K (prog := X.prog) (w := X.w) I.kIn D.at_ D.lit)
    refine wpAny_in_of (show (noneKind X.prog X.w).is none .none = true from rfl) D.low hm ?_
    rw [hg]
    exact ⟨.bl false, H, I.tok _, rfl, q⟩
theorem op_notInKN (M : KMap X.K X.w d ps) : OpR X (compareOp .NotIn) (rInKN ps d true) := by
  obtain ⟨es, n, D⟩ := M.kd
  intro pins s σ H x y v u Q I rx ry h
  rcases h with h | ⟨rfl, rfl, q⟩
  · exact op_notInK M pins s σ H x y v u Q I rx ry h
  · cases rx
    cases ry
    obtain ⟨g, hm, hg⟩ := none_str (PySem.W.mapOf_K (prog := X.prog) (w := X.w) I.kIn D.at_ D.lit)
    refine wpAny_notIn_of (show (noneKind X.prog X.w).is none .none = true from rfl) D.low hm ?_
    rw [hg]
    exact ⟨.bl true, H, I.tok _, rfl, q⟩
theorem s_inKN {neg : Bool} : Sim2 K T (rInKN ps d neg) (vInKN ps d neg) := fun x y v w μ H Φ Q ix iy st h k => by
  rcases h with h | ⟨rfl, rfl, h⟩
  · exact .inl (s_inK x y v w μ H Φ Q ix iy st h k)
  · cases ix; cases iy
    exact .inr ⟨rfl, rfl, k.now h (.bl _) st⟩
def rStrB : List V → Hp → VK → Prop := fun xs H Q => (∃ i : Int, xs = [V.int i] ∧ i.natAbs.log2 < 1920 ∧ Q (.str (toString i)) H) ∨ ∃ a, xs = [.str a] ∧ Q (.str a) H
theorem call_strB : CallR X (.type "str") rStrB := by
  intro pins s σ H xs vs Q I r h
  rcases h with h | h
  · exact call_str_int pins s σ H xs vs Q I r h
  · exact SkE.call_str_str pins s σ H xs vs Q I r h
def vStrB : VL_ := fun xs μ Φ => (∃ i : Int, xs = [.int i] ∧ i.natAbs.log2 < 1920 ∧ Φ (.str (toString i)) μ) ∨ ∃ a, xs = [.str a] ∧ Φ (.str a) μ
theorem s_strB : SimL K T rStrB vStrB := fun xs vs μ H Φ Q ia st h k => by
  rcases h with h | ⟨a, rfl, q⟩
  · exact .inl (s_strI xs vs μ H Φ Q ia st h k)
  · cases ia with
    | cons i c => cases i; cases c; exact .inr ⟨a, rfl, k.now q (.str a) st⟩
end
end VL

set_option maxRecDepth 100000
set_option maxHeartbeats 4000000
/-! values as trees: numbers and the texts that write them -/
namespace VL
open PySem L2 FW NumText PySem.W.KIN PyProof.Rows
def numS (n : Int) : Str := Str.ofString (toString n)
def digL (m : Nat) : List Nat := (Nat.toDigits 10 m).map Char.toNat
theorem digL_all (m : Nat) : AllDigits (digL m) := fun c hc => by
  obtain ⟨ch, hch, e⟩ := List.mem_map.mp hc
  rw [← e]
  exact digit_range (Nat.isDigit_of_mem_toDigits (by decide) (by decide) hch)
theorem digL_ne (m : Nat) : digL m ≠ [] := fun e => by
  have h := toDigits_len_ge 10 m
  rw [List.map_eq_nil_iff.mp e] at h
  exact absurd h (by decide)
theorem digL_val (m : Nat) : digitsVal (digL m) = m := val_back m
theorem digL_head (m : Nat) (h : 0 < m) : ∃ c r, digL m = c :: r ∧ 49 ≤ c := by
  cases e : digL m with
  | nil => exact absurd e (digL_ne m)
  | cons c r =>
    have a := digL_all m
    rw [e] at a
    have hc := a.head
    by_cases h48 : c = 48
    · exfalso
      subst h48
      have t := toDigits_all (digL m) (digL_all m)
      rw [digL_val, e, List.dropWhile_cons, if_pos (by rfl)] at t
      have l : (Nat.toDigits 10 m).length = (digL m).length := by unfold digL; rw [List.length_map]
      rw [e] at l
      have d := (List.dropWhile_suffix (· == 48) : (r.dropWhile (· == 48)) <:+ r).length_le
      cases hr : r.dropWhile (· == 48) with
      | nil =>
        rw [hr] at t
        rw [t] at l
        have r0 : r = [] := by
          cases r with
          | nil => rfl
          | cons _ _ => simp at l
        subst r0
        have v := digL_val m
        rw [e] at v
        have : digitsVal [48] = 0 := by decide
        omega
      | cons x y =>
        rw [hr] at t d
        rw [t] at l
        simp at l d
        omega
    · exact ⟨c, r, rfl, by omega⟩
theorem numS_nat (m : Nat) : (numS m).cps.toList = digL m := signs_num m
theorem numS_neg (m : Nat) (h : 0 < m) : (numS (-(m : Int))).cps.toList = 45 :: digL m := by
  obtain ⟨k, rfl⟩ : ∃ k, m = k + 1 := ⟨m - 1, by omega⟩
  unfold numS
  rw [signs_ofString]
  have e : (toString (-((k + 1 : Nat) : Int)) : String) = "-" ++ Nat.repr (k + 1) := rfl
  rw [e, String.toList_append, List.map_append, Nat.toList_repr]
  rfl
theorem str_len (t : Str) : t.cps.toList.length = t.length := Array.length_toList
theorem digL_len {m : Nat} (h : m < 10 ^ 10) : (digL m).length ≤ 10 := by
  have := PySem.W.KT.len_num (n := (m : Int)) (by omega) (by exact_mod_cast h)
  rw [← str_len] at this
  rw [← numS_nat]
  exact this
theorem num_cases (n : Int) : (∃ m : Nat, n = m) ∨ ∃ m : Nat, 0 < m ∧ n = -(m : Int) := by
  by_cases h : 0 ≤ n
  · exact .inl ⟨n.toNat, by omega⟩
  · exact .inr ⟨(-n).toNat, by omega, by omega⟩
theorem numS_len {n : Int} (h : n.natAbs < 10 ^ 10) : (numS n).length ≤ 11 ∧ 1 ≤ (numS n).length := by
  rw [← str_len]
  rcases num_cases n with ⟨m, rfl⟩ | ⟨m, m0, rfl⟩
  · rw [numS_nat]
    have := digL_len (m := m) (by omega)
    have := List.length_pos_iff.mpr (digL_ne m)
    omega
  · rw [numS_neg m m0]
    have := digL_len (m := m) (by omega)
    simp only [List.length_cons]
    omega
theorem numS_reads {n : Int} (h : n.natAbs < 10 ^ 10) : PySem.intText? (numS n) = some n := by
  have l := numS_len h
  rcases num_cases n with ⟨m, rfl⟩ | ⟨m, m0, rfl⟩
  · rw [intText_digits (by rw [numS_nat]; exact digL_all m) (by rw [numS_nat]; exact digL_ne m) (by omega), numS_nat, digL_val]
  · rw [intText_neg (numS_neg m m0) (digL_all m) (digL_ne m) (by omega), digL_val]
theorem numS_inj {m n : Int} (hm : m.natAbs < 10 ^ 10) (hn : n.natAbs < 10 ^ 10) (e : numS m = numS n) : m = n := by
  have a := numS_reads hm
  rw [e, numS_reads hn] at a
  exact (Option.some.inj a).symm
theorem sub_dash (t : Str) : (decide (0 + ("-" : Str).length ≤ t.length) && Builtin.Str.subAt t "-" 0) = decide (t.cps.toList.take 1 = [45]) := by
  have one : ("-" : Str).length = 1 := by decide +kernel
  have sg : ("-" : Str).cps.toList = [45] := by decide +kernel
  rw [one]
  have tl := str_len t
  by_cases h : t.cps.toList.take 1 = [45]
  · rw [decide_eq_true h]
    have l1 : 1 ≤ t.length := by
      rw [← tl]
      cases e : t.cps.toList with
      | nil => rw [e] at h; simp at h
      | cons _ _ => simp
    rw [decide_eq_true (show 0 + 1 ≤ t.length by omega), Bool.true_and]
    unfold Builtin.Str.subAt
    rw [beq_iff_eq]
    apply Array.toList_inj.mp
    rw [one, Array.toList_extract, sg]
    simpa using h
  · rw [decide_eq_false h, Bool.and_eq_false_iff]
    right
    unfold Builtin.Str.subAt
    rw [Bool.eq_false_iff]
    intro hs
    have hs := eq_of_beq hs
    have e := congrArg Array.toList hs
    rw [sg, one, Array.toList_extract] at e
    exact h (by simpa using e)
/-- the figures of a text: behind one dash -/
def figL (t : Str) : List Nat := if t.cps.toList.take 1 = [45] then t.cps.toList.drop 1 else t.cps.toList
theorem rp_fig (t : Str) : (Txt.removeprefix t "-").cps.toList = figL t := by
  have one : ("-" : Str).length = 1 := by decide +kernel
  have tl := str_len t
  rw [StrLaws.removeprefix_eq, sub_dash]
  unfold figL
  by_cases h : t.cps.toList.take 1 = [45]
  · rw [decide_eq_true h, if_pos rfl, if_pos h, one]
    show List.take _ _ = _
    exact List.take_of_length_le (by rw [List.length_drop]; omega)
  · rw [decide_eq_false h, if_neg (by decide), if_neg h]
theorem fig_num {n : Int} : figL (numS n) = digL n.natAbs := by
  unfold figL
  rcases num_cases n with ⟨m, rfl⟩ | ⟨m, m0, rfl⟩
  · rw [numS_nat, Int.natAbs_natCast]
    rw [if_neg]
    intro e
    cases q : digL m with
    | nil => exact digL_ne m q
    | cons c r =>
      rw [q] at e
      have a := digL_all m
      rw [q] at a
      have := a.head
      simp at e
      omega
  · rw [numS_neg m m0, Int.natAbs_neg, Int.natAbs_natCast]
    rfl
theorem asc_of {z : Str} (h : AllDigits z.cps.toList) (ne : z.cps.toList ≠ []) : Txt.isascii z = true ∧ Txt.isdigit z = true := by
  have tab : ∀ c < 58, 48 ≤ c → Unicode.isDigit c = true := by decide +kernel
  refine ⟨?_, ?_⟩
  · unfold Txt.isascii
    rw [Array.all_eq_true_iff_forall_mem]
    intro c hc
    have := h c (Array.mem_toList_iff.mpr hc)
    simp
    omega
  · unfold Txt.isdigit
    rw [Bool.and_eq_true, decide_eq_true_eq]
    refine ⟨by rw [← str_len]; exact List.length_pos_iff.mpr ne, ?_⟩
    rw [Array.all_eq_true_iff_forall_mem]
    intro c hc
    have := h c (Array.mem_toList_iff.mpr hc)
    exact tab c (by omega) this.1
theorem dig_of {z : Str} (h1 : Txt.isascii z = true) (h2 : Txt.isdigit z = true) : AllDigits z.cps.toList ∧ z.cps.toList ≠ [] := by
  unfold Txt.isascii at h1
  unfold Txt.isdigit at h2
  rw [Bool.and_eq_true, decide_eq_true_eq] at h2
  obtain ⟨hl, h2⟩ := h2
  have tab : ∀ c < 128, Unicode.isDigit c = true → 48 ≤ c ∧ c ≤ 57 := by decide +kernel
  refine ⟨fun c hc => ?_, fun e => ?_⟩
  · rw [Array.all_eq_true_iff_forall_mem] at h1 h2
    have m : c ∈ z.cps := Array.mem_toList_iff.mp hc
    exact tab c (by simpa using h1 c m) (h2 c m)
  · have := str_len z
    rw [e] at this
    simp at this
    omega
theorem val_lt : ∀ (cs : List Nat) (acc : Nat), AllDigits cs → cs.foldl (fun acc c => acc * 10 + (c - 48)) acc < (acc + 1) * 10 ^ cs.length
  | [], acc, _ => by simp
  | c :: cs, acc, h => by
    have := val_lt cs (acc * 10 + (c - 48)) h.tail
    have hc := h.head
    rw [List.foldl_cons, List.length_cons, Nat.pow_succ]
    refine Nat.lt_of_lt_of_le this ?_
    have : acc * 10 + (c - 48) + 1 ≤ (acc + 1) * 10 := by omega
    calc (acc * 10 + (c - 48) + 1) * 10 ^ cs.length ≤ ((acc + 1) * 10) * 10 ^ cs.length := Nat.mul_le_mul_right _ this
      _ = (acc + 1) * (10 ^ cs.length * 10) := by rw [Nat.mul_assoc, Nat.mul_comm 10]
theorem val_le {cs : List Nat} (h : AllDigits cs) (l : cs.length ≤ 10) : digitsVal cs < 10 ^ 10 := by
  have := val_lt cs 0 h
  unfold digitsVal
  refine Nat.lt_of_lt_of_le this ?_
  rw [Nat.zero_add, Nat.one_mul]
  exact Nat.pow_le_pow_right (by decide) l
/-- what a text of figures writes, with or without a dash -/
theorem fig_text {t : Str} (h : AllDigits (figL t)) (ne : figL t ≠ []) (l : (figL t).length ≤ 4000) : ∃ n : Int, PySem.intText? t = some n ∧ n.natAbs = digitsVal (figL t) := by
  have tl := str_len t
  unfold figL at h ne l ⊢
  by_cases hd : t.cps.toList.take 1 = [45]
  · rw [if_pos hd] at h ne l ⊢
    have ec : t.cps.toList = 45 :: t.cps.toList.drop 1 := by
      conv => lhs; rw [← List.take_append_drop 1 t.cps.toList, hd]
      rfl
    have lt : t.length ≤ 4001 := by rw [List.length_drop] at l; omega
    exact ⟨_, intText_neg ec h ne (by omega), by rw [Int.natAbs_neg, Int.natAbs_natCast]⟩
  · rw [if_neg hd] at h ne l ⊢
    exact ⟨_, intText_digits h ne (by omega), by rw [Int.natAbs_natCast]⟩
/-- canonical: no figure 0 ahead, but "0" alone -/
theorem fig_back {t : Str} {n : Int} (h : AllDigits (figL t)) (ne : figL t ≠ []) (l : (figL t).length ≤ 4000) (e : PySem.intText? t = some n) (c0 : (figL t).head? ≠ some 48 ∨ t = "0") : numS n = t := by
  rcases c0 with c0 | rfl
  · have tl := str_len t
    obtain ⟨c, r, ef⟩ : ∃ c r, figL t = c :: r := by
      cases q : figL t with
      | nil => exact absurd q ne
      | cons c r => exact ⟨c, r, rfl⟩
    have hc : 49 ≤ c := by
      have := h
      rw [ef] at this c0
      have := this.head
      simp at c0
      omega
    have td := toDigits_digitsVal r.length (figL t) (by rw [ef]; rfl) h (.inr ⟨c, r, ef, hc⟩)
    have dl : digL (digitsVal (figL t)) = figL t := by
      unfold digL
      rw [td, List.map_map]
      have : ∀ x ∈ figL t, (Char.toNat ∘ Char.ofNat) x = x := fun x hx => by
        have := h x hx
        have tab : ∀ x < 58, (Char.ofNat x).toNat = x := by decide
        exact tab x (by omega)
      rw [List.map_congr_left this, List.map_id']
    have pos : 0 < digitsVal (figL t) := by rw [ef]; exact digitsVal_pos hc
    have back : ∀ {a b : Str}, a.cps.toList = b.cps.toList → a = b := fun {a b} h => by
      cases a; cases b
      dsimp only at h
      rw [Array.toList_inj.mp h]
    apply back
    unfold figL at h ne l ef dl pos
    by_cases hd : t.cps.toList.take 1 = [45]
    · rw [if_pos hd] at h ne l ef dl pos
      have ec : t.cps.toList = 45 :: t.cps.toList.drop 1 := by
        conv => lhs; rw [← List.take_append_drop 1 t.cps.toList, hd]
        rfl
      have lt : t.length ≤ 4001 := by rw [List.length_drop] at l; omega
      rw [intText_neg ec h ne (by omega)] at e
      cases e
      rw [numS_neg _ pos, dl]
      exact ec.symm
    · rw [if_neg hd] at h ne l ef dl pos
      rw [intText_digits h ne (by omega)] at e
      cases e
      rw [numS_nat, dl]
  · have e0 : PySem.intText? "0" = some 0 := by decide +kernel
    rw [e0] at e
    cases e
    decide +kernel
end VL

set_option maxRecDepth 100000
set_option maxHeartbeats 4000000
namespace VL
open PySem L2 FW
/-! ### texts taken apart and put together -/
def cs (s : Str) : List Nat := s.cps.toList
theorem cs_inj {a b : Str} (h : cs a = cs b) : a = b := by
  cases a; cases b
  unfold cs at h
  dsimp only at h
  rw [Array.toList_inj.mp h]
theorem cs_app (a b : Str) : cs (a ++ b) = cs a ++ cs b := by
  show (a.cps ++ b.cps).toList = _
  rw [Array.toList_append]
  rfl
theorem cs_len (a : Str) : (cs a).length = a.length := by unfold cs Str.length; simp
def sep : Str := " "
theorem cs_sep : cs sep = [32] := by decide +kernel
def jn : List Str → List Nat
  | [] => []
  | [w] => cs w
  | w :: v :: r => cs w ++ 32 :: jn (v :: r)
theorem cs_join : ∀ ws : List Str, cs (Str.join sep ws) = jn ws
  | [] => by decide +kernel
  | [w] => rfl
  | w :: v :: r => by
    show cs (w ++ sep ++ Str.join sep (v :: r)) = _
    rw [cs_app, cs_app, cs_join (v :: r), cs_sep]
    simp [jn]
theorem jn_cons (w : Str) (r : List Str) (h : r ≠ []) : jn (w :: r) = cs w ++ 32 :: jn r := by
  cases r with
  | nil => exact absurd rfl h
  | cons v r => rfl
/-- no sign of them is a space -/
def Free (w : Str) : Prop := 32 ∉ cs w
theorem cut_uniq : ∀ {a b r s : List Nat}, 32 ∉ a → 32 ∉ b → a ++ 32 :: r = b ++ 32 :: s → a = b ∧ r = s
  | [], [], _, _, _, _, e => ⟨rfl, (List.cons.inj e).2⟩
  | [], y :: b, _, _, _, hb, e => absurd ((List.cons.inj e).1 ▸ List.mem_cons_self ..) hb
  | x :: a, [], _, _, ha, _, e => absurd ((List.cons.inj e).1.symm ▸ List.mem_cons_self ..) ha
  | x :: a, y :: b, _, _, ha, hb, e => by
    obtain ⟨e1, e2⟩ := List.cons.inj e
    obtain ⟨e3, e4⟩ := cut_uniq (fun z => ha (List.mem_cons_of_mem _ z)) (fun z => hb (List.mem_cons_of_mem _ z)) e2
    exact ⟨by rw [e1, e3], e4⟩
theorem jn_uniq : ∀ {ws vs : List Str}, ws ≠ [] → vs ≠ [] → (∀ w ∈ ws, Free w) → (∀ v ∈ vs, Free v) → jn ws = jn vs → ws = vs
  | [], _, h, _, _, _, _ => absurd rfl h
  | _, [], _, h, _, _, _ => absurd rfl h
  | [w], [v], _, _, _, _, e => by rw [cs_inj (show cs w = cs v from e)]
  | [w], v :: u :: r, _, _, hw, _, e => by
    have e : cs w = cs v ++ 32 :: jn (u :: r) := e
    exact absurd (by rw [e]; simp) (hw w (by simp))
  | w :: u :: r, [v], _, _, _, hv, e => by
    have e : cs w ++ 32 :: jn (u :: r) = cs v := e
    exact absurd (by rw [← e]; simp) (hv v (by simp))
  | w :: x :: r, v :: y :: s, _, _, hw, hv, e => by
    obtain ⟨e1, e2⟩ := cut_uniq (hw w (by simp)) (hv v (by simp)) (show cs w ++ 32 :: jn (x :: r) = cs v ++ 32 :: jn (y :: s) from e)
    rw [cs_inj e1, jn_uniq (ws := x :: r) (vs := y :: s) (by simp) (by simp) (fun z hz => hw z (List.mem_cons_of_mem _ hz)) (fun z hz => hv z (List.mem_cons_of_mem _ hz)) e2]
theorem jn_many : ∀ {ps : List Str}, ps.length ≤ (jn ps).count 32 + 1
  | [] => by simp
  | [w] => by simp
  | w :: v :: r => by
    have ih := jn_many (ps := v :: r)
    show (v :: r).length + 1 ≤ (cs w ++ 32 :: jn (v :: r)).count 32 + 1
    rw [List.count_append, List.count_cons_self]
    omega
theorem jn_free : ∀ {ws : List Str}, (∀ w ∈ ws, Free w) → (jn ws).count 32 = ws.length - 1
  | [], _ => rfl
  | [w], h => by
    show (cs w).count 32 = 0
    exact List.count_eq_zero.mpr (h w (by simp))
  | w :: v :: r, h => by
    have ih := jn_free (ws := v :: r) fun z hz => h z (List.mem_cons_of_mem _ hz)
    show (cs w ++ 32 :: jn (v :: r)).count 32 = _
    rw [List.count_append, List.count_cons_self, ih, List.count_eq_zero.mpr (h w (by simp))]
    simp
theorem jn_piece : ∀ {ps : List Str} {p : Str}, p ∈ ps → p.length ≤ (jn ps).length
  | [], _, h => nomatch h
  | [w], p, h => by rw [List.mem_singleton.mp h]; show _ ≤ (cs w).length; rw [cs_len]; omega
  | w :: v :: r, p, h => by
    show _ ≤ (cs w ++ 32 :: jn (v :: r)).length
    rw [List.length_append, List.length_cons, cs_len]
    rcases List.mem_cons.mp h with rfl | h
    · omega
    · have := jn_piece (ps := v :: r) h
      omega
theorem split_join (x : Str) : Txt.split x sep ≠ [] ∧ Str.join sep (Txt.split x sep) = x := by
  unfold Txt.split
  split
  · exact ⟨by simp, rfl⟩
  · split
    · exact ⟨by simp, rfl⟩
    · refine ⟨fun e => ?_, ?_⟩
      · have := congrArg List.length e
        rw [length_partsBetween] at this
        simp at this
      · rw [← TL.join_eq]
        exact StrLaws.glued_between_self x sep _
theorem jn_split (x : Str) : jn (Txt.split x sep) = cs x := by rw [← cs_join, (split_join x).2]
theorem sep_one : sep = ⟨#[32]⟩ := by decide +kernel
theorem split_back {ws : List Str} (ne : ws ≠ []) (hf : ∀ w ∈ ws, Free w) : Txt.split (Str.join sep ws) sep = ws := by
  refine jn_uniq (split_join _).1 ne (fun w hw => ?_) hf (by rw [jn_split, cs_join])
  rw [sep_one] at hw
  exact StrLaws.split_free _ 32 w hw
theorem join_len : ∀ ws : List Str, (Str.join sep ws).length + 1 = (ws.map fun w => w.length + 1).sum ∨ ws = []
  | [] => .inr rfl
  | [w] => .inl (by show w.length + 1 = _; simp)
  | w :: v :: r => by
    left
    have ih := join_len (v :: r)
    rcases ih with ih | ih
    · have e : cs (Str.join sep (w :: v :: r)) = cs w ++ 32 :: cs (Str.join sep (v :: r)) := by rw [cs_join, cs_join]; rfl
      have l := congrArg List.length e
      rw [cs_len, List.length_append, List.length_cons, cs_len, cs_len] at l
      rw [List.map_cons, List.sum_cons, ← ih]
      omega
    · cases ih
theorem free_num (n : Int) : Free (numS n) := fun h => by
  rcases num_cases n with ⟨m, rfl⟩ | ⟨m, m0, rfl⟩
  · unfold cs at h
    rw [numS_nat] at h
    have := digL_all m 32 h
    omega
  · unfold cs at h
    rw [numS_neg m m0] at h
    rcases List.mem_cons.mp h with h | h
    · cases h
    · have := digL_all m 32 h
      omega
end VL

set_option maxRecDepth 100000
set_option maxHeartbeats 4000000
/-! fair weather: exceptions as values, made by place and by name -/
namespace PySem
namespace FWX
open PySem.W PySem.Calls PyProof.Rows PySem.HandSPX
section
variable {M : Model} {prog : Program} {w : World} {A : Around} {E : Value → Shared → Prop} {R : Result → Shared → Prop} {h : Heap} {g : Array GenState} {d : Drawn} {t : Nat} {os : OsState}
variable {nm q : Str} {C N : Addr} {bs bm bmB : List Value} {hdct : Bool} {sn : List Str} {sub : List Value} {ab : Bool} {col : Option Bool} {dd : Option Addr} {k0 k1 k2 k3 k5 : Option Value} {B newId initId : String}
theorem kw_new (F : ExcBaseFacts B newId initId bmB) (hT : ∀ Y : String, bm.contains (.type Y) = bmB.contains (.type Y)) {kws : List (Str × Value)} {Q : Unit → Shared → Prop}
    (oC : h.get? C = some (excClassObj nm q C N bs bm hdct sn sub ab col dd k0 k1 k2 k3 k5 newId)) (z : Q () ⟨h, g, d, t, os⟩) : wpAny M A (checkBuiltinCall newId ⟨[.ref C], kws⟩) Q E ⟨h, g, d, t, os⟩ := by
  have c1 : (Value.ref C :: bm).contains (.type B) = true := by rw [List.contains_cons, hT, F.hasB, Bool.or_true]
  have c2 := F.noStar
  simp only [checkBuiltinCall, F.newKind, F.newSplit, F.newRow]
  repeat (first | with_reducible refine wpAny_loadPart_at oC ?_ | (refine wpAny_isSubtype_exc oC ?_; rw [c1]) | refine wpAny_staticBase_exc oC ?_ | refine wpAny_madeBy_exc oC ?_ | simp only [bne_self_eq_false, Bool.false_eq_true, if_false] | wp_step)
  exact z
theorem kw_made (F : ExcBaseFacts B newId initId bmB) (hT : ∀ Y : String, bm.contains (.type Y) = bmB.contains (.type Y)) {kws : List (Str × Value)}
    (oC : h.get? C = some (excClassObj nm q C N bs bm hdct sn sub ab col dd k0 k1 k2 k3 k5 newId)) (z : R (.ok (.ret (.ref (h.objs.size + 1)))) ⟨(h.push { cls := .type "tuple", data := .seq #[] }).push (excO C h.objs.size), g, d, t, os⟩) :
    codeAny (model prog w) A (.builtin newId ⟨[.ref C], kws⟩) R ⟨h, g, d, t, os⟩ := by
  have c0 := F.ends
  have c1 : (Value.ref C :: bm).contains (.type B) = true := by rw [List.contains_cons, hT, F.hasB, Bool.or_true]
  have c2 : (Value.ref C :: bm).contains (.type "AttributeError") = false := by rw [List.contains_cons, hT, F.noAttr]; rfl
  have c3 : (Value.ref C :: bm).contains (.type "NameError") = false := by rw [List.contains_cons, hT, F.noName]; rfl
  refine codeAny_builtinAt F.entry ?_
  unfold Builtin.«BaseException.__new__»
  refine wpAt_bind ?_
  show wpAt _ _ _ (stack >>= _) _ _ _
  refine wpAt_bind (wpAt_stack fun p below => wpAt_of_wpAny ?_)
  wp_walk
  refine wpAt_of_wpAny ?_
  rw [F.owner]
  repeat (first | with_reducible refine wpAny_madeHere_exc F.canon oC ?_ | with_reducible refine wpAny_loadPart_at oC ?_ | (with_reducible refine wpAny_isSubtype_exc oC ?_; first | rw [c1] | rw [c2] | rw [c3]) | wp_step)
  show R _ _
  rw [Heap.size_push]
  exact z
theorem kw_type (F : ExcBaseFacts B newId initId bmB) (hT : ∀ Y : String, bm.contains (.type Y) = bmB.contains (.type Y)) {kws : List (Str × Value)} {fI : Addr} {Q : Fin → Shared → Prop}
    (oC : h.get? C = some (excClassObj nm q C N bs bm hdct sn sub ab col dd k0 k1 k2 k3 k5 newId))
    (li : W.Looks (model prog w) h (typeLookup (.ref C) "__init__") (some (.ref fI))) (lb : ∀ y, W.Looks (model prog w) h (bindSpecial (.ref fI) y) (.ref fI, [y]))
    (z : codeAny (model prog w) A (.call (.ref fI) ⟨[.ref (h.objs.size + 1)], kws⟩)
      (fun r s' => match r with | .ok (.ret v) => v = .none ∧ Q (.done (.ret (.ref (h.objs.size + 1)))) s' | .ok _ => False | .error e => E e s')
      ⟨(h.push { cls := .type "tuple", data := .seq #[] }).push (excO C h.objs.size), g, d, t, os⟩) :
    wpAny (model prog w) A (Builtin.«type.__call__» ⟨[.ref C], kws⟩) Q E ⟨h, g, d, t, os⟩ := by
  repeat (first | with_reducible refine wpAny_loadPart_at oC ?_ | with_reducible refine wpAny_madeBy_exc oC ?_ | wp_step)
  refine codeAny_call_builtin_code (Code.quiet_builtin _ F.quiet) (kw_new F hT oC ?_)
  refine kw_made F hT oC ?_
  show wpAny _ _ _ _ _ _
  have kk : ∀ b o, h.get? b = some o → ((h.push { cls := .type "tuple", data := .seq #[] }).push (excO C h.objs.size)).get? b = some o := fun b o e => Heap.get?_push_of_some _ (Heap.get?_push_of_some _ e)
  have oC2 := kk _ _ oC
  have oE : ((h.push { cls := .type "tuple", data := .seq #[] }).push (excO C h.objs.size)).get? (h.objs.size + 1) = some (excO C h.objs.size) := by heap_get
  have c1 : (Value.ref C :: bm).contains (.ref C) = true := by simp
  have l1 := li.keeps kk
  have l2 := (lb (.ref (h.objs.size + 1))).keeps kk
  unfold isInstance
  repeat (first | with_reducible refine wpAny_loadPart_at oE ?_ | (with_reducible refine wpAny_isSubtype_exc oC2 ?_; rw [c1]) | wp_step)
  show wpAny _ _ (typeLookup (.ref C) _) _ _ _
  refine l1.at (wpAny_holding (wpAny_bind (l2.at ?_)))
  refine wpAny_bind (wpAny_call (codeAny_mono z fun r s' y => ?_))
  rcases r with e | (v | _ | _ | _) <;> first | exact y | exact y.elim | skip
  obtain ⟨rfl, y⟩ := y
  first
    | exact wpAny_pure (wpAny_pure y)
    | (wp_walk; exact y)
theorem kw_call (F : ExcBaseFacts B newId initId bmB) (hT : ∀ Y : String, bm.contains (.type Y) = bmB.contains (.type Y)) {kws : List (Str × Value)} {fI : Addr}
    (oC : h.get? C = some (excClassObj nm q C N bs bm hdct sn sub ab col dd k0 k1 k2 k3 k5 newId))
    (li : W.Looks (model prog w) h (typeLookup (.ref C) "__init__") (some (.ref fI))) (lb : ∀ y, W.Looks (model prog w) h (bindSpecial (.ref fI) y) (.ref fI, [y]))
    (z : codeAny (model prog w) (A.under (.builtin "type.__call__" ⟨[.ref C], kws⟩)) (.call (.ref fI) ⟨[.ref (h.objs.size + 1)], kws⟩) (W.InitBack (h.objs.size + 1) R)
      ⟨(h.push { cls := .type "tuple", data := .seq #[] }).push (excO C h.objs.size), g, d, t, os⟩) :
    codeAny (model prog w) A (.call (.ref C) ⟨[], kws⟩) R ⟨h, g, d, t, os⟩ := by
  have x1 := tc_lookup
  have x2 := tc_bind (.ref C)
  have x3 : (⟨h, g, d, t, os⟩ : Shared).TypeIs (.ref C) "type" := ⟨_, oC, rfl⟩
  refine codeAny_of_tree ?_
  show wpAny _ _ (callAny (.ref C) _) _ _ _
  repeat (any_goals (first | assumption | with_reducible refine wpAny_loadPart_at oC ?_ | wp_step))
  refine ⟨rfl, ?_⟩
  refine codeAny_call_builtin_at (Code.quiet_builtin _ (by decide +kernel)) entry_typeCall (wpAny_check_type_call_sub oC (kw_type F hT oC li lb ?_))
  refine codeAny_mono z fun r s' y => ?_
  rcases r with e | (v | _ | _ | _) <;> exact y
end
end FWX
end PySem
namespace FW
open PySem L2 PyProof.Rows
section
variable {X : Cx} {pins : List (Addr × Obj)} {σ : L2.St} {H : Hp} {s : Shared} {a d C : Addr} {fs : List (Str × V)}
/-- what was made, taken as a value -/
theorem as_value (I : Inv X pins σ H s) (da : d ≠ a) (ea : H a = some (exo a C (some d))) (ed : H d = some (exd d fs)) : Inv X pins σ (upd (upd H d (.xd fs)) a (ExT a (.ref C) (some d))) s := by
  obtain ⟨t0, hoe⟩ := exo_at I.hok ea
  obtain ⟨mA, hns, rel⟩ := exd_at I.hok ed
  obtain ⟨hp, g, dr, tk, os⟩ := s
  have J : Inv X pins σ (upd H d (.xd fs)) ⟨hp, g, dr, tk, os⟩ := I.write (t' := tk) (x := d) (e := d) (h' := hp) (o := .xd fs) (by rw [ed]; exact True.intro) (.inl rfl) (fun _ _ _ e => e) (by obtain ⟨o, _, _, e, _⟩ := hns; exact ⟨o, e⟩) ⟨mA, hns, rel⟩
  have ea2 : upd H d (.xd fs) a = some (exo a C (some d)) := by rw [upd_ne (Ne.symm da)]; exact ea
  exact J.write (t' := tk) (x := a) (e := a) (h' := hp) (o := ExT a (.ref C) (some d)) (by rw [ea2]; exact True.intro) (.inl rfl) (fun _ _ _ e => e) ⟨_, hoe⟩ (exT_ok hoe ⟨rfl, rfl⟩ rfl)
end
/-- what is wished of an exception that is made as a value -/
def kMk (C a : Addr) (Q : VK) : VK := fun v H2 => v = .non ∧ ∃ (d : Addr) (fs : List (Str × V)), d ≠ a ∧ H2 a = some (exo a C (some d)) ∧ H2 d = some (exd d fs) ∧ Q (.ref a) (upd (upd H2 d (.xd fs)) a (ExT a (.ref C) (some d)))
def tMkV (C : Addr) (sp : Sp) (ta : TA) : TE := fun σ H Q => ta σ H fun vs H1 => vs.length ≤ 1000 ∧ ∀ a, H1 a = none → sp (.ref a :: vs) (upd H1 a (exo a C none)) (kMk C a Q) (fun _ _ _ => False)
def tMkW (C : Addr) (m : Nat) (sp : Sp) (gV : List V → List V → List V) (tk : TA) : TE := fun σ H Q => tk σ H fun zs H1 => zs.length = m ∧ ∀ a, H1 a = none → sp (gV [.ref a] zs) (upd H1 a (exo a C none)) (kMk C a Q) (fun _ _ _ => False)
section
variable {X : Cx} {CX : CXT} {k j : Nat} {C fI : Addr} {fd : FuncData} {ps ks : List Str} {sp : Sp} {gV : List V → List V → List V} {g : List Value → List Value → List Value} {e : Expr} {es : List Expr} {x : Str} {p pos : Pos} {kws : List Keyword} {ta tk : TA}
theorem laid_exo {pins : List (Addr × Obj)} {σ : L2.St} {H : Hp} {hp : Heap} {gs : Array GenState} {dr : Drawn} {t : Nat} {os : OsState} {us : List Value} (I : Inv X pins σ H ⟨hp, gs, dr, t, os⟩) :
    Inv X pins σ (upd H (hp.objs.size + 1) (exo (hp.objs.size + 1) C none)) ⟨(hp.push (PySem.W.kdv_tup us)).push (PySem.HandSPX.excO C hp.objs.size), gs, dr, t, os⟩ :=
  I.laid (t' := t) (a := hp.objs.size + 1) (fun b o q => Heap.get?_push_of_some _ (Heap.get?_push_of_some _ q)) (Nat.le_succ _) (exo_ok (t1 := hp.objs.size) (by heap_get))
/-- C(e), an own exception, not raised -/
theorem pe_mkV (T : OexC X.K C) (iC : PySem.W.findIn X.K (.ref C) "__init__" = some (some (.ref fI))) (tI : PySem.W.typeIn X.K (.ref fI) = some (.type "function")) (F1 : FnOk X.prog X.w X.K X.mg X.base CX k fI fd ps sp) (hr : Room j X.A) (hk : k + 1 ≤ j) (hb : Binds X.K fd ps [])
    (hx : Passes CX X (fun _ _ _ => False)) (hg : Gl X x) (hm : X.mg x = some (.ref C)) (ha : PA X (e :: es) ta) (hdb : (x == ("__debug__" : Str)) = false := by decide) (he : starEach (e :: es) X.env = (false, eval e X.env) :: starEach es X.env := by rfl)
    (hpl : (backTo pos (starEach es X.env)).any (·.1) = false := by rfl) : PE X (.Call (.Name x p) (e :: es) [] pos) (tMkV C sp ta) := by
  refine ⟨fun pins s σ H Q I h => ?_⟩
  obtain ⟨nm, q, N, bs, bm, sn, sub, ab, col, dd, k0, k1, k2, k3, k5, hC, hbm⟩ := T.cls
  refine wpAny_Call_Name_kw (ld_glob I hg hm (PySem.W.callWith_K (h₀ := X.base) I.ok.mod.kin T.kC (thn (ha.run pos pins s σ H _ I h) fun us s1 y => ?_) he hpl) hdb)
  obtain ⟨vs, H1, I1, r1, hz, q1⟩ := y
  refine ⟨I1.kIn, ?_⟩
  show wpAny _ _ (call (.ref C) us) _ _ _
  obtain ⟨hp, gs, dr, tk, os⟩ := s1
  have hq := q1 (hp.objs.size + 1) (I1.hok.fresh (Nat.le_succ _))
  have I2 := laid_exo (C := C) (us := us) I1
  have r2 : Vals (V.ref (hp.objs.size + 1) :: vs) (Value.ref (hp.objs.size + 1) :: us) := .cons rfl r1
  have hl : (Value.ref (hp.objs.size + 1) :: us ++ []).length = ps.length := by
    rw [List.append_nil, ← Paired.length r2]
    exact F1.len _ _ _ _ hq
  have bind := hb _ (Value.ref (hp.objs.size + 1) :: us) I2.kIn hl
  rw [List.append_nil] at bind
  refine wpAny_call (PySem.HandSPX.call_own PySem.F.excBase_ValueError (fun Y => PySem.HandSPX.refsVE_contains Y bm hbm) (I1.kIn _ _ hC) (PySem.W.looks_findIn I1.kIn iC) (fun y => PySem.W.bind_fn I1.kIn y tI) (by rw [← Paired.length r1, sizeLine_eq]; omega)
    (codeAny_mono (F1.run _ X.stack _ _ _ _ _ _ _ ((hr.mono hk).make C us []) (I2.env0.make C us []) bind r2 hq) fun r s' z => ?_))
  cases r with
  | error er => exact hx pins σ _ _ er s' I2 z
  | ok fl =>
    cases fl with
    | ret u =>
      obtain ⟨v, H2, I3, rv, ev, d, fs, da, ea, ed, q2⟩ := I2.after z
      subst ev
      exact ⟨rv, .ref _, _, as_value I3 da ea ed, rfl, q2⟩
    | next => exact z.elim
    | brk => exact z.elim
    | cont => exact z.elim
/-- C(k=e, ..), an own exception, not raised -/
theorem pe_mkW (T : OexC X.K C) (iC : PySem.W.findIn X.K (.ref C) "__init__" = some (some (.ref fI))) (tI : PySem.W.typeIn X.K (.ref fI) = some (.type "function")) (F1 : FnOk X.prog X.w X.K X.mg X.base CX k fI fd ps sp) (hr : Room j X.A) (hk : k + 1 ≤ j) (hb : KBn X.K fd ps 1 ks g gV)
    (hx : Passes CX X (fun _ _ _ => False)) (hg : Gl X x) (hm : X.mg x = some (.ref C)) (ha : PK X kws tk) (hall : (backToKw pos (keywordEach kws X.env)).all (·.1.isSome) = true := by rfl) (hks : (backToKw pos (keywordEach kws X.env)).filterMap (·.1) = ks := by rfl)
    (hdb : (x == ("__debug__" : Str)) = false := by decide) (hpl : ((backTo pos (starEach [] X.env)).any (·.1) || (backToKw pos (keywordEach kws X.env)).any (·.1.isNone)) = false := by rfl) :
    PE X (.Call (.Name x p) [] kws pos) (tMkW C ks.length sp gV tk) := by
  refine ⟨fun pins s σ H Q I h => ?_⟩
  obtain ⟨nm, q, N, bs, bm, sn, sub, ab, col, dd, k0, k1, k2, k3, k5, hC, hbm⟩ := T.cls
  refine wpAny_Call_Name_kw (ld_glob I hg hm (PySem.W.callWith_KW0 (h₀ := X.base) I.ok.mod.kin T.kC hall (thn (ha.run pos pins s σ H _ I h) fun ws s1 y => ?_) hpl) hdb)
  obtain ⟨zs, H1, I1, rz, l2, q1⟩ := y
  refine ⟨I1.kIn, ?_⟩
  rw [hks]
  show wpAny _ _ (call (.ref C) [] (ks.zip ws)) _ _ _
  obtain ⟨hp, gs, dr, tk, os⟩ := s1
  have hq := q1 (hp.objs.size + 1) (I1.hok.fresh (Nat.le_succ _))
  have I2 := laid_exo (C := C) (us := []) I1
  have r1 : Vals [V.ref (hp.objs.size + 1)] [Value.ref (hp.objs.size + 1)] := .cons rfl .nil
  have bind := hb.to _ [Value.ref (hp.objs.size + 1)] ws I2.kIn rfl (rz.length.symm.trans l2)
  refine wpAny_call (PySem.FWX.kw_call PySem.F.excBase_ValueError (fun Y => PySem.HandSPX.refsVE_contains Y bm hbm) (I1.kIn _ _ hC) (PySem.W.looks_findIn I1.kIn iC) (fun y => PySem.W.bind_fn I1.kIn y tI)
    (codeAny_mono (F1.run _ X.stack _ _ _ _ _ _ _ ((hr.mono hk).make C [] (ks.zip ws)) (I2.env0.make C [] (ks.zip ws)) bind (hb.rel r1 rz) hq) fun r s' z => ?_))
  cases r with
  | error er => exact hx pins σ _ _ er s' I2 z
  | ok fl =>
    cases fl with
    | ret u =>
      obtain ⟨v, H2, I3, rv, ev, d, fs, da, ea, ed, q2⟩ := I2.after z
      subst ev
      exact ⟨rv, .ref _, _, as_value I3 da ea ed, rfl, q2⟩
    | next => exact z.elim
    | brk => exact z.elim
    | cont => exact z.elim
end
end FW

set_option maxRecDepth 100000
set_option maxHeartbeats 4000000
/-! fair weather: exceptions without own __init__, as values -/
namespace FW
open PySem L2 PyProof.Rows
/-- C(e), of an own exception class without own __init__, kept -/
def tErr (C : Addr) : TE := fun _ H Q => ∀ a, H a = none → Q (.ref a) (upd H a (ExT a (.ref C) none))
theorem pe_excT {X : Cx} {C : Addr} {bmB : List Value} {B newId initId : String} {x : Str} {e : Expr} {v : V} {p pos : Pos} (F : ExcBaseFacts B newId initId bmB) (q : PySem.W.excIn X.K C bmB newId = true) (gC : X.mg x = some (.ref C)) (kC : PySem.W.keepIn X.K (.ref C) = true) (hg : Gl X x)
    (he : PE X e (tC v)) (hs : starEach [e] X.env = (false, eval e X.env) :: starEach [] X.env := by rfl) (hdb : (x == ("__debug__" : Str)) = false := by decide) : PE X (.Call (.Name x p) [e] [] pos) (tErr C) := by
  have made := pe_exc1 (pos := pos) (p := p) F q gC kC hg he hs hdb
  refine ⟨fun pins s σ H Q I h => ?_⟩
  refine wpAny_mono (made.run pins s σ H (fun y H' => ∃ a, y = .ref a ∧ H a = none ∧ H' = upd H a (ExO (.ref C) a)) I (fun a n => ⟨a, rfl, n, rfl⟩)) (fun u s1 z => ?_) fun _ _ y => y
  obtain ⟨y, H', J, r, a, rfl, n, rfl⟩ := z
  obtain ⟨hp, g, dr, tk, os⟩ := s1
  have hok : ObjOk X.prog X.w (upd H a (ExO (.ref C) a)) hp a (ExO (.ref C) a) := J.hok a _ upd_same
  obtain ⟨⟨oe, vs, ho, hz, hd, _⟩, _, _⟩ := hok
  have J2 := J.write (t' := tk) (x := a) (e := a) (h' := hp) (o := ExT a (.ref C) none) (by rw [upd_same]; exact True.intro) (.inl rfl) (fun _ _ _ e => e) ⟨_, ho⟩ (exT_ok ho hz hd)
  rw [upd_upd] at J2
  exact ⟨.ref a, _, J2, r, h a n⟩
end FW

set_option maxRecDepth 100000
set_option maxHeartbeats 4000000
/-! values as trees: own exceptions made as values, by place and by name; isinstance of them -/
namespace VL
open PySem L2 FW PyProof.Rows
section
variable {K : PySem.W.Frag} {T : List (Addr × Str)} {μ : Mu} {H H2 : Hp} {Φ : WK} {Q : VK} {a dx C : Addr} {ns : List Str} {vs : List V} {ds : List D}
/-- an exception laid at a, its dict at dx, is the tree -/
theorem exc_laid (st : Sto K T μ H) (k : KOk K T μ H Φ Q) (q : Φ (.exc C ns ds) μ) (ia : IsAll K μ H vs ds) (l : ns.length = vs.length) (na : H a = none) (nd : H dx = none) (ne : dx ≠ a) : Q (.ref a) (upd (upd H dx (.xd (ns.zip vs))) a (ExT a (.ref C) (some dx))) := by
  have na2 : upd H dx (.xd (ns.zip vs)) a = none := by rw [upd_ne (Ne.symm ne)]; exact na
  have st1 := st.new (o := .xd (ns.zip vs)) nd
  have st2 := st1.new (o := ExT a (.ref C) (some dx)) na2
  have s1 := step_new (o := .xd (ns.zip vs)) nd (st.free nd)
  have s2 := step_new (o := ExT a (.ref C) (some dx)) na2 (st1.free na2)
  exact k _ μ _ _ q (.exc (st1.free na2) upd_same (st.free nd) (by rw [upd_ne ne, upd_same]) l ((ia.step s1).step s2)) st2 (s1.trans s2)
end
/-- what the text says of an own exception of one field, made by name too -/
structure ExnK (P : Program) (w : World) (K : PySem.W.Frag) (mg : Str → Option Value) (base : Heap) (cn f : Str) (C : Addr) : Prop where
  exn : Exn P w K mg base cn f C
  kw : ∃ (fI : Addr) (fd : FuncData) (ps : List Str) (g : List Value → List Value → List Value) (gV : List V → List V → List V), PySem.W.findIn K (.ref C) "__init__" = some (some (.ref fI)) ∧ PySem.W.typeIn K (.ref fI) = some (.type "function") ∧ FnOk P w K mg base CX0 1 fI fd ps (spInit1 K C f) ∧ KBn K fd ps 1 [f] g gV ∧ ∀ a v, gV [a] [v] = [a, v]
/-- __init__ of two fields: self.f = v, self.g = u -/
def spInit2 (K : PySem.W.Frag) (C : Addr) (f g : Str) : Sp := fun vs H Q _ => ∃ (a : Addr) (v u : V), vs = [.ref a, v, u] ∧ OexC K C ∧ PySem.W.findIn K (.ref C) f = some none ∧ PySem.W.findIn K (.ref C) g = some none ∧ H a = some (exo a C none) ∧
  ∀ dx, H dx = none → dx ≠ a → Q .non (upd (upd (upd H dx (exd dx [(f, v)])) a (exo a C (some dx))) dx (exd dx [(g, u), (f, v)]))
structure Exn2 (P : Program) (w : World) (K : PySem.W.Frag) (mg : Str → Option Value) (base : Heap) (cn f g : Str) (C : Addr) : Prop where
  oex : OexC K C
  gC : mg cn = some (.ref C)
  nof : PySem.W.findIn K (.ref C) f = some none
  nog : PySem.W.findIn K (.ref C) g = some none
  xf : XfC K C
  exc : ExcC K C
  init : ∃ (fI : Addr) (fd : FuncData) (ps : List Str), PySem.W.findIn K (.ref C) "__init__" = some (some (.ref fI)) ∧ PySem.W.typeIn K (.ref fI) = some (.type "function") ∧ FnOk P w K mg base CX0 1 fI fd ps (spInit2 K C f g) ∧ Binds K fd ps []
  kw : ∃ (fI : Addr) (fd : FuncData) (ps : List Str) (gk : List Value → List Value → List Value) (gV : List V → List V → List V), PySem.W.findIn K (.ref C) "__init__" = some (some (.ref fI)) ∧ PySem.W.typeIn K (.ref fI) = some (.type "function") ∧ FnOk P w K mg base CX0 1 fI fd ps (spInit2 K C f g) ∧ KBn K fd ps 1 [g, f] gk gV ∧ ∀ a u v, gV [a] [u, v] = [a, v, u]
def wMkX (C : Addr) (f : Str) (w : WA) : WE := fun ρ μ ev Φ => w ρ μ ev fun ds μ1 => ∃ d, ds = [d] ∧ Φ (.exc C [f] [d]) μ1
def wMkX2 (C : Addr) (f g : Str) (w : WA) : WE := fun ρ μ ev Φ => w ρ μ ev fun ds μ1 => ∃ d e, ds = [d, e] ∧ Φ (.exc C [g, f] [e, d]) μ1
def wMkXK (C : Addr) (f g : Str) (w : WA) : WE := fun ρ μ ev Φ => w ρ μ ev fun ds μ1 => ∃ d e, ds = [e, d] ∧ Φ (.exc C [g, f] [e, d]) μ1
def noX : XK := fun _ _ _ => False
section
variable {X : Cx} {T : List (Addr × Str)} {E : XK} {C : Addr} {cn f g : Str} {e e1 e2 : Expr} {wa : WA} {p pos kp kp1 kp2 : Pos}
theorem heap1 {H1 : Hp} {a dx : Addr} {v : V} (n : dx ≠ a) : upd (upd (upd (upd (upd H1 a (exo a C none)) dx (exd dx [(f, v)])) a (exo a C (some dx))) dx (.xd [(f, v)])) a (ExT a (.ref C) (some dx)) = upd (upd H1 dx (.xd [(f, v)])) a (ExT a (.ref C) (some dx)) := by
  funext b
  by_cases h1 : b = a
  · subst h1; rw [upd_same, upd_same]
  · rw [upd_ne h1, upd_ne h1]
    by_cases h2 : b = dx
    · subst h2; rw [upd_same, upd_same]
    · rw [upd_ne h2, upd_ne h2, upd_ne h1, upd_ne h2, upd_ne h1]
theorem heap2 {H1 : Hp} {a dx : Addr} {v u : V} (n : dx ≠ a) : upd (upd (upd (upd (upd (upd H1 a (exo a C none)) dx (exd dx [(f, v)])) a (exo a C (some dx))) dx (exd dx [(g, u), (f, v)])) dx (.xd [(g, u), (f, v)])) a (ExT a (.ref C) (some dx)) = upd (upd H1 dx (.xd [(g, u), (f, v)])) a (ExT a (.ref C) (some dx)) := by
  funext b
  by_cases h1 : b = a
  · subst h1; rw [upd_same, upd_same]
  · rw [upd_ne h1, upd_ne h1]
    by_cases h2 : b = dx
    · subst h2; rw [upd_same, upd_same]
    · rw [upd_ne h2, upd_ne h2, upd_ne h2, upd_ne h1, upd_ne h2, upd_ne h1]
theorem mk1_in {μ1 : Mu} {H1 : Hp} {Φ : WK} {Q : VK} {d : D} {v : V} (To : OexC X.K C) (no : PySem.W.findIn X.K (.ref C) f = some none) (st1 : Sto X.K T μ1 H1) (k : KOk X.K T μ1 H1 Φ Q) (q : Φ (.exc C [f] [d]) μ1) (iv : Is X.K μ1 H1 v d) {a : Addr} (na : H1 a = none) :
    spInit1 X.K C f [.ref a, v] (upd H1 a (exo a C none)) (kMk C a Q) (fun _ _ _ => False) := by
  refine ⟨a, v, rfl, To, no, upd_same, fun dx n1 n2 => ⟨rfl, dx, [(f, v)], n2, upd_same, by rw [upd_ne n2, upd_same], ?_⟩⟩
  rw [upd_ne n2] at n1
  rw [heap1 n2]
  exact exc_laid (ns := [f]) (vs := [v]) st1 k q (.cons iv .nil) rfl na n1 n2
theorem mk2_in {μ1 : Mu} {H1 : Hp} {Φ : WK} {Q : VK} {d y : D} {v u : V} (To : OexC X.K C) (no : PySem.W.findIn X.K (.ref C) f = some none) (no2 : PySem.W.findIn X.K (.ref C) g = some none) (st1 : Sto X.K T μ1 H1) (k : KOk X.K T μ1 H1 Φ Q) (q : Φ (.exc C [g, f] [y, d]) μ1) (iv : Is X.K μ1 H1 v d) (iu : Is X.K μ1 H1 u y) {a : Addr} (na : H1 a = none) :
    spInit2 X.K C f g [.ref a, v, u] (upd H1 a (exo a C none)) (kMk C a Q) (fun _ _ _ => False) := by
  refine ⟨a, v, u, rfl, To, no, no2, upd_same, fun dx n1 n2 => ⟨rfl, dx, [(g, u), (f, v)], n2, by rw [upd_ne (Ne.symm n2), upd_same], upd_same, ?_⟩⟩
  rw [upd_ne n2] at n1
  rw [heap2 n2]
  exact exc_laid (ns := [g, f]) (vs := [u, v]) st1 k q (.cons iu (.cons iv .nil)) rfl na n1 n2
theorem ve_mkX (Te : ExnK X.prog X.w X.K X.mg X.base cn f C) (hr : Room 2 X.A) (hx : Passes CX0 X (fun _ _ _ => False)) (ha : PA X [e] (upA X.K T E wa)) (hg : Gl X cn) (hdb : (cn == ("__debug__" : Str)) = false := by decide)
    (he : starEach (e :: []) X.env = (false, eval e X.env) :: starEach [] X.env := by rfl) (hpl : (backTo pos (starEach [] X.env)).any (·.1) = false := by rfl) : PE X (.Call (.Name cn p) [e] [] pos) (up X.K T E (wMkX C f wa)) := by
  obtain ⟨fI, fd, ps, iC, tI, F, b⟩ := Te.exn.init
  exact pe_mono (pe_mkV Te.exn.oex iC tI F hr (Nat.le_refl _) b hx hg Te.exn.gC ha hdb he hpl) fun σ H Q ⟨ρ, μ, ev, Φ, en, st, xo, h, k⟩ => ⟨ρ, μ, ev, _, en, st, xo, h, fun ds μ1 vs H1 ⟨d, e, q⟩ ia st1 s1 => by
    subst e
    cases ia with
    | cons iv c =>
      cases c
      exact ⟨by simp, fun a na => mk1_in Te.exn.oex Te.exn.no st1 (k.step s1) q iv na⟩⟩
theorem ve_mkXK (Te : ExnK X.prog X.w X.K X.mg X.base cn f C) (hr : Room 2 X.A) (hx : Passes CX0 X (fun _ _ _ => False)) (ha : PK X [⟨some f, e, kp⟩] (upA X.K T E wa)) (hg : Gl X cn) (hdb : (cn == ("__debug__" : Str)) = false := by decide)
    (hall : (backToKw pos (keywordEach [⟨some f, e, kp⟩] X.env)).all (·.1.isSome) = true := by rfl) (hks : (backToKw pos (keywordEach [⟨some f, e, kp⟩] X.env)).filterMap (·.1) = [f] := by rfl)
    (hpl : ((backTo pos (starEach [] X.env)).any (·.1) || (backToKw pos (keywordEach [⟨some f, e, kp⟩] X.env)).any (·.1.isNone)) = false := by rfl) : PE X (.Call (.Name cn p) [] [⟨some f, e, kp⟩] pos) (up X.K T E (wMkX C f wa)) := by
  obtain ⟨fI, fd, ps, gk, gV, iC, tI, F, b, eg⟩ := Te.kw
  exact pe_mono (pe_mkW Te.exn.oex iC tI F hr (Nat.le_refl _) b hx hg Te.exn.gC ha hall hks hdb hpl) fun σ H Q ⟨ρ, μ, ev, Φ, en, st, xo, h, k⟩ => ⟨ρ, μ, ev, _, en, st, xo, h, fun ds μ1 vs H1 ⟨d, e, q⟩ ia st1 s1 => by
    subst e
    cases ia with
    | cons iv c =>
      cases c
      exact ⟨rfl, fun a na => by rw [eg]; exact mk1_in Te.exn.oex Te.exn.no st1 (k.step s1) q iv na⟩⟩
theorem ve_mkX2 (Te : Exn2 X.prog X.w X.K X.mg X.base cn f g C) (hr : Room 2 X.A) (hx : Passes CX0 X (fun _ _ _ => False)) (ha : PA X [e1, e2] (upA X.K T E wa)) (hg : Gl X cn) (hdb : (cn == ("__debug__" : Str)) = false := by decide)
    (he : starEach (e1 :: [e2]) X.env = (false, eval e1 X.env) :: starEach [e2] X.env := by rfl) (hpl : (backTo pos (starEach [e2] X.env)).any (·.1) = false := by rfl) : PE X (.Call (.Name cn p) [e1, e2] [] pos) (up X.K T E (wMkX2 C f g wa)) := by
  obtain ⟨fI, fd, ps, iC, tI, F, b⟩ := Te.init
  exact pe_mono (pe_mkV Te.oex iC tI F hr (Nat.le_refl _) b hx hg Te.gC ha hdb he hpl) fun σ H Q ⟨ρ, μ, ev, Φ, en, st, xo, h, k⟩ => ⟨ρ, μ, ev, _, en, st, xo, h, fun ds μ1 vs H1 ⟨d, y, e, q⟩ ia st1 s1 => by
    subst e
    cases ia with
    | cons iv c =>
      cases c with
      | cons iu c =>
        cases c
        exact ⟨by simp, fun a na => mk2_in Te.oex Te.nof Te.nog st1 (k.step s1) q iv iu na⟩⟩
theorem ve_mkXK2 (Te : Exn2 X.prog X.w X.K X.mg X.base cn f g C) (hr : Room 2 X.A) (hx : Passes CX0 X (fun _ _ _ => False)) (ha : PK X [⟨some g, e1, kp1⟩, ⟨some f, e2, kp2⟩] (upA X.K T E wa)) (hg : Gl X cn) (hdb : (cn == ("__debug__" : Str)) = false := by decide)
    (hall : (backToKw pos (keywordEach [⟨some g, e1, kp1⟩, ⟨some f, e2, kp2⟩] X.env)).all (·.1.isSome) = true := by rfl) (hks : (backToKw pos (keywordEach [⟨some g, e1, kp1⟩, ⟨some f, e2, kp2⟩] X.env)).filterMap (·.1) = [g, f] := by rfl)
    (hpl : ((backTo pos (starEach [] X.env)).any (·.1) || (backToKw pos (keywordEach [⟨some g, e1, kp1⟩, ⟨some f, e2, kp2⟩] X.env)).any (·.1.isNone)) = false := by rfl) : PE X (.Call (.Name cn p) [] [⟨some g, e1, kp1⟩, ⟨some f, e2, kp2⟩] pos) (up X.K T E (wMkXK C f g wa)) := by
  obtain ⟨fI, fd, ps, gk, gV, iC, tI, F, b, eg⟩ := Te.kw
  exact pe_mono (pe_mkW Te.oex iC tI F hr (Nat.le_refl _) b hx hg Te.gC ha hall hks hdb hpl) fun σ H Q ⟨ρ, μ, ev, Φ, en, st, xo, h, k⟩ => ⟨ρ, μ, ev, _, en, st, xo, h, fun ds μ1 vs H1 ⟨d, y, e, q⟩ ia st1 s1 => by
    subst e
    cases ia with
    | cons iu c =>
      cases c with
      | cons iv c =>
        cases c
        exact ⟨rfl, fun a na => by rw [eg]; exact mk2_in Te.oex Te.nof Te.nog st1 (k.step s1) q iv iu na⟩⟩
end
end VL

set_option maxRecDepth 100000
set_option maxHeartbeats 4000000
/-! values as trees: isinstance of exceptions, own ones and plain ones; an own exception without fields -/
namespace VL
open PySem L2 FW PyProof.Rows
section
variable {K : PySem.W.Frag} {T : List (Addr × Str)} {X : Cx}
/-! ### an own exception without own __init__, kept at a place -/
theorem exT_noCode (a : Addr) (cls : Value) : ∀ c q, ExT a cls none ≠ LamX.CodeO c q := fun c q e => by
  unfold ExT LamX.CodeO at e
  injection e with e
  let oe : Obj := { cls := cls, dict := none, data := .fields #[.none, .none], slots := #[] }
  let h : Heap := { objs := Array.replicate (a + 1) oe }
  have hg : ∀ i o, h.get? i = some o → o = oe := fun i o hi => by
    unfold Heap.get? at hi
    have : h.objs[i]? = none ∨ h.objs[i]? = some oe := by
      show (Array.replicate (a + 1) oe)[i]? = none ∨ (Array.replicate (a + 1) oe)[i]? = some oe
      rw [Array.getElem?_replicate]
      split
      · exact .inr rfl
      · exact .inl rfl
    rcases this with h1 | h1
    · rw [h1] at hi; cases hi
    · rw [h1] at hi; cases hi; rfl
  have ha : h.get? a = some oe := by
    unfold Heap.get?
    have : h.objs[a]? = some oe := by
      show (Array.replicate (a + 1) oe)[a]? = some oe
      rw [Array.getElem?_replicate, if_pos (by omega)]
    rw [this]
  have e2 := congrFun e h
  have l : ∃ (o : Obj) (vs : Array Value), h.get? a = some o ∧ Zc cls none o ∧ o.data = .fields vs := ⟨oe, #[.none, .none], ha, ⟨rfl, rfl⟩, rfl⟩
  rw [e2] at l
  obtain ⟨oc, vs, t, h1, h2, h3⟩ := l
  have := hg _ _ h1
  subst this
  injection h2 with h2
  subst h2
  simp at h3
def errM (C a : Addr) : MO := .raw (ExT a (.ref C) none)
theorem errM_ok {μ : Mu} {H : Hp} {C a : Addr} (h : H a = some (ExT a (.ref C) none)) : MOk K μ H a (errM C a) := ⟨h, fun _ => by unfold ExT; exact nofun, exT_noCode _ _, _, rfl⟩
def wErr (C : Addr) : WE := fun _ μ _ Φ => ∀ a, μ a = none → Φ (.ref a) (μ.set a (errM C a))
theorem ve_err {E : XK} {C : Addr} {bmB : List Value} {B newId initId : String} {x : Str} {e : Expr} {v : V} {p pos : Pos} (F : ExcBaseFacts B newId initId bmB) (q : PySem.W.excIn X.K C bmB newId = true) (gC : X.mg x = some (.ref C)) (kC : PySem.W.keepIn X.K (.ref C) = true) (hg : Gl X x)
    (he : PE X e (tC v)) (hs : starEach [e] X.env = (false, eval e X.env) :: starEach [] X.env := by rfl) (hdb : (x == ("__debug__" : Str)) = false := by decide) : PE X (.Call (.Name x p) [e] [] pos) (up X.K T E (wErr C)) :=
  pe_mono (pe_excT F q gC kC hg he hs hdb) fun σ H Q ⟨ρ, μ, ev, Φ, en, st, xo, h, k⟩ a na => by
    have st1 := st.newM (m := errM C a) na (errM_ok (K := X.K) upd_same)
    exact k _ _ _ _ (h a (st.free na)) (.ref a) st1 (step_newM na)
/-! ### isinstance -/
inductive ClsD : D → Value → Prop where
  | ty (n : String) : ClsD (.ty n) (.type n)
  | own (C : Addr) : ClsD (.ref C) (.ref C)
def vIsX3 (K : PySem.W.Frag) : VL_ := fun xs μ Φ => ∃ x c D cv b, xs = [x, c] ∧ ((∃ ns ds, x = .exc D ns ds) ∨ ∃ a, x = .ref a ∧ μ a = some (errM D a)) ∧ ExcC K D ∧ ClsD c cv ∧ PySem.W.kitOne K (.ref D) cv = some b ∧ Φ (.bl b) μ
/-- of a plain value, or of an exception -/
def vIsF (K : PySem.W.Frag) : VL_ := fun xs μ Φ => vIsi xs μ Φ ∨ vIsX3 K xs μ Φ
theorem clsD_is {μ : Mu} {H : Hp} {v : V} {c : D} {cv : Value} (h : ClsD c cv) (i : Is K μ H v c) : ClsV v cv := by
  cases h <;> cases i
  · exact .ty _
  · exact .own _
theorem s_isF : SimL K T (rIsA K) (vIsF K) := fun xs vs μ H Φ Q ia st h k => by
  rcases h with h | ⟨x, c, D', cv, b, e, hx, eC, hc, kb, q⟩
  · exact .inl (s_isi xs vs μ H Φ Q ia st h k)
  · subst e
    cases ia with
    | cons ix ia => cases ia with
      | cons iy ia =>
        cases ia
        have kc := clsD_is hc iy
        rcases hx with ⟨ns, ds, rfl⟩ | ⟨a, rfl, ha⟩
        · cases ix with
          | exc m h m2 h2 l i => exact .inr ⟨_, _, _, _, _, b, rfl, h, eC, .inr ⟨_, _, rfl, h2⟩, kc, kb, k.now q (.bl b) st⟩
        · cases ix
          exact .inr ⟨_, _, _, _, _, b, rfl, (st.mo _ _ ha).1, eC, .inl rfl, kc, kb, k.now q (.bl b) st⟩
/-- isinstance(e, (c1, ..)), e an exception that is kept, the classes built-in ones -/
def rIsXK (K : PySem.W.Frag) : List V → Hp → VK → Prop := fun xs H Q => ∃ (a tp D : Addr) (d dd : Option Addr) (us : List Value) (n : Nat) (sl : Array (Option Value)) (b : Bool), xs = [.ref a, .ref tp] ∧ K.lookup tp = some ⟨.type "tuple", dd, .seq us.toArray n, sl⟩ ∧ H a = some (ExT a (.ref D) d) ∧ ExcC K D ∧
  (d = none ∨ ∃ (d2 : Addr) (fs : List (Str × V)), d = some d2 ∧ H d2 = some (.xd fs)) ∧ PySem.W.kitAny K (.ref D) us = some b ∧ Q (.bl b) H
theorem call_isXK : CallR X (.builtin "isinstance") (rIsXK X.K) := by
  intro pins s σ H xs us Q I r h
  obtain ⟨a, tp, D, d, dd, ws, n, sl, b, rfl, hk, e, C, hd, q1, q⟩ := h
  obtain ⟨u1, u2, rfl, r1, r2⟩ := vals2 r
  cases (show u1 = Value.ref a from r1)
  cases (show u2 = Value.ref tp from r2)
  obtain ⟨ox, od, J⟩ := inst_of I e hd
  exact PySem.W.kia_tup (PySem.W.fw_kitx C) I.kIn J (I.kIn _ _ hk) q1 (fun z => nomatch z) fun tk => ⟨.bl b, H, I.tok tk, rfl, q⟩
def rIsXTK (K : PySem.W.Frag) : List V → Hp → VK → Prop := fun xs H Q => rIsXT K xs H Q ∨ rIsXK K xs H Q
theorem call_isXTK : CallR X (.builtin "isinstance") (rIsXTK X.K) := by
  intro pins s σ H xs us Q I r h
  rcases h with h | h
  · exact call_isXT pins s σ H xs us Q I r h
  · exact call_isXK pins s σ H xs us Q I r h
def vIsXT (K : PySem.W.Frag) : VL_ := fun xs μ Φ => ∃ C ns ds ts b, xs = [.exc C ns ds, .tup ((ts : List String).map .ty)] ∧ ExcC K C ∧ PySem.W.kitAny K (.ref C) (ts.map .type) = some b ∧ Φ (.bl b) μ
theorem s_isXT : SimL K T (rIsXTK K) (vIsXT K) := fun xs vs μ H Φ Q ia st ⟨C, ns, ds, ts, b, e, eC, kb, q⟩ k => by
  subst e
  cases ia with
  | cons ix ia => cases ia with
    | cons iy ia =>
      cases ia
      cases ix with
      | exc m h m2 h2 l i =>
        cases iy with
        | tup at_ iv =>
          have pc := vs_tys iv
          rcases at_ with ⟨_, ht⟩ | sq
          · exact .inl ⟨_, _, _, _, _, _, b, rfl, ht, pc, h, eC, .inr ⟨_, _, rfl, h2⟩, kb, k.now q (.bl b) st⟩
          · rcases sq with rd | ⟨o, its, n, lk, oc, od, sz, rv⟩
            · exact absurd rd (by rintro (z | ⟨u, z⟩) <;> cases z)
            · obtain ⟨cls, dct, dt, sl⟩ := o
              dsimp only at oc od
              subst oc od
              have e3 := paired_val pc rv
              exact .inr ⟨_, _, _, _, dct, ts.map .type, n, sl, b, rfl, by rw [lk, ← e3], h, eC, .inr ⟨_, _, rfl, h2⟩, kb, k.now q (.bl b) st⟩
end
end VL

set_option maxRecDepth 100000
set_option maxHeartbeats 4000000
/-! own exceptions: what a program's facts tell of how they are made, by place and by name; of one field and of two -/
namespace VL
open PySem L2 FW PyProof.Rows
section
variable {P : Program} {w : World} {K : PySem.W.Frag} {mg : Str → Option Value} {base : Heap} {x f g : Str}
theorem exnK_of (h : exnB K x f = true) (gx : mg x = some (.ref (He.ga K x)))
    (init : ∃ (fd : FuncData) (ps : List Str), FnOk P w K mg base CX0 1 (He.ma K (He.ga K x) "__init__") fd ps (spInit1 K (He.ga K x) f) ∧ Binds K fd ps [] ∧ KBn K fd ps 1 [f] (fun us ws => us ++ ws) (fun vs zs => vs ++ zs)) : ExnK P w K mg base x f (He.ga K x) := by
  obtain ⟨fd, ps, F, b, kb⟩ := init
  have E := exnB_ok h gx ⟨fd, ps, F, b⟩
  unfold exnB at h
  simp only [Bool.and_eq_true, decide_eq_true_eq] at h
  obtain ⟨_, _, _, _, _, _, _, _, _, _, h11, h12⟩ := h
  exact ⟨E, _, fd, ps, _, _, h11, h12, F, kb, fun a v => rfl⟩
theorem exn2_of (h : exnB K x f = true) (hg : PySem.W.findIn K (.ref (He.ga K x)) g = some none) (gx : mg x = some (.ref (He.ga K x)))
    (init : ∃ (fd : FuncData) (ps : List Str), FnOk P w K mg base CX0 1 (He.ma K (He.ga K x) "__init__") fd ps (spInit2 K (He.ga K x) f g) ∧ Binds K fd ps [] ∧ KBn K fd ps 1 [g, f] (fun us ws => us ++ ws.reverse) (fun vs zs => vs ++ zs.reverse)) : Exn2 P w K mg base x f g (He.ga K x) := by
  obtain ⟨fd, ps, F, b, kb⟩ := init
  unfold exnB at h
  simp only [Bool.and_eq_true, decide_eq_true_eq] at h
  obtain ⟨h1, h2, h3, h4, h5, h6, h7, h8, h9, h10, h11, h12⟩ := h
  have xf := xfB_ok h6
  exact ⟨⟨oexB_ok h1, h2, xf.exC, h3, h4⟩, gx, h5, hg, xf, ⟨xf.ga, xf.gg, xf.exC, xf.hdC, h7, h8, h9, h10⟩, ⟨_, fd, ps, h11, h12, F, b⟩, ⟨_, fd, ps, _, _, h11, h12, F, kb, fun a u v => rfl⟩⟩
theorem init2_ok {qual : Str} {st : Stmt} {a C : Addr} {fd : FuncData} {p q : Str} (F : Fun K "__init__" qual st a fd) (S : FnScope [("self" : Str), p, q] [("self" : Str), p, q] (defScope st))
    (body : ∀ X : Cx, X.N = [("self" : Str), p, q] → X.env.scope = defScope st → PSs X (defBody st) (tSeq (tOst X.K f (tVar 0) (tVar 1)) (tOst X.K g (tVar 0) (tVar 2)))) : FnOk P w K mg base CX0 1 a fd [("self" : Str), p, q] (spInit2 K C f g) := by
  refine F.ok S (fun vs H Q E h => ?_) (fun cdv A outer s H vs Q E hr h => ⟨_, body _ rfl rfl, ?_⟩)
  · obtain ⟨a, v, u, rfl, _⟩ := h; rfl
  · obtain ⟨a, v, u, rfl, T, no, no2, ha, k⟩ := h
    refine ⟨v, rfl, .ref a, rfl, a, C, rfl, T, no, .inl ⟨ha, fun dx n1 n2 => ?_⟩⟩
    exact ⟨u, rfl, .ref a, rfl, a, C, rfl, T, no2, .inr ⟨dx, [(f, v)], upd_same, by rw [upd_ne n2, upd_same], by show 1 ≤ 900; decide, k dx n1 n2⟩⟩
end
/-- of an own exception without __init__ -/
def excB (K : PySem.W.Frag) (x : Str) : Bool := xfB K (He.ga K x) && (decide (PySem.W.findIn K (.ref (He.ga K x)) "__class__" = some (some (.builtin "object.__class__"))) &&
  (decide (PySem.W.specialIn K (.builtin "object.__class__") "__get__" = some (some (.builtin "getset_descriptor.__get__"))) && (decide (PySem.W.takesIn K (.builtin "object.__class__") = some true) && decide (PySem.W.mroIn K (He.ga K x) (.type "object") = some true))))
theorem excB_ok {K : PySem.W.Frag} {x : Str} (h : excB K x = true) : ExcC K (He.ga K x) := by
  unfold excB at h
  simp only [Bool.and_eq_true, decide_eq_true_eq] at h
  obtain ⟨h6, h7, h8, h9, h10⟩ := h
  have xf := xfB_ok h6
  exact ⟨xf.ga, xf.gg, xf.exC, xf.hdC, h7, h8, h9, h10⟩
end VL

set_option maxRecDepth 100000
set_option maxHeartbeats 4000000
namespace K00
open PySem L2 FW VL
def top (i : Nat) : Stmt := PySem.Challenge.pw_fairweather_k00_errors_and_plain_values.main.body.getD i (.Pass ⟨0, 0, 0, 0⟩)
abbrev s_is_list : Stmt := top 3
def N_is_list : List Str := ["value"]
theorem sc_is_list : FnScope N_is_list ["value"] (defScope s_is_list) := ⟨rfl, rfl, rfl, by decide +kernel, rfl, by decide +kernel, by decide +kernel⟩
abbrev s_is_integer : Stmt := top 4
def N_is_integer : List Str := ["value"]
theorem sc_is_integer : FnScope N_is_integer ["value"] (defScope s_is_integer) := ⟨rfl, rfl, rfl, by decide +kernel, rfl, by decide +kernel, by decide +kernel⟩
abbrev s_is_within : Stmt := top 5
def N_is_within : List Str := ["value", "least", "most"]
theorem sc_is_within : FnScope N_is_within ["value", "least", "most"] (defScope s_is_within) := ⟨rfl, rfl, rfl, by decide +kernel, rfl, by decide +kernel, by decide +kernel⟩
abbrev s_are_integers : Stmt := top 6
def N_are_integers : List Str := ["value", "item"]
theorem sc_are_integers : FnScope N_are_integers ["value"] (defScope s_are_integers) := ⟨rfl, rfl, rfl, by decide +kernel, rfl, by decide +kernel, by decide +kernel⟩
abbrev s_is_lot : Stmt := top 7
def N_is_lot : List Str := ["value", "many", "least", "number"]
theorem sc_is_lot : FnScope N_is_lot ["value", "many"] (defScope s_is_lot) := ⟨rfl, rfl, rfl, by decide +kernel, rfl, by decide +kernel, by decide +kernel⟩
abbrev s_is_short : Stmt := top 8
def N_is_short : List Str := ["value"]
theorem sc_is_short : FnScope N_is_short ["value"] (defScope s_is_short) := ⟨rfl, rfl, rfl, by decide +kernel, rfl, by decide +kernel, by decide +kernel⟩
abbrev s_are_shorts : Stmt := top 9
def N_are_shorts : List Str := ["value", "many", "item"]
theorem sc_are_shorts : FnScope N_are_shorts ["value", "many"] (defScope s_are_shorts) := ⟨rfl, rfl, rfl, by decide +kernel, rfl, by decide +kernel, by decide +kernel⟩
abbrev s__law_cloud : Stmt := top 26
def N__law_cloud : List Str := ["_law_script", "_law_cell"]
theorem sc__law_cloud : FnScope N__law_cloud ["_law_script"] (defScope s__law_cloud) := ⟨rfl, rfl, rfl, by decide +kernel, rfl, by decide +kernel, by decide +kernel⟩
abbrev s__law_drop : Stmt := top 27
def N__law_drop : List Str := ["_law_cloud_here", "_law_many", "_law_rest", "_law_at", "_law_cell", "_law_mixed"]
theorem sc__law_drop : FnScope N__law_drop ["_law_cloud_here", "_law_many"] (defScope s__law_drop) := ⟨rfl, rfl, rfl, by decide +kernel, rfl, by decide +kernel, by decide +kernel⟩
abbrev s__law_one_of : Stmt := top 28
def N__law_one_of : List Str := ["_law_cloud_here", "_law_some"]
theorem sc__law_one_of : FnScope N__law_one_of ["_law_cloud_here", "_law_some"] (defScope s__law_one_of) := ⟨rfl, rfl, rfl, by decide +kernel, rfl, by decide +kernel, by decide +kernel⟩
abbrev s__law_any : Stmt := top 29
def N__law_any : List Str := ["_law_cloud_here", "_law_number", "_law_some"]
theorem sc__law_any : FnScope N__law_any ["_law_cloud_here"] (defScope s__law_any) := ⟨rfl, rfl, rfl, by decide +kernel, rfl, by decide +kernel, by decide +kernel⟩
abbrev s__law_kin : Stmt := top 30
def N__law_kin : List Str := ["_law_error", "_law_told"]
theorem sc__law_kin : FnScope N__law_kin ["_law_error"] (defScope s__law_kin) := ⟨rfl, rfl, rfl, by decide +kernel, rfl, by decide +kernel, by decide +kernel⟩
abbrev s__law_stands : Stmt := top 31
def N__law_stands : List Str := ["_law_error", "_law_at", "_law_spot"]
theorem sc__law_stands : FnScope N__law_stands ["_law_error", "_law_at"] (defScope s__law_stands) := ⟨rfl, rfl, rfl, by decide +kernel, rfl, by decide +kernel, by decide +kernel⟩
abbrev s__law_errors_right : Stmt := top 32
def N__law_errors_right : List Str := ["_law_one", "_law_other", "_law_made", "_law_named", "_law_at", "_law_error"]
theorem sc__law_errors_right : FnScope N__law_errors_right ["_law_one", "_law_other"] (defScope s__law_errors_right) := ⟨rfl, rfl, rfl, by decide +kernel, rfl, by decide +kernel, by decide +kernel⟩
abbrev s__law_is_integer : Stmt := top 33
def N__law_is_integer : List Str := ["_law_value"]
theorem sc__law_is_integer : FnScope N__law_is_integer ["_law_value"] (defScope s__law_is_integer) := ⟨rfl, rfl, rfl, by decide +kernel, rfl, by decide +kernel, by decide +kernel⟩
abbrev s__law_numbers_right : Stmt := top 34
def N__law_numbers_right : List Str := ["_law_cloud_here", "_law_edge", "_law_number", "_law_odd", "_law_low", "_law_high", "_law_told"]
theorem sc__law_numbers_right : FnScope N__law_numbers_right ["_law_cloud_here"] (defScope s__law_numbers_right) := ⟨rfl, rfl, rfl, by decide +kernel, rfl, by decide +kernel, by decide +kernel⟩
abbrev s__law_rows_right : Stmt := top 35
def N__law_rows_right : List Str := ["_law_cloud_here", "_law_row", "_law_new", "_law_at", "_law_many", "_law_bent", "_law_whole", "_law_short", "_law_told", "_law_turn"]
theorem sc__law_rows_right : FnScope N__law_rows_right ["_law_cloud_here"] (defScope s__law_rows_right) := ⟨rfl, rfl, rfl, by decide +kernel, rfl, by decide +kernel, by decide +kernel⟩
abbrev s__law_lots_right : Stmt := top 36
def N__law_lots_right : List Str := ["_law_cloud_here", "_law_many", "_law_lot", "_law_rows", "_law_at", "_law_row", "_law_due", "_law_odd", "_law_each"]
theorem sc__law_lots_right : FnScope N__law_lots_right ["_law_cloud_here"] (defScope s__law_lots_right) := ⟨rfl, rfl, rfl, by decide +kernel, rfl, by decide +kernel, by decide +kernel⟩
abbrev s_law : Stmt := top 37
def N_law : List Str := ["_law_script", "_law_cloud_here", "_law_turn"]
theorem sc_law : FnScope N_law ["_law_script"] (defScope s_law) := ⟨rfl, rfl, rfl, by decide +kernel, rfl, by decide +kernel, by decide +kernel⟩
structure Txt (w : World) (K : PySem.W.Frag) (mg : Str → Option Value) : Prop where
  b_ArithmeticError : mg "ArithmeticError" = none
  b_AttributeError : mg "AttributeError" = none
  b_LookupError : mg "LookupError" = none
  b_RuntimeError : mg "RuntimeError" = none
  b_TypeError : mg "TypeError" = none
  b_ValueError : mg "ValueError" = none
  b_abs : mg "abs" = none
  b_all : mg "all" = none
  b_bool : mg "bool" = none
  b_int : mg "int" = none
  b_isinstance : mg "isinstance" = none
  b_len : mg "len" = none
  b_list : mg "list" = none
  b_range : mg "range" = none
  b_repr : mg "repr" = none
  b_str : mg "str" = none
  b_tuple : mg "tuple" = none
  g_BadCode : mg "BadCode" = some (.ref (He.ga K "BadCode"))
  g_BadEvent : mg "BadEvent" = some (.ref (He.ga K "BadEvent"))
  g_BadNet : mg "BadNet" = some (.ref (He.ga K "BadNet"))
  g_BadNumber : mg "BadNumber" = some (.ref (He.ga K "BadNumber"))
  g_BadPaper : mg "BadPaper" = some (.ref (He.ga K "BadPaper"))
  g_BadProgram : mg "BadProgram" = some (.ref (He.ga K "BadProgram"))
  g_BadStanding : mg "BadStanding" = some (.ref (He.ga K "BadStanding"))
  g_BadText : mg "BadText" = some (.ref (He.ga K "BadText"))
  g_BadWorld : mg "BadWorld" = some (.ref (He.ga K "BadWorld"))
  g_LEAST_SHORT : ∃ u, mg "LEAST_SHORT" = some u ∧ RelV (.int (-2147483648)) u
  g_MOST_SHORT : ∃ u, mg "MOST_SHORT" = some u ∧ RelV (.int (2147483647)) u
  g_Misfit : mg "Misfit" = some (.ref (He.ga K "Misfit"))
  g_TooMany : mg "TooMany" = some (.ref (He.ga K "TooMany"))
  g_Twice : mg "Twice" = some (.ref (He.ga K "Twice"))
  g_Unknown : mg "Unknown" = some (.ref (He.ga K "Unknown"))
  g_WeatherError : mg "WeatherError" = some (.ref (He.ga K "WeatherError"))
  g__law_any : mg "_law_any" = some (.ref (He.ga K "_law_any"))
  g__law_cloud : mg "_law_cloud" = some (.ref (He.ga K "_law_cloud"))
  g__law_drop : mg "_law_drop" = some (.ref (He.ga K "_law_drop"))
  g__law_errors_right : mg "_law_errors_right" = some (.ref (He.ga K "_law_errors_right"))
  g__law_is_integer : mg "_law_is_integer" = some (.ref (He.ga K "_law_is_integer"))
  g__law_kin : mg "_law_kin" = some (.ref (He.ga K "_law_kin"))
  g__law_lots_right : mg "_law_lots_right" = some (.ref (He.ga K "_law_lots_right"))
  g__law_numbers_right : mg "_law_numbers_right" = some (.ref (He.ga K "_law_numbers_right"))
  g__law_one_of : mg "_law_one_of" = some (.ref (He.ga K "_law_one_of"))
  g__law_rows_right : mg "_law_rows_right" = some (.ref (He.ga K "_law_rows_right"))
  g__law_stands : mg "_law_stands" = some (.ref (He.ga K "_law_stands"))
  g_are_integers : mg "are_integers" = some (.ref (He.ga K "are_integers"))
  g_are_shorts : mg "are_shorts" = some (.ref (He.ga K "are_shorts"))
  g_is_integer : mg "is_integer" = some (.ref (He.ga K "is_integer"))
  g_is_list : mg "is_list" = some (.ref (He.ga K "is_list"))
  g_is_lot : mg "is_lot" = some (.ref (He.ga K "is_lot"))
  g_is_short : mg "is_short" = some (.ref (He.ga K "is_short"))
  g_is_within : mg "is_within" = some (.ref (He.ga K "is_within"))
  f_is_list : ∃ fd, FunD K "is_list" "is_list" (defArgs s_is_list) (defBody s_is_list) (defScope s_is_list) [] [] (He.ga K "is_list") fd
  f_is_integer : ∃ fd, FunD K "is_integer" "is_integer" (defArgs s_is_integer) (defBody s_is_integer) (defScope s_is_integer) [] [] (He.ga K "is_integer") fd
  f_is_within : ∃ fd, FunD K "is_within" "is_within" (defArgs s_is_within) (defBody s_is_within) (defScope s_is_within) [] [] (He.ga K "is_within") fd
  f_are_integers : ∃ fd, FunD K "are_integers" "are_integers" (defArgs s_are_integers) (defBody s_are_integers) (defScope s_are_integers) [] [] (He.ga K "are_integers") fd
  f_is_lot : ∃ fd, FunD K "is_lot" "is_lot" (defArgs s_is_lot) (defBody s_is_lot) (defScope s_is_lot) [] [] (He.ga K "is_lot") fd
  f_is_short : ∃ fd, FunD K "is_short" "is_short" (defArgs s_is_short) (defBody s_is_short) (defScope s_is_short) [] [] (He.ga K "is_short") fd
  f_are_shorts : ∃ fd, FunD K "are_shorts" "are_shorts" (defArgs s_are_shorts) (defBody s_are_shorts) (defScope s_are_shorts) [] [] (He.ga K "are_shorts") fd
  f__law_cloud : ∃ fd, FunD K "_law_cloud" "_law_cloud" (defArgs s__law_cloud) (defBody s__law_cloud) (defScope s__law_cloud) [] [] (He.ga K "_law_cloud") fd
  f__law_drop : ∃ fd, FunD K "_law_drop" "_law_drop" (defArgs s__law_drop) (defBody s__law_drop) (defScope s__law_drop) [] [] (He.ga K "_law_drop") fd
  f__law_one_of : ∃ fd, FunD K "_law_one_of" "_law_one_of" (defArgs s__law_one_of) (defBody s__law_one_of) (defScope s__law_one_of) [] [] (He.ga K "_law_one_of") fd
  f__law_any : ∃ fd, FunD K "_law_any" "_law_any" (defArgs s__law_any) (defBody s__law_any) (defScope s__law_any) [] [] (He.ga K "_law_any") fd
  f__law_kin : ∃ fd, FunD K "_law_kin" "_law_kin" (defArgs s__law_kin) (defBody s__law_kin) (defScope s__law_kin) [] [] (He.ga K "_law_kin") fd
  f__law_stands : ∃ fd, FunD K "_law_stands" "_law_stands" (defArgs s__law_stands) (defBody s__law_stands) (defScope s__law_stands) [] [] (He.ga K "_law_stands") fd
  f__law_errors_right : ∃ fd, FunD K "_law_errors_right" "_law_errors_right" (defArgs s__law_errors_right) (defBody s__law_errors_right) (defScope s__law_errors_right) [] [] (He.ga K "_law_errors_right") fd
  f__law_is_integer : ∃ fd, FunD K "_law_is_integer" "_law_is_integer" (defArgs s__law_is_integer) (defBody s__law_is_integer) (defScope s__law_is_integer) [] [] (He.ga K "_law_is_integer") fd
  f__law_numbers_right : ∃ fd, FunD K "_law_numbers_right" "_law_numbers_right" (defArgs s__law_numbers_right) (defBody s__law_numbers_right) (defScope s__law_numbers_right) [] [] (He.ga K "_law_numbers_right") fd
  f__law_rows_right : ∃ fd, FunD K "_law_rows_right" "_law_rows_right" (defArgs s__law_rows_right) (defBody s__law_rows_right) (defScope s__law_rows_right) [] [] (He.ga K "_law_rows_right") fd
  f__law_lots_right : ∃ fd, FunD K "_law_lots_right" "_law_lots_right" (defArgs s__law_lots_right) (defBody s__law_lots_right) (defScope s__law_lots_right) [] [] (He.ga K "_law_lots_right") fd
  f_law : ∃ fd, FunD K "law" "law" (defArgs s_law) (defBody s_law) (defScope s_law) [] [] (He.ga K "law") fd
  o_xk_BadNumber : ∀ {P : Program} {base : Heap}, ExnK P w K mg base "BadNumber" "part" (He.ga K "BadNumber")
  o_xk_BadNet : ∀ {P : Program} {base : Heap}, ExnK P w K mg base "BadNet" "part" (He.ga K "BadNet")
  o_xk_BadProgram : ∀ {P : Program} {base : Heap}, ExnK P w K mg base "BadProgram" "part" (He.ga K "BadProgram")
  o_xk_BadCode : ∀ {P : Program} {base : Heap}, ExnK P w K mg base "BadCode" "part" (He.ga K "BadCode")
  o_xk_BadStanding : ∀ {P : Program} {base : Heap}, ExnK P w K mg base "BadStanding" "part" (He.ga K "BadStanding")
  o_xk_BadWorld : ∀ {P : Program} {base : Heap}, ExnK P w K mg base "BadWorld" "part" (He.ga K "BadWorld")
  o_xk_BadEvent : ∀ {P : Program} {base : Heap}, ExnK P w K mg base "BadEvent" "part" (He.ga K "BadEvent")
  o_xk_BadPaper : ∀ {P : Program} {base : Heap}, ExnK P w K mg base "BadPaper" "part" (He.ga K "BadPaper")
  o_xk_Misfit : ∀ {P : Program} {base : Heap}, ExnK P w K mg base "Misfit" "part" (He.ga K "Misfit")
  o_xk_Twice : ∀ {P : Program} {base : Heap}, ExnK P w K mg base "Twice" "value" (He.ga K "Twice")
  o_xk_Unknown : ∀ {P : Program} {base : Heap}, ExnK P w K mg base "Unknown" "name" (He.ga K "Unknown")
  o_x2_TooMany : ∀ {P : Program} {base : Heap}, Exn2 P w K mg base "TooMany" "what" "most" (He.ga K "TooMany")
  o_xk_BadText : ∀ {P : Program} {base : Heap}, ExnK P w K mg base "BadText" "item" (He.ga K "BadText")
  o_kin : ∀ i j : Nat, i < 13 → j < 13 → PySem.W.kitOne K (.ref (He.ga K ((["BadNumber", "BadNet", "BadProgram", "BadCode", "BadStanding", "BadWorld", "BadEvent", "BadPaper", "Misfit", "Twice", "Unknown", "TooMany", "BadText"] : List Str).getD i ""))) (.ref (He.ga K ((["BadNumber", "BadNet", "BadProgram", "BadCode", "BadStanding", "BadWorld", "BadEvent", "BadPaper", "Misfit", "Twice", "Unknown", "TooMany", "BadText"] : List Str).getD j ""))) = some (decide (i = j))
  o_kinW : ∀ i : Nat, i < 13 → PySem.W.kitOne K (.ref (He.ga K ((["BadNumber", "BadNet", "BadProgram", "BadCode", "BadStanding", "BadWorld", "BadEvent", "BadPaper", "Misfit", "Twice", "Unknown", "TooMany", "BadText"] : List Str).getD i ""))) (.ref (He.ga K "WeatherError")) = some true
  o_kinV : ∀ i : Nat, i < 13 → PySem.W.kitOne K (.ref (He.ga K ((["BadNumber", "BadNet", "BadProgram", "BadCode", "BadStanding", "BadWorld", "BadEvent", "BadPaper", "Misfit", "Twice", "Unknown", "TooMany", "BadText"] : List Str).getD i ""))) (.type "ValueError") = some true
  o_kinX : ∀ i : Nat, i < 13 → PySem.W.kitAny K (.ref (He.ga K ((["BadNumber", "BadNet", "BadProgram", "BadCode", "BadStanding", "BadWorld", "BadEvent", "BadPaper", "Misfit", "Twice", "Unknown", "TooMany", "BadText"] : List Str).getD i ""))) ((["LookupError", "TypeError", "ArithmeticError", "AttributeError", "RuntimeError"] : List String).map .type) = some false
  o_kinE : ∀ j : Nat, j < 13 → PySem.W.kitOne K (.ref (He.ga K "WeatherError")) (.ref (He.ga K ((["BadNumber", "BadNet", "BadProgram", "BadCode", "BadStanding", "BadWorld", "BadEvent", "BadPaper", "Misfit", "Twice", "Unknown", "TooMany", "BadText"] : List Str).getD j ""))) = some false
  o_kinI : PySem.W.kitOne K (.ref (He.ga K "WeatherError")) (.type "int") = some false
  o_exW : ExcC K (He.ga K "WeatherError")
  o_xiW : PySem.W.excIn K (He.ga K "WeatherError") [.type "ValueError", .type "Exception", .type "BaseException", .type "object"] "ValueError.__new__" = true
  o_kpW : PySem.W.keepIn K (.ref (He.ga K "WeatherError")) = true
local macro_rules | `(tactic| walk_at "vr") => `(tactic| simp only [wLenSet, wFor, wSetF, wAugF, wAug, wBM, wProp, wHeld, wVar, wC, wZ, wOp, wUn, wNil, wCons, wStar, wCB, wTup, wLst, wLstM, wTest, wAnd, wOr, VL.wNot, wAndV, wOrV, wNotV, wIf, wChain, wNoPart, wPart, wSl, wName, wGNil, wGCons, wGTup, wSub, wNext, VL.wSeq, wAsg, wDrop, wRet, wRetN, wIfS, wBreak, wCont, wPar, vI0, vI, vU, vAdd, vSub, vMul, vMod, vFdiv, vPow, vLt, vLe, vGt, vGe, vNeg, vIsN, vNotN, vAddA, vMulA, VL.wTru, iwL, iwT, wLc, vstart, List.map_cons, List.map_nil, List.cons_append, List.nil_append, List.set_cons_zero, List.set_cons_succ, List.getElem?_cons_zero, List.getElem?_cons_succ, Option.some.injEq, exists_eq_left, exists_eq_left', exists_eq', D.bl.injEq, D.int.injEq, D.str.injEq, D.tup.injEq, D.ref.injEq, List.cons.injEq, and_true, true_and, List.length_cons, List.length_nil, List.replicate, D.ty.injEq, exists_and_left, List.length, Nat.reduceAdd, wCall, wMake, wMeth, wFld, argsD, argD, toArg, List.getD_cons_zero, List.getD_cons_succ, List.map, iwS, vTupOf, Bool.false_eq_true, if_false, if_true, reduceIte, List.getElem?_nil, Nat.reduceSub, wipeR, vLen_lst, vLen_tup, vEq_ii, vEq_ss, vEq_bb, vIx_lst, vIx_tup, vIn_strs, vIn_s2, vIn_s3, vAll_map, vInK_s, vIxK_s, vInt_i, vAbs_i, atI_0, atI_1, atI_2, Bool.not_true, Bool.not_false, seqOf_lst, seqOf_tup, lstOf_lst, tupOf_tup, fzL_lst, wForget, fgt, wLc2, wDc, iwZB, vRepS, vSlT, vSlA, wCKw, vStrQ, iwSg, wDGet2, iwZS, wMkX, wMkXK, wMkX2, wXt, wErr, wDic0, wDispK, wRevL, wListRg, N_is_list, N_is_integer, N_is_within, N_are_integers, N_is_lot, N_is_short, N_are_shorts, N__law_cloud, N__law_drop, N__law_one_of, N__law_any, N__law_kin, N__law_stands, N__law_errors_right, N__law_is_integer, N__law_numbers_right, N__law_rows_right, N__law_lots_right, N_law])
theorem vAddA_ii {μ : Mu} {Φ : WK} {i j : Int} : vAddA (.int i) (.int j) μ Φ ↔ Φ (.int (i + j)) μ := Iff.rfl
theorem vInt_bl {μ : Mu} {Φ : WK} {c : Bool} : vInt1 [.bl c] μ Φ ↔ Φ (.int (if c = true then 1 else 0)) μ := Iff.rfl
theorem vMulA_ii {μ : Mu} {Φ : WK} {i j : Int} : vMulA (.int i) (.int j) μ Φ ↔ CMul i j ∧ Φ (.int (i * j)) μ := Iff.rfl
local macro_rules | `(tactic| walk_at "wr") => `(tactic| simp only [vInt_bl, iwR1, iwR2, iwM, List.set_cons_succ, wLenSet, wFor, wSetF, wAugF, wAug, wBM, wProp, wHeld, wVar, wC, wZ, wOp, wUn, wNil, wCons, wStar, wCB, wTup, wLst, wLstM, wTest, wAnd, wOr, VL.wNot, wAndV, wOrV, wNotV, wIf, wChain, wNoPart, wPart, wSl, wName, wGNil, wGCons, wGTup, wSub, wNext, VL.wSeq, wAsg, wDrop, wRet, wRetN, wIfS, wBreak, wCont, wPar, vI0, vI, vU, vAdd, vSub, vMul, vMod, vFdiv, vPow, vLt, vLe, vGt, vGe, vNeg, vIsN, vNotN, vAddA_ii, vMulA_ii, VL.wTru, iwL, iwT, wLc, vstart, List.map_cons, List.map_nil, List.cons_append, List.nil_append, List.set_cons_zero, List.set_cons_succ, List.getElem?_cons_zero, List.getElem?_cons_succ, Option.some.injEq, exists_eq_left, exists_eq_left', exists_eq', D.bl.injEq, D.int.injEq, D.str.injEq, D.tup.injEq, D.ref.injEq, List.cons.injEq, and_true, true_and, List.length_cons, List.length_nil, List.replicate, D.ty.injEq, exists_and_left, List.length, Nat.reduceAdd, wCall, wMake, wMeth, wFld, argsD, argD, toArg, List.getD_cons_zero, List.getD_cons_succ, List.map, iwS, vTupOf, Bool.false_eq_true, if_false, if_true, reduceIte, List.getElem?_nil, Nat.reduceSub, wipeR, vLen_lst, vLen_tup, vEq_ii, vEq_ss, vEq_bb, vIx_lst, vIx_tup, vIn_strs, vIn_s2, vIn_s3, vAll_map, vInK_s, vIxK_s, vInt_i, vAbs_i, atI_0, atI_1, atI_2, Bool.not_true, Bool.not_false, seqOf_lst, seqOf_tup, lstOf_lst, tupOf_tup, fzL_lst, wForget, fgt, wLc2, wDc, iwZB, vRepS, vSlT, vSlA, wCKw, vStrQ, iwSg, wDGet2, iwZS, wMkX, wMkXK, wMkX2, wXt, wErr, wDic0, wDispK, wRevL, wListRg, N_is_list, N_is_integer, N_is_within, N_are_integers, N_is_lot, N_is_short, N_are_shorts, N__law_cloud, N__law_drop, N__law_one_of, N__law_any, N__law_kin, N__law_stands, N__law_errors_right, N__law_is_integer, N__law_numbers_right, N__law_rows_right, N__law_lots_right, N_law, ofStr_inj, ofStr_beq, String.reduceEq, decide_true, decide_false, Bool.or_false, Bool.or_true, Bool.false_or, Bool.true_or, Bool.and_true, Bool.and_false, Bool.true_and, Bool.false_and, vModN, iwE, iwEM])

theorem ite_sp {c : Bool} {A B : Prop} (h1 : c = true → A) (h2 : c = false → B) : if c = true then A else B := by cases c <;> simp_all
def sp_is_list : VSp := fun ds μ ev Φ => ∃ x, ds = [x] ∧ Kd μ x ∧ Φ (.bl (isLst μ x)) μ
theorem b_is_list {P : Program} {w : World} {K : PySem.W.Frag} {mg : Str → Option Value} {base : Heap} (T : Txt w K mg) : ∀ fd, FunD K "is_list" "is_list" (defArgs s_is_list) (defBody s_is_list) (defScope s_is_list) [] [] (He.ga K "is_list") fd → FnG P w K mg base CX0 1 (He.ga K "is_list") fd ["value"] (lift K [] (sp_is_list)) := by
  intro fd F
  refine fun_okD (N := N_is_list) F sc_is_list (fun ds μ ev Φ h => ?size) (fun cdv A outer s H E hG hr => ⟨_, (vss_one (vs_ret (ve_callB call_isiA s_isiT (by rfl) T.b_isinstance (by decide +kernel) (va_cons (vv 0) (va_cons (ve_tup (va_cons (ve_ty (n := "list") rfl T.b_list (by decide +kernel)) (va_cons (ve_ty (n := "tuple") rfl T.b_tuple (by decide +kernel)) va_nil))) va_nil))))), fun ds μ ev Φ h => ?_⟩)
  · obtain ⟨x, rfl, _⟩ := h; rfl
  · obtain ⟨x, rfl, hk, q⟩ := h
    walk_at "vr"
    exact ⟨by rw [sizeLine_eq]; decide, l_isiSeq hk q⟩
theorem c_is_list_1 {P : Program} {w : World} {K : PySem.W.Frag} {mg : Str → Option Value} {base : Heap} (T : Txt w K mg) : CanV P w K mg base CX0 [] 1 (He.ga K "is_list") 1 [] ([.inl 0].map (toArg [] [])) (sp_is_list) :=
  canV_of (ps := ["value"]) [.inl 0] T.f_is_list (b_is_list T) (fun _ _ _ _ _ _ us ws h1 h2 => match us, ws, h1, h2 with | [_], [], _, _ => rfl) (by decide)
theorem ty_int {μ : Mu} {x : D} (h : isTy μ x "int" = true) : ∃ i, x = .int i := by
  unfold isTy at h
  cases x <;> simp [tyD] at h <;> first | exact ⟨_, rfl⟩ | skip
  split at h <;> simp at h
/-- a plain value, or an own error without fields -/
def KdE (K : PySem.W.Frag) (μ : Mu) (x : D) : Prop := Kd μ x ∨ ∃ a, x = .ref a ∧ μ a = some (errM (He.ga K "WeatherError") a)
theorem err_ty {μ : Mu} {a C : Addr} {n : String} (h : μ a = some (errM C a)) : isTy μ (.ref a) n = false := by
  have e : tyD μ (.ref a) = none := by simp only [tyD, h, errM]
  unfold isTy
  rw [e]
  rfl
def sp_is_integer (K : PySem.W.Frag) : VSp := fun ds μ ev Φ => ∃ x, ds = [x] ∧ KdE K μ x ∧ Φ (.bl (isTy μ x "int")) μ
theorem b_is_integer {P : Program} {w : World} {K : PySem.W.Frag} {mg : Str → Option Value} {base : Heap} (T : Txt w K mg) : ∀ fd, FunD K "is_integer" "is_integer" (defArgs s_is_integer) (defBody s_is_integer) (defScope s_is_integer) [] [] (He.ga K "is_integer") fd → FnG P w K mg base CX0 1 (He.ga K "is_integer") fd ["value"] (lift K [] (sp_is_integer K)) := by
  intro fd F
  refine fun_okD (N := N_is_integer) F sc_is_integer (fun ds μ ev Φ h => ?size) (fun cdv A outer s H E hG hr => ⟨_, (vss_one (vs_ret (ve_and (ve_callB call_isA s_isF (by rfl) T.b_isinstance (by decide +kernel) (va_cons (vv 0) (va_cons (ve_ty (n := "int") rfl T.b_int (by decide +kernel)) va_nil))) (ve_one (ve_not (ve_callB call_isA s_isF (by rfl) T.b_isinstance (by decide +kernel) (va_cons (vv 0) (va_cons (ve_ty (n := "bool") rfl T.b_bool (by decide +kernel)) va_nil)))))))), fun ds μ ev Φ h => ?_⟩)
  · obtain ⟨x, rfl, _⟩ := h; rfl
  · obtain ⟨x, rfl, hk, q⟩ := h
    rcases hk with hk | ⟨a, rfl, ha⟩
    · walk_at "vr"
      refine .inl (l_isiInt hk ?_)
      walk_at "vr"
      refine ite_sp (fun h1 => .inl (l_isi "bool" hk (.inr rfl) ?_)) (fun h1 => ?_)
      · walk_at "vr"
        obtain ⟨t, ht⟩ := hk
        unfold isTy at h1 q ⊢
        rw [ht] at h1 q ⊢
        rcases ty_mem ht with rfl | rfl | rfl | rfl | rfl | rfl | rfl <;> first | exact q | simp at h1
      · rw [Bool.or_eq_false_iff] at h1
        rw [h1.1] at q
        exact q
    · rw [err_ty ha] at q
      walk_at "vr"
      refine .inr ⟨_, _, _, _, false, rfl, .inr ⟨a, rfl, ha⟩, T.o_exW, .ty "int", T.o_kinI, ?_⟩
      walk_at "vr"
      exact q
theorem c_is_integer_1 {P : Program} {w : World} {K : PySem.W.Frag} {mg : Str → Option Value} {base : Heap} (T : Txt w K mg) : CanV P w K mg base CX0 [] 1 (He.ga K "is_integer") 1 [] ([.inl 0].map (toArg [] [])) (sp_is_integer K) :=
  canV_of (ps := ["value"]) [.inl 0] T.f_is_integer (b_is_integer T) (fun _ _ _ _ _ _ us ws h1 h2 => match us, ws, h1, h2 with | [_], [], _, _ => rfl) (by decide)
theorem c_is_integer_0_value {P : Program} {w : World} {K : PySem.W.Frag} {mg : Str → Option Value} {base : Heap} (T : Txt w K mg) : CanV P w K mg base CX0 [] 1 (He.ga K "is_integer") 0 ["value"] ([.inl 0].map (toArg [] [])) (sp_is_integer K) :=
  canV_of (ps := ["value"]) [.inl 0] T.f_is_integer (b_is_integer T) (fun _ _ _ _ _ _ us ws h1 h2 => match us, ws, h1, h2 with | [], [_], _, _ => rfl) (by decide)
def ofO : Option Int → D
  | none => .non
  | some i => .int i
def within (x : D) (lo hi : Option Int) : Bool := match x with
  | .int i => (match lo with | some l => decide (l ≤ i) | none => true) && (match hi with | some h => decide (i ≤ h) | none => true)
  | _ => false
theorem within_no {μ : Mu} {x : D} {lo hi : Option Int} (h : isTy μ x "int" = false) : within x lo hi = false := by cases x <;> first | rfl | simp [isTy, tyD] at h
def sp_is_within (K : PySem.W.Frag) : VSp := fun ds μ ev Φ => ∃ x lo hi, ds = [x, ofO lo, ofO hi] ∧ KdE K μ x ∧ Φ (.bl (within x lo hi)) μ
theorem b_is_within {P : Program} {w : World} {K : PySem.W.Frag} {mg : Str → Option Value} {base : Heap} (T : Txt w K mg) : ∀ fd, FunD K "is_within" "is_within" (defArgs s_is_within) (defBody s_is_within) (defScope s_is_within) [] [] (He.ga K "is_within") fd → FnG P w K mg base CX0 2 (He.ga K "is_within") fd ["value", "least", "most"] (lift K [] (sp_is_within K)) := by
  intro fd F
  refine fun_okD (N := N_is_within) F sc_is_within (fun ds μ ev Φ h => ?size) (fun cdv A outer s H E hG hr => ⟨_, (vss_cons (vs_if (vt_not (vt_val (ve_call T.g_is_integer (c_is_integer_1 T) hG hr (by decide) pass0 sel_0 rfl (va_cons (vv 0) va_nil) vk_nil)))
 (vss_one (vs_ret ve_bl))
 vss_nil)
 (vss_cons (vs_if (PW.pt (vw_and (vt_notN (vv 1)) (vw_and1 (vt_cmp op_lt s_lt (vv 0) (vv 1) (nomark _)))))
 (vss_one (vs_ret ve_bl))
 vss_nil)
 (vss_one (vs_ret (ve_or (ve_isN (vv 2)) (ve_one (ve_cmp op_le s_le (vv 0) (vv 2) (nomark _)))))))), fun ds μ ev Φ h => ?_⟩)
  · obtain ⟨x, lo, hi, rfl, _⟩ := h; rfl
  · obtain ⟨x, lo, hi, rfl, hk, q⟩ := h
    walk_at "vr"
    refine ⟨x, rfl, hk, ?_⟩
    walk_at "vr"
    cases hi1 : isTy μ x "int" with
    | false => rw [within_no hi1] at q; exact q
    | true =>
      obtain ⟨i, rfl⟩ := ty_int hi1
      cases lo with
      | none =>
        cases hi with
        | none => simpa [ofO, VL.isNon, within] using q
        | some h => simpa [ofO, VL.isNon, within] using q
      | some l =>
        by_cases hl : i < l
        · have : within (.int i) (some l) hi = false := by simp [within]; intro h; omega
          rw [this] at q
          simpa [ofO, VL.isNon, hl] using q
        · have e : decide (l ≤ i) = true := by simp; omega
          cases hi with
          | none => simp only [within, e] at q; simpa [ofO, VL.isNon, hl] using q
          | some h => simp only [within, e] at q; simpa [ofO, VL.isNon, hl] using q
theorem c_is_within_3 {P : Program} {w : World} {K : PySem.W.Frag} {mg : Str → Option Value} {base : Heap} (T : Txt w K mg) : CanV P w K mg base CX0 [] 2 (He.ga K "is_within") 3 [] ([.inl 0, .inl 1, .inl 2].map (toArg [] [])) (sp_is_within K) :=
  canV_of (ps := ["value", "least", "most"]) [.inl 0, .inl 1, .inl 2] T.f_is_within (b_is_within T) (fun _ _ _ _ _ _ us ws h1 h2 => match us, ws, h1, h2 with | [_, _, _], [], _, _ => rfl) (by decide)
theorem c_is_within_0_value_least_most {P : Program} {w : World} {K : PySem.W.Frag} {mg : Str → Option Value} {base : Heap} (T : Txt w K mg) : CanV P w K mg base CX0 [] 2 (He.ga K "is_within") 0 ["value", "least", "most"] ([.inl 0, .inl 1, .inl 2].map (toArg [] [])) (sp_is_within K) :=
  canV_of (ps := ["value", "least", "most"]) [.inl 0, .inl 1, .inl 2] T.f_is_within (b_is_within T) (fun _ _ _ _ _ _ us ws h1 h2 => match us, ws, h1, h2 with | [], [_, _, _], _, _ => rfl) (by decide)
def isSh (x : D) : Bool := within x (some (-2147483648)) (some 2147483647)
def sp_is_short (K : PySem.W.Frag) : VSp := fun ds μ ev Φ => ∃ x, ds = [x] ∧ KdE K μ x ∧ Φ (.bl (isSh x)) μ
theorem b_is_short {P : Program} {w : World} {K : PySem.W.Frag} {mg : Str → Option Value} {base : Heap} (T : Txt w K mg) : ∀ fd, FunD K "is_short" "is_short" (defArgs s_is_short) (defBody s_is_short) (defScope s_is_short) [] [] (He.ga K "is_short") fd → FnG P w K mg base CX0 3 (He.ga K "is_short") fd ["value"] (lift K [] (sp_is_short K)) := by
  intro fd F
  refine fun_okD (N := N_is_short) F sc_is_short (fun ds μ ev Φ h => ?size) (fun cdv A outer s H E hG hr => ⟨_, (vss_one (vs_ret (ve_call T.g_is_within (c_is_within_3 T) hG hr (by decide) pass0 sel_0 rfl (va_cons (vv 0) (va_cons (ve_gc rfl T.g_LEAST_SHORT fun _ _ => .int _) (va_cons (ve_gc rfl T.g_MOST_SHORT fun _ _ => .int _) va_nil))) vk_nil))), fun ds μ ev Φ h => ?_⟩)
  · obtain ⟨x, rfl, _⟩ := h; rfl
  · obtain ⟨x, rfl, hk, q⟩ := h
    walk_at "vr"
    exact ⟨x, some (-2147483648), some 2147483647, rfl, hk, q⟩
theorem c_is_short_1 {P : Program} {w : World} {K : PySem.W.Frag} {mg : Str → Option Value} {base : Heap} (T : Txt w K mg) : CanV P w K mg base CX0 [] 3 (He.ga K "is_short") 1 [] ([.inl 0].map (toArg [] [])) (sp_is_short K) :=
  canV_of (ps := ["value"]) [.inl 0] T.f_is_short (b_is_short T) (fun _ _ _ _ _ _ us ws h1 h2 => match us, ws, h1, h2 with | [_], [], _, _ => rfl) (by decide)
theorem c_is_short_0_value {P : Program} {w : World} {K : PySem.W.Frag} {mg : Str → Option Value} {base : Heap} (T : Txt w K mg) : CanV P w K mg base CX0 [] 3 (He.ga K "is_short") 0 ["value"] ([.inl 0].map (toArg [] [])) (sp_is_short K) :=
  canV_of (ps := ["value"]) [.inl 0] T.f_is_short (b_is_short T) (fun _ _ _ _ _ _ us ws h1 h2 => match us, ws, h1, h2 with | [], [_], _, _ => rfl) (by decide)
local macro_rules | `(tactic| walk_at "frz") => `(tactic| ((try walk_at "vr"); refine ⟨_, frzOf_lst Mu.same, ?_⟩; rw [Mu.del_set (by assumption)]))
theorem never {P : Prop} : (False → P) := False.elim
theorem sizeOk {n : Nat} (h : n ≤ 16777216) : n ≤ sizeLine := by rw [sizeLine_eq]; exact h
theorem Kd.set {μ : Mu} {x : D} {Ds : Addr} {m : MO} (h : Kd μ x) (n : μ Ds = none) : Kd (μ.set Ds m) x := by
  obtain ⟨t, e⟩ := id h
  exact ⟨t, (tyD_same (h.set_same n)).trans e⟩
def itemsOf (μ : Mu) (v : D) : List D := (seqOf μ v).getD []
/-- a value that may be judged as shorts -/
structure ShV (μ : Mu) (v : D) : Prop where
  kd : Kd μ v
  it : isLst μ v = true → ∃ ds, SeqA μ v ds ∧ ds.length ≤ 1000 ∧ ∀ d ∈ ds, Kd μ d
def isI (d : D) : Bool := match d with
  | .int _ => true
  | _ => false
theorem isTy_int {μ : Mu} {x : D} : isTy μ x "int" = isI x := by
  cases e : isTy μ x "int" with
  | true => obtain ⟨i, rfl⟩ := ty_int e; rfl
  | false => cases x <;> first | rfl | simp [isTy, tyD] at e
def intsB (μ : Mu) (v : D) : Bool := isLst μ v && (itemsOf μ v).all isI
def sp_are_integers : VSp := fun ds μ ev Φ => ∃ v, ds = [v] ∧ ShV μ v ∧ Φ (.bl (intsB μ v)) μ
theorem b_are_integers {P : Program} {w : World} {K : PySem.W.Frag} {mg : Str → Option Value} {base : Heap} (T : Txt w K mg) : ∀ fd, FunD K "are_integers" "are_integers" (defArgs s_are_integers) (defBody s_are_integers) (defScope s_are_integers) [] [] (He.ga K "are_integers") fd → FnG P w K mg base CX0 2 (He.ga K "are_integers") fd ["value"] (lift K [] (sp_are_integers)) := by
  intro fd F
  refine fun_okD (N := N_are_integers) F sc_are_integers (fun ds μ ev Φ h => ?size) (fun cdv A outer s H E hG hr => ⟨_, (vss_one (vs_ret (ve_and (ve_call T.g_is_list (c_is_list_1 T) hG hr (by decide) pass0 sel_0 rfl (va_cons (vv 0) va_nil) vk_nil) (ve_one (ve_callB (cr_all rfl) s_all (by rfl) T.b_all (by decide +kernel) (va_cons (ve_z (ve_lc (own := [("item", 1)]) (p := (.name 1)) rfl sc_are_integers.nd (vi_any (vv 0)) (blkOk_by (N := N_are_integers) (sc := defScope s_are_integers) (by decide +kernel)) (fun _ _ _ _ _ => pg_name (i := 1) sc_are_integers.nd rfl (Or.inl rfl)) (fun _ _ _ _ _ => vts_nil) (fun _ _ _ _ _ => (ve_call T.g_is_integer (c_is_integer_1 T) hG hr (by decide) pass0 sel_0 rfl (va_cons (vv 1) va_nil) vk_nil)) (by decide))) va_nil)))))), fun ds μ ev Φ h => ?_⟩)
  · obtain ⟨v, rfl, _⟩ := h; rfl
  · obtain ⟨v, rfl, hv, q⟩ := h
    walk_at "vr"
    refine ⟨v, rfl, hv.kd, ?_⟩
    walk_at "vr"
    cases h1 : isLst μ v with
    | false =>
      have e : intsB μ v = false := by unfold intsB; rw [h1]; rfl
      rw [e] at q
      exact q
    | true =>
      obtain ⟨ds, sq, hl, hit⟩ := hv.it h1
      have e : intsB μ v = ds.all isI := by unfold intsB itemsOf; rw [h1, sq.seq]; rfl
      rw [e] at q
      rw [if_pos rfl]
      refine iwA_at rfl sq fun P hP => lcW_mapP (fun d => .bl (isI d)) (sizeOk (by omega)) (fun Ds l nD => hP _ (hv.kd.set_same nD)) (fun d hd => ⟨_, rfl, fun Ds l Ψ nD q => ?_⟩) fun Ds nD => ?_
      · walk_at "vr"
        refine ⟨d, rfl, .inl (Kd.set (hit d hd) nD), ?_⟩
        rw [isTy_int]
        exact q
      · walk_at "frz"
        walk_at "vr"
        exact q
theorem c_are_integers_1 {P : Program} {w : World} {K : PySem.W.Frag} {mg : Str → Option Value} {base : Heap} (T : Txt w K mg) : CanV P w K mg base CX0 [] 2 (He.ga K "are_integers") 1 [] ([.inl 0].map (toArg [] [])) (sp_are_integers) :=
  canV_of (ps := ["value"]) [.inl 0] T.f_are_integers (b_are_integers T) (fun _ _ _ _ _ _ us ws h1 h2 => match us, ws, h1, h2 with | [_], [], _, _ => rfl) (by decide)
theorem c_are_integers_0_value {P : Program} {w : World} {K : PySem.W.Frag} {mg : Str → Option Value} {base : Heap} (T : Txt w K mg) : CanV P w K mg base CX0 [] 2 (He.ga K "are_integers") 0 ["value"] ([.inl 0].map (toArg [] [])) (sp_are_integers) :=
  canV_of (ps := ["value"]) [.inl 0] T.f_are_integers (b_are_integers T) (fun _ _ _ _ _ _ us ws h1 h2 => match us, ws, h1, h2 with | [], [_], _, _ => rfl) (by decide)
def lotL (many : Int) : Int → List D → Bool
  | _, [] => true
  | least, .int n :: r => decide (least ≤ n) && (decide (n < many) && lotL many (n + 1) r)
  | _, _ :: _ => false
def lotB (μ : Mu) (v : D) (many : Int) : Bool := intsB μ v && lotL many 0 (itemsOf μ v)
def sp_is_lot : VSp := fun ds μ ev Φ => ∃ v m, ds = [v, .int m] ∧ ShV μ v ∧ Φ (.bl (lotB μ v m)) μ
theorem b_is_lot {P : Program} {w : World} {K : PySem.W.Frag} {mg : Str → Option Value} {base : Heap} (T : Txt w K mg) : ∀ fd, FunD K "is_lot" "is_lot" (defArgs s_is_lot) (defBody s_is_lot) (defScope s_is_lot) [] [] (He.ga K "is_lot") fd → FnG P w K mg base CX0 3 (He.ga K "is_lot") fd ["value", "many"] (lift K [] (sp_is_lot)) := by
  intro fd F
  refine fun_okD (N := N_is_lot) F sc_is_lot (fun ds μ ev Φ h => ?size) (fun cdv A outer s H E hG hr => ⟨_, (vss_cons (vs_if (vt_not (vt_val (ve_call T.g_are_integers (c_are_integers_1 T) hG hr (by decide) pass0 sel_0 rfl (va_cons (vv 0) va_nil) vk_nil)))
 (vss_one (vs_ret ve_bl))
 vss_nil)
 (vss_cons (vs_set (i := 2) sc_is_lot.nd rfl (Or.inl rfl) ve_int)
 (vss_cons (vs_for (passes_of rfl) rfl (vi_any (vv 0)) (vg_name (i := 3) sc_is_lot.nd rfl (Or.inl rfl))
 (vss_cons (vs_if (vt_not (vt_chain op_le s_le op_lt s_lt (vv 2) (vv 3) (vv 1)))
 (vss_one (vs_ret ve_bl))
 vss_nil)
 (vss_one (vs_set (i := 2) sc_is_lot.nd rfl (Or.inl rfl) (ve_op op_addA s_addA (vv 3) ve_int)))))
 (vss_one (vs_ret ve_bl))))), fun ds μ ev Φ h => ?_⟩)
  · obtain ⟨v, m, rfl, _⟩ := h; rfl
  · obtain ⟨v, m, rfl, hv, q⟩ := h
    walk_at "vr"
    refine ⟨v, rfl, hv, ?_⟩
    walk_at "vr"
    cases h1 : intsB μ v with
    | false =>
      have e : lotB μ v m = false := by unfold lotB; rw [h1]; rfl
      rw [e] at q
      exact q
    | true =>
      have h1' := h1
      unfold intsB at h1'
      rw [Bool.and_eq_true] at h1'
      obtain ⟨ds, sq, hl, hit⟩ := hv.it h1'.1
      have e0 : itemsOf μ v = ds := by unfold itemsOf; rw [sq.seq]; rfl
      have all := h1'.2
      rw [e0] at all
      have e : lotB μ v m = lotL m 0 ds := by unfold lotB; rw [h1, e0]; rfl
      rw [e] at q
      simp only [Bool.not_true, Bool.false_eq_true, if_false]
      try walk_at "vr"
      refine iwA_at rfl sq fun P hP => forW_inv (fun i ρ μ' => ∃ (least : Int) (x : Option D), ρ = [some v, some (.int m), some (.int least), x] ∧ μ' = μ ∧ lotL m 0 ds = lotL m least (ds.drop i)) ?_ ?_ ⟨0, _, rfl, rfl, rfl⟩
      · rintro i d hd N ρ μ' hN ⟨least, x, rfl, rfl, hL⟩
        refine ⟨hP _ fun _ _ => rfl, ?_⟩
        have hi := List.all_eq_true.mp all d (List.mem_of_getElem? hd)
        obtain ⟨n, rfl⟩ : ∃ n, d = .int n := by cases d <;> first | exact ⟨_, rfl⟩ | cases hi
        have hlt : i < ds.length := (List.getElem?_eq_some_iff.mp hd).1
        have ed : ds.drop i = .int n :: ds.drop (i + 1) := by rw [List.drop_eq_getElem_cons hlt, (List.getElem?_eq_some_iff.mp hd).2]
        rw [ed] at hL
        simp only [lotL] at hL
        walk_at "wr"
        by_cases c1 : least ≤ n
        · by_cases c2 : n < m
          · simp only [c1, c2, decide_true, if_true, Bool.not_true, Bool.false_eq_true, if_false, Bool.true_and] at hL ⊢
            exact hN _ _ ⟨n + 1, _, rfl, rfl, hL⟩
          · simp only [c1, c2, decide_true, decide_false, if_true, Bool.not_false, Bool.true_and, Bool.false_and] at hL ⊢
            rw [hL] at q
            exact q
        · simp only [c1, decide_false, Bool.false_eq_true, if_false, Bool.not_false, if_true, Bool.false_and] at hL ⊢
          rw [hL] at q
          exact q
      · rintro ρ μ' ⟨least, x, rfl, rfl, hL⟩
        refine ⟨hP _ fun _ _ => rfl, ?_⟩
        rw [List.drop_length] at hL
        have hL : lotL m 0 ds = true := hL
        rw [hL] at q
        walk_at "vr"
        exact q
theorem c_is_lot_2 {P : Program} {w : World} {K : PySem.W.Frag} {mg : Str → Option Value} {base : Heap} (T : Txt w K mg) : CanV P w K mg base CX0 [] 3 (He.ga K "is_lot") 2 [] ([.inl 0, .inl 1].map (toArg [] [])) (sp_is_lot) :=
  canV_of (ps := ["value", "many"]) [.inl 0, .inl 1] T.f_is_lot (b_is_lot T) (fun _ _ _ _ _ _ us ws h1 h2 => match us, ws, h1, h2 with | [_, _], [], _, _ => rfl) (by decide)
theorem c_is_lot_0_many_value {P : Program} {w : World} {K : PySem.W.Frag} {mg : Str → Option Value} {base : Heap} (T : Txt w K mg) : CanV P w K mg base CX0 [] 3 (He.ga K "is_lot") 0 ["many", "value"] ([.inl 1, .inl 0].map (toArg [] [])) (sp_is_lot) :=
  canV_of (ps := ["value", "many"]) [.inl 1, .inl 0] T.f_is_lot (b_is_lot T) (fun _ _ _ _ _ _ us ws h1 h2 => match us, ws, h1, h2 with | [], [_, _], _, _ => rfl) (by decide)
def cnt (m : Option Nat) (n : Nat) : Bool := match m with
  | none => true
  | some k => decide (n = k)
def shortsB (μ : Mu) (v : D) (m : Option Nat) : Bool := isLst μ v && (cnt m (itemsOf μ v).length && (itemsOf μ v).all isSh)
def ofN : Option Nat → D
  | none => .non
  | some n => .int (n : Nat)
def sp_are_shorts : VSp := fun ds μ ev Φ => ∃ v m, ds = [v, ofN m] ∧ ShV μ v ∧ Φ (.bl (shortsB μ v m)) μ
theorem b_are_shorts {P : Program} {w : World} {K : PySem.W.Frag} {mg : Str → Option Value} {base : Heap} (T : Txt w K mg) : ∀ fd, FunD K "are_shorts" "are_shorts" (defArgs s_are_shorts) (defBody s_are_shorts) (defScope s_are_shorts) [] [] (He.ga K "are_shorts") fd → FnG P w K mg base CX0 4 (He.ga K "are_shorts") fd ["value", "many"] (lift K [] (sp_are_shorts)) := by
  intro fd F
  refine fun_okD (N := N_are_shorts) F sc_are_shorts (fun ds μ ev Φ h => ?size) (fun cdv A outer s H E hG hr => ⟨_, (vss_cons (vs_if (PW.pt (vw_or (vt_not (vt_val (ve_call T.g_is_list (c_is_list_1 T) hG hr (by decide) pass0 sel_0 rfl (va_cons (vv 0) va_nil) vk_nil))) (vw_or1 (PW.pt (vw_and (vt_notN (vv 1)) (vw_and1 (vt_cmp (op_neA hr.units) s_ne (ve_callB call_lenA s_len (by rfl) T.b_len (by decide +kernel) (va_cons (vv 0) va_nil)) (vv 1) (nomark _))))))))
 (vss_one (vs_ret ve_bl))
 vss_nil)
 (vss_one (vs_ret (ve_callB (cr_all rfl) s_all (by rfl) T.b_all (by decide +kernel) (va_cons (ve_z (ve_lc (own := [("item", 2)]) (p := (.name 2)) rfl sc_are_shorts.nd (vi_any (vv 0)) (blkOk_by (N := N_are_shorts) (sc := defScope s_are_shorts) (by decide +kernel)) (fun _ _ _ _ _ => pg_name (i := 2) sc_are_shorts.nd rfl (Or.inl rfl)) (fun _ _ _ _ _ => vts_nil) (fun _ _ _ _ _ => (ve_call T.g_is_short (c_is_short_1 T) hG hr (by decide) pass0 sel_0 rfl (va_cons (vv 2) va_nil) vk_nil)) (by decide))) va_nil))))), fun ds μ ev Φ h => ?_⟩)
  · obtain ⟨v, m, rfl, _⟩ := h; rfl
  · obtain ⟨v, m, rfl, hv, q⟩ := h
    walk_at "vr"
    refine ⟨v, rfl, hv.kd, ?_⟩
    walk_at "vr"
    cases h1 : isLst μ v with
    | false =>
      have e : shortsB μ v m = false := by unfold shortsB; rw [h1]; rfl
      rw [e] at q
      exact q
    | true =>
      obtain ⟨ds, sq, hl, hit⟩ := hv.it h1
      have e : shortsB μ v m = (cnt m ds.length && ds.all isSh) := by unfold shortsB itemsOf; rw [h1, sq.seq]; rfl
      rw [e] at q
      cases m with
      | none =>
        simp only [ofN, Bool.not_true, Bool.false_eq_true, if_false, VL.isNon, Bool.not_false, if_true]
        try walk_at "vr"
        refine iwA_at rfl sq fun P hP => lcW_mapP (fun d => .bl (isSh d)) (sizeOk (by omega)) (fun Ds l nD => hP _ (hv.kd.set_same nD)) (fun d hd => ⟨_, rfl, fun Ds l Ψ nD q => ?_⟩) fun Ds nD => ?_
        · walk_at "vr"
          exact ⟨d, rfl, .inl (Kd.set (hit d hd) nD), q⟩
        · walk_at "frz"
          walk_at "vr"
          simpa [cnt] using q
      | some m =>
        simp only [ofN, Bool.not_true, Bool.false_eq_true, if_false, VL.isNon, Bool.not_false, if_true, vLen_iff (lenOf_seqOf sq.seq)]
        walk_at "vr"
        by_cases hm : ds.length = m
        · rw [if_neg (by simp [hm])]
          refine iwA_at rfl sq fun P hP => lcW_mapP (fun d => .bl (isSh d)) (sizeOk (by omega)) (fun Ds l nD => hP _ (hv.kd.set_same nD)) (fun d hd => ⟨_, rfl, fun Ds l Ψ nD q => ?_⟩) fun Ds nD => ?_
          · walk_at "vr"
            exact ⟨d, rfl, .inl (Kd.set (hit d hd) nD), q⟩
          · walk_at "frz"
            walk_at "vr"
            simpa [cnt, hm] using q
        · rw [if_pos (by simp; omega)]
          simpa [cnt, hm] using q
theorem c_are_shorts_2 {P : Program} {w : World} {K : PySem.W.Frag} {mg : Str → Option Value} {base : Heap} (T : Txt w K mg) : CanV P w K mg base CX0 [] 4 (He.ga K "are_shorts") 2 [] ([.inl 0, .inl 1].map (toArg [] [])) (sp_are_shorts) :=
  canV_of (ps := ["value", "many"]) [.inl 0, .inl 1] T.f_are_shorts (b_are_shorts T) (fun _ _ _ _ _ _ us ws h1 h2 => match us, ws, h1, h2 with | [_, _], [], _, _ => rfl) (by decide)
theorem c_are_shorts_0_many_value {P : Program} {w : World} {K : PySem.W.Frag} {mg : Str → Option Value} {base : Heap} (T : Txt w K mg) : CanV P w K mg base CX0 [] 4 (He.ga K "are_shorts") 0 ["many", "value"] ([.inl 1, .inl 0].map (toArg [] [])) (sp_are_shorts) :=
  canV_of (ps := ["value", "many"]) [.inl 1, .inl 0] T.f_are_shorts (b_are_shorts T) (fun _ _ _ _ _ _ us ws h1 h2 => match us, ws, h1, h2 with | [], [_, _], _, _ => rfl) (by decide)
end K00

set_option maxRecDepth 100000
set_option maxHeartbeats 0
namespace K00
open PySem L2 FW VL PyProof.Rows
theorem fund_of {K : PySem.W.Frag} {x qual : Str} {st : Stmt} {f : Addr} {fd : FuncData} (F : Fun K x qual st f fd) : FunD K x qual (defArgs st) (defBody st) (defScope st) [] [] f fd := by
  obtain ⟨oc, od, kV, doc, pm, an, cdv, ct, osl, e, lk, hcd⟩ := F.ex
  exact ⟨⟨oc, od, .none, kV, doc, pm, an, cdv, ct, osl, e, lk, hcd, .inl ⟨rfl, rfl⟩, .inl rfl⟩, F.kp⟩
def s_BadNumber_init : Stmt := inClass (top 12) 0
theorem sc_BadNumber_init : FnScope [("self" : Str), "part"] [("self" : Str), "part"] (defScope s_BadNumber_init) := ⟨rfl, rfl, rfl, by decide +kernel, rfl, by decide +kernel, by decide +kernel⟩
def s_BadNet_init : Stmt := inClass (top 13) 0
theorem sc_BadNet_init : FnScope [("self" : Str), "part"] [("self" : Str), "part"] (defScope s_BadNet_init) := ⟨rfl, rfl, rfl, by decide +kernel, rfl, by decide +kernel, by decide +kernel⟩
def s_BadProgram_init : Stmt := inClass (top 14) 0
theorem sc_BadProgram_init : FnScope [("self" : Str), "part"] [("self" : Str), "part"] (defScope s_BadProgram_init) := ⟨rfl, rfl, rfl, by decide +kernel, rfl, by decide +kernel, by decide +kernel⟩
def s_BadCode_init : Stmt := inClass (top 15) 0
theorem sc_BadCode_init : FnScope [("self" : Str), "part"] [("self" : Str), "part"] (defScope s_BadCode_init) := ⟨rfl, rfl, rfl, by decide +kernel, rfl, by decide +kernel, by decide +kernel⟩
def s_BadStanding_init : Stmt := inClass (top 16) 0
theorem sc_BadStanding_init : FnScope [("self" : Str), "part"] [("self" : Str), "part"] (defScope s_BadStanding_init) := ⟨rfl, rfl, rfl, by decide +kernel, rfl, by decide +kernel, by decide +kernel⟩
def s_BadWorld_init : Stmt := inClass (top 17) 0
theorem sc_BadWorld_init : FnScope [("self" : Str), "part"] [("self" : Str), "part"] (defScope s_BadWorld_init) := ⟨rfl, rfl, rfl, by decide +kernel, rfl, by decide +kernel, by decide +kernel⟩
def s_BadEvent_init : Stmt := inClass (top 18) 0
theorem sc_BadEvent_init : FnScope [("self" : Str), "part"] [("self" : Str), "part"] (defScope s_BadEvent_init) := ⟨rfl, rfl, rfl, by decide +kernel, rfl, by decide +kernel, by decide +kernel⟩
def s_BadPaper_init : Stmt := inClass (top 19) 0
theorem sc_BadPaper_init : FnScope [("self" : Str), "part"] [("self" : Str), "part"] (defScope s_BadPaper_init) := ⟨rfl, rfl, rfl, by decide +kernel, rfl, by decide +kernel, by decide +kernel⟩
def s_Misfit_init : Stmt := inClass (top 20) 0
theorem sc_Misfit_init : FnScope [("self" : Str), "part"] [("self" : Str), "part"] (defScope s_Misfit_init) := ⟨rfl, rfl, rfl, by decide +kernel, rfl, by decide +kernel, by decide +kernel⟩
def s_Twice_init : Stmt := inClass (top 21) 0
theorem sc_Twice_init : FnScope [("self" : Str), "value"] [("self" : Str), "value"] (defScope s_Twice_init) := ⟨rfl, rfl, rfl, by decide +kernel, rfl, by decide +kernel, by decide +kernel⟩
def s_Unknown_init : Stmt := inClass (top 22) 0
theorem sc_Unknown_init : FnScope [("self" : Str), "name"] [("self" : Str), "name"] (defScope s_Unknown_init) := ⟨rfl, rfl, rfl, by decide +kernel, rfl, by decide +kernel, by decide +kernel⟩
def s_TooMany_init : Stmt := inClass (top 23) 0
theorem sc_TooMany_init : FnScope [("self" : Str), "what", "most"] [("self" : Str), "what", "most"] (defScope s_TooMany_init) := ⟨rfl, rfl, rfl, by decide +kernel, rfl, by decide +kernel, by decide +kernel⟩
def s_BadText_init : Stmt := inClass (top 24) 0
theorem sc_BadText_init : FnScope [("self" : Str), "item"] [("self" : Str), "item"] (defScope s_BadText_init) := ⟨rfl, rfl, rfl, by decide +kernel, rfl, by decide +kernel, by decide +kernel⟩
def fa : List He.Fa := [.free "ArithmeticError", .free "AttributeError", .free "LookupError", .free "RuntimeError", .free "TypeError", .free "ValueError", .free "abs", .free "all", .free "bool", .free "int", .free "isinstance", .free "len", .free "list", .free "range", .free "repr", .free "str", .free "tuple", .glo "BadCode", .glo "BadEvent", .glo "BadNet", .glo "BadNumber", .glo "BadPaper", .glo "BadProgram", .glo "BadStanding", .glo "BadText", .glo "BadWorld", .int "LEAST_SHORT" (-2147483648), .int "MOST_SHORT" (2147483647), .glo "Misfit", .glo "TooMany", .glo "Twice", .glo "Unknown", .glo "WeatherError", .glo "_law_any", .glo "_law_cloud", .glo "_law_drop", .glo "_law_errors_right", .glo "_law_is_integer", .glo "_law_kin", .glo "_law_lots_right", .glo "_law_numbers_right", .glo "_law_one_of", .glo "_law_rows_right", .glo "_law_stands", .glo "are_integers", .glo "are_shorts", .glo "is_integer", .glo "is_list", .glo "is_lot", .glo "is_short", .glo "is_within", .glo "law"]
def fn : List He.DefD := [dTop "is_list" s_is_list, dTop "is_integer" s_is_integer, dTop "is_within" s_is_within, dTop "are_integers" s_are_integers, dTop "is_lot" s_is_lot, dTop "is_short" s_is_short, dTop "are_shorts" s_are_shorts, dTop "_law_cloud" s__law_cloud, dTop "_law_drop" s__law_drop, dTop "_law_one_of" s__law_one_of, dTop "_law_any" s__law_any, dTop "_law_kin" s__law_kin, dTop "_law_stands" s__law_stands, dTop "_law_errors_right" s__law_errors_right, dTop "_law_is_integer" s__law_is_integer, dTop "_law_numbers_right" s__law_numbers_right, dTop "_law_rows_right" s__law_rows_right, dTop "_law_lots_right" s__law_lots_right, dTop "law" s_law, dIn "BadNumber" "__init__" s_BadNumber_init, dIn "BadNet" "__init__" s_BadNet_init, dIn "BadProgram" "__init__" s_BadProgram_init, dIn "BadCode" "__init__" s_BadCode_init, dIn "BadStanding" "__init__" s_BadStanding_init, dIn "BadWorld" "__init__" s_BadWorld_init, dIn "BadEvent" "__init__" s_BadEvent_init, dIn "BadPaper" "__init__" s_BadPaper_init, dIn "Misfit" "__init__" s_Misfit_init, dIn "Twice" "__init__" s_Twice_init, dIn "Unknown" "__init__" s_Unknown_init, dIn "TooMany" "__init__" s_TooMany_init, dIn "BadText" "__init__" s_BadText_init]

def ts : List He.Tab := []
def prs : List Pr := []
def ex (K : PySem.W.Frag) : Bool := (exnB K "BadNumber" "part") && ((exnB K "BadNet" "part") && ((exnB K "BadProgram" "part") && ((exnB K "BadCode" "part") && ((exnB K "BadStanding" "part") && ((exnB K "BadWorld" "part") && ((exnB K "BadEvent" "part") && ((exnB K "BadPaper" "part") && ((exnB K "Misfit" "part") && ((exnB K "Twice" "value") && ((exnB K "Unknown" "name") && ((exnB K "TooMany" "what") && ((exnB K "BadText" "item") && ((decide (PySem.W.findIn K (.ref (He.ga K "TooMany")) "most" = some none)) && (((List.range 13).all fun i => (List.range 13).all fun j => decide (PySem.W.kitOne K (.ref (He.ga K ((["BadNumber", "BadNet", "BadProgram", "BadCode", "BadStanding", "BadWorld", "BadEvent", "BadPaper", "Misfit", "Twice", "Unknown", "TooMany", "BadText"] : List Str).getD i ""))) (.ref (He.ga K ((["BadNumber", "BadNet", "BadProgram", "BadCode", "BadStanding", "BadWorld", "BadEvent", "BadPaper", "Misfit", "Twice", "Unknown", "TooMany", "BadText"] : List Str).getD j ""))) = some (decide (i = j)))) && (((List.range 13).all fun i => decide (PySem.W.kitOne K (.ref (He.ga K ((["BadNumber", "BadNet", "BadProgram", "BadCode", "BadStanding", "BadWorld", "BadEvent", "BadPaper", "Misfit", "Twice", "Unknown", "TooMany", "BadText"] : List Str).getD i ""))) (.ref (He.ga K "WeatherError")) = some true)) && (((List.range 13).all fun i => decide (PySem.W.kitOne K (.ref (He.ga K ((["BadNumber", "BadNet", "BadProgram", "BadCode", "BadStanding", "BadWorld", "BadEvent", "BadPaper", "Misfit", "Twice", "Unknown", "TooMany", "BadText"] : List Str).getD i ""))) (.type "ValueError") = some true)) && (((List.range 13).all fun i => decide (PySem.W.kitAny K (.ref (He.ga K ((["BadNumber", "BadNet", "BadProgram", "BadCode", "BadStanding", "BadWorld", "BadEvent", "BadPaper", "Misfit", "Twice", "Unknown", "TooMany", "BadText"] : List Str).getD i ""))) ((["LookupError", "TypeError", "ArithmeticError", "AttributeError", "RuntimeError"] : List String).map .type) = some false)) && (((List.range 13).all fun j => decide (PySem.W.kitOne K (.ref (He.ga K "WeatherError")) (.ref (He.ga K ((["BadNumber", "BadNet", "BadProgram", "BadCode", "BadStanding", "BadWorld", "BadEvent", "BadPaper", "Misfit", "Twice", "Unknown", "TooMany", "BadText"] : List Str).getD j ""))) = some false)) && ((decide (PySem.W.kitOne K (.ref (He.ga K "WeatherError")) (.type "int") = some false)) && ((excB K "WeatherError") && ((PySem.W.excIn K (He.ga K "WeatherError") [.type "ValueError", .type "Exception", .type "BaseException", .type "object"] "ValueError.__new__") && ((PySem.W.keepIn K (.ref (He.ga K "WeatherError")))))))))))))))))))))))))
abbrev hk : PySem.W.Hook := hookR fa fn ts ex prs
end K00

set_option maxRecDepth 100000
set_option maxHeartbeats 0
namespace K00
open PySem PySem.W PySem.Calls PyProof.Rows
abbrev Rw : OpenRow := OpenLaw.row PySem.Challenge.rw_fairweather_k00_errors_and_plain_values
abbrev qv : Program := view Rw.prog [37]
def names0 : List PySem.Str := [("LEAST_SHORT" : PySem.Str), ("MOST_SHORT" : PySem.Str), ("is_list" : PySem.Str), ("is_integer" : PySem.Str), ("is_within" : PySem.Str), ("are_integers" : PySem.Str), ("is_lot" : PySem.Str), ("is_short" : PySem.Str), ("are_shorts" : PySem.Str), ("WeatherError" : PySem.Str), ("BadNumber" : PySem.Str), ("BadNet" : PySem.Str), ("BadProgram" : PySem.Str), ("BadCode" : PySem.Str), ("BadStanding" : PySem.Str), ("BadWorld" : PySem.Str), ("BadEvent" : PySem.Str), ("BadPaper" : PySem.Str), ("Misfit" : PySem.Str), ("Twice" : PySem.Str), ("Unknown" : PySem.Str), ("TooMany" : PySem.Str), ("BadText" : PySem.Str), ("_law_cloud" : PySem.Str), ("_law_drop" : PySem.Str), ("_law_one_of" : PySem.Str), ("_law_any" : PySem.Str), ("_law_kin" : PySem.Str), ("_law_stands" : PySem.Str), ("_law_errors_right" : PySem.Str), ("_law_is_integer" : PySem.Str), ("_law_numbers_right" : PySem.Str), ("_law_rows_right" : PySem.Str), ("_law_lots_right" : PySem.Str)]
def names : List PySem.Str := names0
theorem run0 (w : World) : HandSHeadRun.RunEq Rw qv hk (FW.obT fa fn ts ex prs) 6000 names (w.withFollow "special-get-raises" false) := fun os => by kernel_rfl
theorem run1 (w : World) : HandSHeadRun.RunEq Rw qv hk (FW.obT fa fn ts ex prs) 6000 names (w.withFollow "special-get-raises" true) := fun os => by kernel_rfl
theorem run (w : World) : HandSHeadRun.RunEq Rw qv hk (FW.obT fa fn ts ex prs) 6000 names w :=
  byRow2 "special-get-raises" (P := fun w => HandSHeadRun.RunEq Rw qv hk (FW.obT fa fn ts ex prs) 6000 names w) run0 run1 w
end K00

set_option maxRecDepth 100000
set_option maxHeartbeats 4000000
namespace K00
open PySem L2 FW VL
local macro_rules | `(tactic| walk_at "vr") => `(tactic| simp only [wLenSet, wFor, wSetF, wAugF, wAug, wBM, wProp, wHeld, wVar, wC, wZ, wOp, wUn, wNil, wCons, wStar, wCB, wTup, wLst, wLstM, wTest, wAnd, wOr, VL.wNot, wAndV, wOrV, wNotV, wIf, wChain, wNoPart, wPart, wSl, wName, wGNil, wGCons, wGTup, wSub, wNext, VL.wSeq, wAsg, wDrop, wRet, wRetN, wIfS, wBreak, wCont, wPar, vI0, vI, vU, vAdd, vSub, vMul, vMod, vFdiv, vPow, vLt, vLe, vGt, vGe, vNeg, vIsN, vNotN, vAddA, vMulA, VL.wTru, iwL, iwT, wLc, vstart, List.map_cons, List.map_nil, List.cons_append, List.nil_append, List.set_cons_zero, List.set_cons_succ, List.getElem?_cons_zero, List.getElem?_cons_succ, Option.some.injEq, exists_eq_left, exists_eq_left', exists_eq', D.bl.injEq, D.int.injEq, D.str.injEq, D.tup.injEq, D.ref.injEq, List.cons.injEq, and_true, true_and, List.length_cons, List.length_nil, List.replicate, D.ty.injEq, exists_and_left, List.length, Nat.reduceAdd, wCall, wMake, wMeth, wFld, argsD, argD, toArg, List.getD_cons_zero, List.getD_cons_succ, List.map, iwS, vTupOf, Bool.false_eq_true, if_false, if_true, reduceIte, List.getElem?_nil, Nat.reduceSub, wipeR, vLen_lst, vLen_tup, vEq_ii, vEq_ss, vEq_bb, vIx_lst, vIx_tup, vIn_strs, vIn_s2, vIn_s3, vAll_map, vInK_s, vIxK_s, vInt_i, vAbs_i, atI_0, atI_1, atI_2, Bool.not_true, Bool.not_false, seqOf_lst, seqOf_tup, lstOf_lst, tupOf_tup, fzL_lst, wForget, fgt, wLc2, wDc, iwZB, vRepS, vSlT, vSlA, wCKw, vStrQ, iwSg, wDGet2, iwZS, wMkX, wMkXK, wMkX2, wXt, wErr, wDic0, wDispK, wRevL, wListRg, N_is_list, N_is_integer, N_is_within, N_are_integers, N_is_lot, N_is_short, N_are_shorts, N__law_cloud, N__law_drop, N__law_one_of, N__law_any, N__law_kin, N__law_stands, N__law_errors_right, N__law_is_integer, N__law_numbers_right, N__law_rows_right, N__law_lots_right, N_law])
local macro_rules | `(tactic| walk_at "wr") => `(tactic| simp only [vInt_bl, iwR1, iwR2, iwM, List.set_cons_succ, wLenSet, wFor, wSetF, wAugF, wAug, wBM, wProp, wHeld, wVar, wC, wZ, wOp, wUn, wNil, wCons, wStar, wCB, wTup, wLst, wLstM, wTest, wAnd, wOr, VL.wNot, wAndV, wOrV, wNotV, wIf, wChain, wNoPart, wPart, wSl, wName, wGNil, wGCons, wGTup, wSub, wNext, VL.wSeq, wAsg, wDrop, wRet, wRetN, wIfS, wBreak, wCont, wPar, vI0, vI, vU, vAdd, vSub, vMul, vMod, vFdiv, vPow, vLt, vLe, vGt, vGe, vNeg, vIsN, vNotN, vAddA_ii, vMulA_ii, VL.wTru, iwL, iwT, wLc, vstart, List.map_cons, List.map_nil, List.cons_append, List.nil_append, List.set_cons_zero, List.set_cons_succ, List.getElem?_cons_zero, List.getElem?_cons_succ, Option.some.injEq, exists_eq_left, exists_eq_left', exists_eq', D.bl.injEq, D.int.injEq, D.str.injEq, D.tup.injEq, D.ref.injEq, List.cons.injEq, and_true, true_and, List.length_cons, List.length_nil, List.replicate, D.ty.injEq, exists_and_left, List.length, Nat.reduceAdd, wCall, wMake, wMeth, wFld, argsD, argD, toArg, List.getD_cons_zero, List.getD_cons_succ, List.map, iwS, vTupOf, Bool.false_eq_true, if_false, if_true, reduceIte, List.getElem?_nil, Nat.reduceSub, wipeR, vLen_lst, vLen_tup, vEq_ii, vEq_ss, vEq_bb, vIx_lst, vIx_tup, vIn_strs, vIn_s2, vIn_s3, vAll_map, vInK_s, vIxK_s, vInt_i, vAbs_i, atI_0, atI_1, atI_2, Bool.not_true, Bool.not_false, seqOf_lst, seqOf_tup, lstOf_lst, tupOf_tup, fzL_lst, wForget, fgt, wLc2, wDc, iwZB, vRepS, vSlT, vSlA, wCKw, vStrQ, iwSg, wDGet2, iwZS, wMkX, wMkXK, wMkX2, wXt, wErr, wDic0, wDispK, wRevL, wListRg, N_is_list, N_is_integer, N_is_within, N_are_integers, N_is_lot, N_is_short, N_are_shorts, N__law_cloud, N__law_drop, N__law_one_of, N__law_any, N__law_kin, N__law_stands, N__law_errors_right, N__law_is_integer, N__law_numbers_right, N__law_rows_right, N__law_lots_right, N_law, ofStr_inj, ofStr_beq, String.reduceEq, decide_true, decide_false, Bool.or_false, Bool.or_true, Bool.false_or, Bool.true_or, Bool.and_true, Bool.and_false, Bool.true_and, Bool.false_and, vModN, iwE, iwEM])
local macro_rules | `(tactic| walk_at "frz") => `(tactic| ((try walk_at "vr"); refine ⟨_, frzOf_lst Mu.same, ?_⟩; rw [Mu.del_set (by assumption)]))
theorem toPys_ints (μ : Mu) : ∀ cs : List Int, toPys μ (cs.map .int) = some (cs.map .int)
  | [] => rfl
  | c :: cs => by
    rw [List.map_cons, List.map_cons]
    unfold toPys
    rw [toPys_ints μ cs]
    rfl
theorem canLay_ints : ∀ cs : List Int, PyData.canLayAll0 (cs.map .int) = true
  | [] => rfl
  | c :: cs => by rw [List.map_cons, PyData.canLayAll0, canLay_ints cs]; rfl
theorem depth_ints : ∀ cs : List Int, PyData.depthAll (cs.map .int) = 0
  | [] => rfl
  | c :: cs => by rw [List.map_cons, PyData.depthAll, depth_ints cs]; rfl
theorem shaped_ints (cs : List Int) : SeqAt.shaped (.list (cs.map .int)) = true := by
  unfold SeqAt.shaped
  rw [Bool.and_eq_true, decide_eq_true_eq, PyData.canLay0, PyData.depth, depth_ints]
  exact ⟨canLay_ints cs, by decide⟩
theorem eqv_nil (cs : List Int) : PyData.eqv (.list (cs.map .int)) (.list []) = decide (cs = []) := by
  cases cs <;> simp [PyData.eqv, PyData.eqvAll]
theorem eqD_nil {μ : Mu} {x : D} {cs : List Int} (h : toPyT μ x = some (.list (cs.map .int))) (hx : (∃ a, x = .ref a) ∨ ∃ ds, x = .lst ds) : eqD μ x (.lst []) = some (decide (cs = [])) := by
  have e2 : toPyT μ (.lst []) = some (.list []) := rfl
  have go : (match toPyT μ x, toPyT μ (.lst []) with | some p, some q => pyEq p q | _, _ => none) = some (decide (cs = [])) := by
    rw [h, e2]
    show pyEq _ _ = _
    unfold pyEq
    rw [shaped_ints, show SeqAt.shaped (.list []) = true from shaped_ints []]
    simp only [Bool.and_self, if_true]
    rw [eqv_nil]
  rcases hx with ⟨a, rfl⟩ | ⟨ds, rfl⟩ <;> exact go
/-! ### draws -/
def mistO (cs : List Int) (n r : Int) : MO := .lst [.lst (cs.map .int), .int n, .int r]
/-- at a the draws' list; b draws more may be asked -/
def Mist (μ : Mu) (a : Addr) (b : Nat) : Prop := ∃ cs n r, μ a = some (mistO cs (n : Nat) r) ∧ n + b ≤ 2 ^ 20
theorem Mist.mono {μ : Mu} {a : Addr} {b b' : Nat} (h : Mist μ a b) (l : b' ≤ b) : Mist μ a b' := by
  obtain ⟨cs, n, r, e, hb⟩ := h
  exact ⟨cs, n, r, e, by omega⟩
theorem Mist.keep {μ μ' : Mu} {a : Addr} {b : Nat} {F : List Addr} (h : Mist μ a b) (k : Kp F μ μ') (n : a ∉ F) : Mist μ' a b := by
  obtain ⟨cs, m, r, e, hb⟩ := h
  exact ⟨cs, m, r, by rw [k a n (by rw [e]; exact nofun)]; exact e, hb⟩
def sp__law_cloud : VSp := fun ds μ ev Φ => ∃ ns : List Int, ds = [.sq (ns.map .int)] ∧ ∀ a cs, μ a = none → Φ (.ref a) (μ.set a (mistO cs 0 0))
theorem b__law_cloud {P : Program} {w : World} {K : PySem.W.Frag} {mg : Str → Option Value} {base : Heap} (T : Txt w K mg) : ∀ fd, FunD K "_law_cloud" "_law_cloud" (defArgs s__law_cloud) (defBody s__law_cloud) (defScope s__law_cloud) [] [] (He.ga K "_law_cloud") fd → FnG P w K mg base CX0 1 (He.ga K "_law_cloud") fd ["_law_script"] (lift K [] (sp__law_cloud)) := by
  intro fd F
  refine fun_okD (N := N__law_cloud) F sc__law_cloud (fun ds μ ev Φ h => ?size) (fun cdv A outer s H E hG hr => ⟨_, (vss_one (vs_ret (ve_lstM (va_cons (ve_z (ve_lc (own := [("_law_cell", 1)]) (p := (.name 1)) rfl sc__law_cloud.nd (vi_list (ve_slice sl_list s_slL (vv 0) vo_none (vo_some ve_int))) (blkOk_by (N := N__law_cloud) (sc := defScope s__law_cloud) (by decide +kernel)) (fun _ _ _ _ _ => pg_name (i := 1) sc__law_cloud.nd rfl (Or.inl rfl)) (fun _ _ _ _ _ => vts_nil) (fun _ _ _ _ _ => (ve_callTy call_intA s_int (by rfl) T.b_int (by decide +kernel) (va_cons (vv 1) va_nil))) (by decide))) (va_cons ve_int (va_cons ve_int va_nil)))))), fun ds μ ev Φ h => ?_⟩)
  · obtain ⟨ns, rfl, _⟩ := h; rfl
  · obtain ⟨ns, rfl, k⟩ := h
    walk_at "vr"
    have hz : ∀ (cs : List Int), cutD (cs.map D.int) none (some 63) = (((cs.drop (HT.sIx cs.length 0 none)).take (HT.sIx cs.length cs.length (some 63) - HT.sIx cs.length 0 none))).map D.int := fun cs => by
      unfold cutD
      rw [List.length_map, List.map_take, List.map_drop]
    refine ⟨ns.map .int, .inl rfl, ?_⟩
    rw [hz]
    have hlen : ((ns.drop (HT.sIx ns.length 0 none)).take (HT.sIx ns.length ns.length (some 63) - HT.sIx ns.length 0 none)).length ≤ 63 := by
      rw [List.length_take]
      have : HT.sIx ns.length ns.length (some 63) ≤ 63 := by simp [HT.sIx]; omega
      omega
    generalize (ns.drop (HT.sIx ns.length 0 none)).take (HT.sIx ns.length ns.length (some 63) - HT.sIx ns.length 0 none) = cs at hlen ⊢
    refine ⟨cs.map .int, rfl, ?_⟩
    have hcs : (cs.map D.int).length ≤ sizeLine := by rw [List.length_map]; exact sizeOk (Nat.le_trans hlen (by decide))
    refine lcm (fun d => d) hcs (fun d hd => ⟨_, rfl, fun Ds l Ψ nD q => ?_⟩) fun Ds nD => ?_
    · obtain ⟨c, _, rfl⟩ := List.mem_map.mp hd
      walk_at "wr"
      exact q
    · walk_at "frz"
      refine ⟨sizeOk (by decide), fun p hp => ?_⟩
      have := k p cs hp
      rw [List.map_id']
      exact this
theorem c__law_cloud_1 {P : Program} {w : World} {K : PySem.W.Frag} {mg : Str → Option Value} {base : Heap} (T : Txt w K mg) : CanV P w K mg base CX0 [] 1 (He.ga K "_law_cloud") 1 [] ([.inl 0].map (toArg [] [])) (sp__law_cloud) :=
  canV_of (ps := ["_law_script"]) [.inl 0] T.f__law_cloud (b__law_cloud T) (fun _ _ _ _ _ _ us ws h1 h2 => match us, ws, h1, h2 with | [_], [], _, _ => rfl) (by decide)
theorem mix_ok (z : Int) {n : Nat} (hn : (n : Int) < 1048576) : CMul 28001 (n : Int) ∧ CPow (z % 2147483647 + 28001 * (n : Int) + 8117) 5 ∧ CMul 2 (n : Int) ∧ CMul ((z % 2147483647 + 28001 * (n : Int) + 8117) ^ Int.toNat 5 % 2147483587) (2 * (n : Int) + 3407) ∧ CMul 52501 (n : Int) ∧ CMul (52501 * (n : Int)) (n : Int) ∧
    CPow ((z % 2147483647 + 28001 * (n : Int) + 8117) ^ Int.toNat 5 % 2147483587 * (2 * (n : Int) + 3407) + 52501 * (n : Int) * (n : Int) + 28001) 3 ∧ CDivA (((z % 2147483647 + 28001 * (n : Int) + 8117) ^ Int.toNat 5 % 2147483587 * (2 * (n : Int) + 3407) + 52501 * (n : Int) * (n : Int) + 28001) ^ Int.toNat 3 % 2147483563) 64 := by
  have h0 : 0 ≤ z % 2147483647 := Int.emod_nonneg _ (by decide)
  have h1 : z % 2147483647 < 2147483647 := Int.emod_lt_of_pos _ (by decide)
  generalize (z % 2147483647 + 28001 * (n : Int) + 8117) ^ Int.toNat 5 = y
  have y0 : 0 ≤ y % 2147483587 := Int.emod_nonneg _ (by decide)
  have y1 : y % 2147483587 < 2147483587 := Int.emod_lt_of_pos _ (by decide)
  generalize y % 2147483587 = x at y0 y1 ⊢
  have e1 : 0 ≤ x * (2 * (n : Int) + 3407) := Int.mul_nonneg y0 (by omega)
  have e2 : x * (2 * (n : Int) + 3407) ≤ 2147483587 * (2097152 + 3407) := Int.mul_le_mul (by omega) (by omega) (by omega) (by decide)
  have e3 : 0 ≤ 52501 * (n : Int) * (n : Int) := Int.mul_nonneg (by omega) (by omega)
  have e4 : 52501 * (n : Int) * (n : Int) ≤ (52501 * 1048576) * 1048576 := Int.mul_le_mul (by omega) (by omega) (by omega) (by decide)
  generalize x * (2 * (n : Int) + 3407) = u at e1 e2 ⊢
  generalize 52501 * (n : Int) * (n : Int) = v at e3 e4 ⊢
  exact ⟨.inl ⟨by decide, by decide⟩, ⟨by decide, by decide, by omega⟩, .inl ⟨by decide, by decide⟩, .inl ⟨by omega, by omega⟩, .inl ⟨by decide, by decide⟩, .inl ⟨by omega, by omega⟩, ⟨by decide, by decide, by omega⟩, ⟨by decide, by decide⟩⟩
def sp__law_drop : VSp := fun ds μ ev Φ => ∃ (a : Addr) (many : Int) (b : Nat), ds = [.ref a, .int many] ∧ 0 < many ∧ many < 2 ^ 40 ∧ Mist μ a (b + 1) ∧ ∀ v μ', 0 ≤ v → v < many → Kp [a] μ μ' → Mist μ' a b → Φ (.int v) μ'
theorem b__law_drop {P : Program} {w : World} {K : PySem.W.Frag} {mg : Str → Option Value} {base : Heap} (T : Txt w K mg) : ∀ fd, FunD K "_law_drop" "_law_drop" (defArgs s__law_drop) (defBody s__law_drop) (defScope s__law_drop) [] [] (He.ga K "_law_drop") fd → FnG P w K mg base CX0 1 (He.ga K "_law_drop") fd ["_law_cloud_here", "_law_many"] (lift K [] (sp__law_drop)) := by
  intro fd F
  refine fun_okD (N := N__law_drop) F sc__law_drop (fun ds μ ev Φ h => ?size) (fun cdv A outer s H E hG hr => ⟨_, (vss_cons (vs_if (vt_cmp op_gt s_gt (ve_ix ix_seq s_ix (vv 0) ve_int) ve_int (nomark _))
 (vss_cons (vs_set (i := 2) sc__law_drop.nd rfl (Or.inl rfl) (ve_callTy call_intA s_int (by rfl) T.b_int (by decide +kernel) (va_cons (ve_ix ix_seq s_ix (vv 0) ve_int) va_nil)))
 (vss_cons (vs_asg (ve_op op_fdivA s_fdiv (vv 2) (vv 1)) (vg_sub (fun _ _ h1 h2 => pg_sub h1 h2 set_list) s_setL (vv 0) ve_int))
 (vss_one (vs_ret (ve_op op_mod s_mod (ve_callTy call_intA s_int (by rfl) T.b_int (by decide +kernel) (va_cons (vv 2) va_nil)) (vv 1))))))
 vss_nil)
 (vss_cons (vs_set (i := 3) sc__law_drop.nd rfl (Or.inl rfl) (ve_ix ix_seq s_ix (vv 0) ve_int))
 (vss_cons (vs_asg (ve_op op_addA s_addA (vv 3) ve_int) (vg_sub (fun _ _ h1 h2 => pg_sub h1 h2 set_list) s_setL (vv 0) ve_int))
 (vss_cons (vs_set (i := 4) sc__law_drop.nd rfl (Or.inl rfl) (ve_op op_addA s_addA (ve_op op_mulA s_mulA ve_int (vv 3)) ve_int))
 (vss_cons (vs_if (vt_cmp (op_neA hr.units) s_ne (ve_ix ix_seq s_ix (vv 0) ve_int) (ve_lst va_nil) (nomark _))
 (vss_one (vs_set (i := 4) sc__law_drop.nd rfl (Or.inl rfl) (ve_ix ix_seq s_ix (ve_ix ix_seq s_ix (vv 0) ve_int) (ve_op op_mod s_mod (ve_callTy call_intA s_int (by rfl) T.b_int (by decide +kernel) (va_cons (vv 3) va_nil)) (ve_callB call_lenA s_len (by rfl) T.b_len (by decide +kernel) (va_cons (ve_ix ix_seq s_ix (vv 0) ve_int) va_nil))))))
 vss_nil)
 (vss_cons (vs_if (PW.pt (vw_and (vt_cmp op_lt s_lt (vv 3) (ve_callB call_lenA s_len (by rfl) T.b_len (by decide +kernel) (va_cons (ve_ix ix_seq s_ix (vv 0) ve_int) va_nil)) (nomark _)) (vw_and1 (vt_cmp op_ge s_ge (ve_callB call_absA s_abs (by rfl) T.b_abs (by decide +kernel) (va_cons (vv 4) va_nil)) (ve_op op_pow s_pow ve_int ve_int) (nomark _)))))
 (vss_cons (vs_set (i := 2) sc__law_drop.nd rfl (Or.inl rfl) (ve_op op_addA s_addA (ve_op op_mulA s_mulA ve_int (ve_op op_sub s_sub (ve_callB call_absA s_abs (by rfl) T.b_abs (by decide +kernel) (va_cons (vv 4) va_nil)) (ve_op op_pow s_pow ve_int ve_int))) (ve_callTy call_intA s_int (by rfl) T.b_int (by decide +kernel) (va_cons (ve_cmp op_lt s_lt (vv 4) ve_int (nomark _)) va_nil))))
 (vss_cons (vs_asg (ve_op op_fdivA s_fdiv (ve_callTy call_intA s_int (by rfl) T.b_int (by decide +kernel) (va_cons (vv 2) va_nil)) (vv 1)) (vg_sub (fun _ _ h1 h2 => pg_sub h1 h2 set_list) s_setL (vv 0) ve_int))
 (vss_one (vs_ret (ve_op op_mod s_mod (ve_callTy call_intA s_int (by rfl) T.b_int (by decide +kernel) (va_cons (vv 2) va_nil)) (vv 1))))))
 vss_nil)
 (vss_cons (vs_set (i := 5) sc__law_drop.nd rfl (Or.inl rfl) (ve_op op_mod s_mod (ve_callTy call_intA s_int (by rfl) T.b_int (by decide +kernel) (va_cons (ve_op op_pow s_pow (ve_op op_addA s_addA (ve_op op_addA s_addA (ve_op op_mod s_mod (ve_callTy call_intA s_int (by rfl) T.b_int (by decide +kernel) (va_cons (vv 4) va_nil)) ve_int) (ve_op op_mulA s_mulA ve_int (vv 3))) ve_int) ve_int) va_nil)) ve_int))
 (vss_cons (vs_set (i := 5) sc__law_drop.nd rfl (Or.inl rfl) (ve_op op_mod s_mod (ve_callTy call_intA s_int (by rfl) T.b_int (by decide +kernel) (va_cons (ve_op op_pow s_pow (ve_op op_addA s_addA (ve_op op_addA s_addA (ve_op op_mulA s_mulA (vv 5) (ve_op op_addA s_addA (ve_op op_mulA s_mulA ve_int (vv 3)) ve_int)) (ve_op op_mulA s_mulA (ve_op op_mulA s_mulA ve_int (vv 3)) (vv 3))) ve_int) ve_int) va_nil)) ve_int))
 (vss_one (vs_ret (ve_op op_mod s_mod (ve_callTy call_intA s_int (by rfl) T.b_int (by decide +kernel) (va_cons (ve_op op_fdivA s_fdiv (vv 5) ve_int) va_nil)) (vv 1)))))))))))), fun ds μ ev Φ h => ?_⟩)
  · obtain ⟨a, many, b, rfl, _⟩ := h; rfl
  · obtain ⟨a, many, b, rfl, m0, m1, ⟨cs, n, r, e, hb⟩, k⟩ := h
    walk_at "wr"
    simp only [vIx_iff (seqOf_of e)]
    walk_at "wr"
    have cd : ∀ x, CDivA x many := fun x => ⟨by omega, Nat.lt_trans (log2_lt (k := 40) (by omega) (by decide)) (by decide)⟩
    by_cases hr0 : 0 < r
    · rw [if_pos (by simpa using hr0)]
      refine ⟨cd r, (vSet_iff e).mpr ⟨2, rfl, m0, ?_⟩⟩
      exact k (r % many) _ (Int.emod_nonneg _ (by omega)) (Int.emod_lt_of_pos _ m0) (Kp.set (.head _)) ⟨cs, n, r.fdiv many, by rw [Mu.same]; rfl, by omega⟩
    · rw [if_neg (by simpa using hr0)]
      refine (vSet_iff e).mpr ⟨1, rfl, ?_⟩
      have e1 : (μ.set a (.lst (([.lst (cs.map D.int), .int n, .int r] : List D).set 1 (.int ((n : Int) + 1))))) a = some (mistO cs ((n + 1 : Nat)) r) := by rw [Mu.same]; simp [mistO]
      have k1 : Kp [a] μ (μ.set a (.lst (([.lst (cs.map D.int), .int n, .int r] : List D).set 1 (.int ((n : Int) + 1))))) := Kp.set (.head _)
      show _
      generalize μ.set a (.lst (([.lst (cs.map D.int), .int n, .int r] : List D).set 1 (.int ((n : Int) + 1)))) = μ1 at e1 k1 ⊢
      have p18 : (10 : Int) ^ Int.toNat 18 = 1000000000000000000 := by decide
      have c18 : CPow 10 18 := ⟨by decide, by decide, by decide⟩
      have hn : (n : Int) < 1048576 := by omega
      have mist : ∀ r', Mist (μ1.set a (mistO cs ((n + 1 : Nat)) r')) a b := fun r' => ⟨cs, n + 1, r', Mu.same, by omega⟩
      have mist1 : Mist μ1 a b := ⟨cs, n + 1, r, e1, by omega⟩
      have last : ∀ x : Int, Φ (.int (x % many)) μ1 := fun x => k _ _ (Int.emod_nonneg _ (by omega)) (Int.emod_lt_of_pos _ m0) k1 mist1
      refine ⟨.inl ⟨by decide, by decide⟩, ?_⟩
      simp only [vIx_iff (seqOf_of e1)]
      walk_at "wr"
      refine ⟨Nat.zero_le _, ?_⟩
      rw [vEq_iff (eqD_nil (cs := cs) (by show toPy μ1 (.lst _) = _; rw [toPy, toPys_ints]; rfl) (.inr ⟨_, rfl⟩))]
      refine ⟨_, rfl, ?_⟩
      by_cases hc : cs = []
      · rw [if_neg (by simpa using hc)]
        have mix := mix_ok (52501 * (n : Int) + 8117) (n := n) hn
        simp only [vIx_iff (seqOf_of e1)]
        walk_at "wr"
        have h0 : ¬(decide ((n : Int) < ((cs.map D.int).length : Int)) = true) := by rw [hc]; simp
        rw [if_neg h0]
        obtain ⟨c1, c2, c3, c4, c5, c6, c7, c8⟩ := mix
        exact ⟨by decide, c1, c2, by decide, c3, c4, c5, c6, c7, by decide, c8, m0, last _⟩
      · rw [if_pos (by simpa using hc)]
        simp only [vIx_iff (seqOf_of e1)]
        walk_at "wr"
        have hl : (0 : Int) < (cs.length : Int) := by
          cases cs with
          | nil => exact absurd rfl hc
          | cons _ _ => simp
        simp only [List.length_map]
        refine ⟨hl, ?_⟩
        obtain ⟨j, hj⟩ : ∃ j : Nat, (n : Int) % (cs.length : Int) = (j : Int) := ⟨((n : Int) % (cs.length : Int)).toNat, by have := Int.emod_nonneg (n : Int) (b := (cs.length : Int)) (by omega); omega⟩
        have hjl : j < cs.length := by have := Int.emod_lt_of_pos (n : Int) hl; omega
        rw [hj]
        refine ⟨.int cs[j], atI_nat (by simp [hjl]), ?_⟩
        generalize cs[j] = z
        simp only [vIx_iff (seqOf_of e1)]
        walk_at "wr"
        have mix := mix_ok z (n := n) hn
        rw [p18]
        generalize (if z < 0 then -z else z) = y
        refine ite_sp (fun h1 => ?_) (fun h1 => ?_)
        · refine ⟨c18, ite_sp (fun h2 => ?_) (fun h2 => ?_)⟩
          · refine ⟨c18, .inl ⟨by decide, by decide⟩, cd _, (vSet_iff e1).mpr ⟨2, rfl, m0, ?_⟩⟩
            refine k _ _ (Int.emod_nonneg _ (by omega)) (Int.emod_lt_of_pos _ m0) (k1.trans Nw.refl (Kp.set (.head _))) ?_
            exact mist _
          · obtain ⟨c1, c2, c3, c4, c5, c6, c7, c8⟩ := mix
            exact ⟨by decide, c1, c2, by decide, c3, c4, c5, c6, c7, by decide, c8, m0, last _⟩
        · obtain ⟨c1, c2, c3, c4, c5, c6, c7, c8⟩ := mix
          exact ⟨by decide, c1, c2, by decide, c3, c4, c5, c6, c7, by decide, c8, m0, last _⟩
theorem c__law_drop_2 {P : Program} {w : World} {K : PySem.W.Frag} {mg : Str → Option Value} {base : Heap} (T : Txt w K mg) : CanV P w K mg base CX0 [] 1 (He.ga K "_law_drop") 2 [] ([.inl 0, .inl 1].map (toArg [] [])) (sp__law_drop) :=
  canV_of (ps := ["_law_cloud_here", "_law_many"]) [.inl 0, .inl 1] T.f__law_drop (b__law_drop T) (fun _ _ _ _ _ _ us ws h1 h2 => match us, ws, h1, h2 with | [_, _], [], _, _ => rfl) (by decide)
def sp__law_one_of : VSp := fun ds μ ev Φ => ∃ (a : Addr) (es : List D) (b : Nat), ds = [.ref a, .lst es] ∧ es ≠ [] ∧ es.length ≤ 1000 ∧ Mist μ a (b + 1) ∧ ∀ e μ', e ∈ es → Kp [a] μ μ' → Mist μ' a b → Φ e μ'
theorem b__law_one_of {P : Program} {w : World} {K : PySem.W.Frag} {mg : Str → Option Value} {base : Heap} (T : Txt w K mg) : ∀ fd, FunD K "_law_one_of" "_law_one_of" (defArgs s__law_one_of) (defBody s__law_one_of) (defScope s__law_one_of) [] [] (He.ga K "_law_one_of") fd → FnG P w K mg base CX0 2 (He.ga K "_law_one_of") fd ["_law_cloud_here", "_law_some"] (lift K [] (sp__law_one_of)) := by
  intro fd F
  refine fun_okD (N := N__law_one_of) F sc__law_one_of (fun ds μ ev Φ h => ?size) (fun cdv A outer s H E hG hr => ⟨_, (vss_one (vs_ret (ve_ix ix_seq s_ix (vv 1) (ve_call T.g__law_drop (c__law_drop_2 T) hG hr (by decide) pass0 sel_0 rfl (va_cons (vv 0) (va_cons (ve_callB call_lenA s_len (by rfl) T.b_len (by decide +kernel) (va_cons (vv 1) va_nil)) va_nil)) vk_nil)))), fun ds μ ev Φ h => ?_⟩)
  · obtain ⟨a, es, b, rfl, _⟩ := h; rfl
  · obtain ⟨a, es, b, rfl, hne, hl, hm, k⟩ := h
    walk_at "wr"
    refine ⟨a, (es.length : Int), b, rfl, by cases es with | nil => exact absurd rfl hne | cons _ _ => simp, by omega, hm, fun v μ' v0 v1 k1 m1 => ?_⟩
    obtain ⟨j, rfl⟩ : ∃ j : Nat, v = (j : Int) := ⟨v.toNat, by omega⟩
    have hj : j < es.length := by omega
    walk_at "wr"
    exact ⟨es[j], atI_nat (by simp [hj]), k _ _ (List.getElem_mem hj) k1 m1⟩
theorem c__law_one_of_2 {P : Program} {w : World} {K : PySem.W.Frag} {mg : Str → Option Value} {base : Heap} (T : Txt w K mg) : CanV P w K mg base CX0 [] 2 (He.ga K "_law_one_of") 2 [] ([.inl 0, .inl 1].map (toArg [] [])) (sp__law_one_of) :=
  canV_of (ps := ["_law_cloud_here", "_law_some"]) [.inl 0, .inl 1] T.f__law_one_of (b__law_one_of T) (fun _ _ _ _ _ _ us ws h1 h2 => match us, ws, h1, h2 with | [_, _], [], _, _ => rfl) (by decide)

theorem Mist.setN {μ : Mu} {a f : Addr} {b : Nat} {m : MO} (h : Mist μ a b) (n : a ≠ f) : Mist (μ.set f m) a b := h.keep (F := [f]) (Kp.set (.head _)) (by simpa using n)
theorem Mist.ne {μ : Mu} {a f : Addr} {b : Nat} (h : Mist μ a b) (hf : μ f = none) : a ≠ f := fun e => by obtain ⟨_, _, _, e2, _⟩ := h; rw [e, hf] at e2; cases e2
end K00

set_option maxRecDepth 100000
set_option maxHeartbeats 4000000
namespace K00
open PySem L2 FW VL
local macro_rules | `(tactic| walk_at "vr") => `(tactic| simp only [wLenSet, wFor, wSetF, wAugF, wAug, wBM, wProp, wHeld, wVar, wC, wZ, wOp, wUn, wNil, wCons, wStar, wCB, wTup, wLst, wLstM, wTest, wAnd, wOr, VL.wNot, wAndV, wOrV, wNotV, wIf, wChain, wNoPart, wPart, wSl, wName, wGNil, wGCons, wGTup, wSub, wNext, VL.wSeq, wAsg, wDrop, wRet, wRetN, wIfS, wBreak, wCont, wPar, vI0, vI, vU, vAdd, vSub, vMul, vMod, vFdiv, vPow, vLt, vLe, vGt, vGe, vNeg, vIsN, vNotN, vAddA, vMulA, VL.wTru, iwL, iwT, wLc, vstart, List.map_cons, List.map_nil, List.cons_append, List.nil_append, List.set_cons_zero, List.set_cons_succ, List.getElem?_cons_zero, List.getElem?_cons_succ, Option.some.injEq, exists_eq_left, exists_eq_left', exists_eq', D.bl.injEq, D.int.injEq, D.str.injEq, D.tup.injEq, D.ref.injEq, List.cons.injEq, and_true, true_and, List.length_cons, List.length_nil, List.replicate, D.ty.injEq, exists_and_left, List.length, Nat.reduceAdd, wCall, wMake, wMeth, wFld, argsD, argD, toArg, List.getD_cons_zero, List.getD_cons_succ, List.map, iwS, vTupOf, Bool.false_eq_true, if_false, if_true, reduceIte, List.getElem?_nil, Nat.reduceSub, wipeR, vLen_lst, vLen_tup, vEq_ii, vEq_ss, vEq_bb, vIx_lst, vIx_tup, vIn_strs, vIn_s2, vIn_s3, vAll_map, vInK_s, vIxK_s, vInt_i, vAbs_i, atI_0, atI_1, atI_2, Bool.not_true, Bool.not_false, seqOf_lst, seqOf_tup, lstOf_lst, tupOf_tup, fzL_lst, wForget, fgt, wLc2, wDc, iwZB, vRepS, vSlT, vSlA, wCKw, vStrQ, iwSg, wDGet2, iwZS, wMkX, wMkXK, wMkX2, wXt, wErr, wDic0, wDispK, wRevL, wListRg, N_is_list, N_is_integer, N_is_within, N_are_integers, N_is_lot, N_is_short, N_are_shorts, N__law_cloud, N__law_drop, N__law_one_of, N__law_any, N__law_kin, N__law_stands, N__law_errors_right, N__law_is_integer, N__law_numbers_right, N__law_rows_right, N__law_lots_right, N_law])
local macro_rules | `(tactic| walk_at "wr") => `(tactic| simp only [vInt_bl, iwR1, iwR2, iwM, List.set_cons_succ, wLenSet, wFor, wSetF, wAugF, wAug, wBM, wProp, wHeld, wVar, wC, wZ, wOp, wUn, wNil, wCons, wStar, wCB, wTup, wLst, wLstM, wTest, wAnd, wOr, VL.wNot, wAndV, wOrV, wNotV, wIf, wChain, wNoPart, wPart, wSl, wName, wGNil, wGCons, wGTup, wSub, wNext, VL.wSeq, wAsg, wDrop, wRet, wRetN, wIfS, wBreak, wCont, wPar, vI0, vI, vU, vAdd, vSub, vMul, vMod, vFdiv, vPow, vLt, vLe, vGt, vGe, vNeg, vIsN, vNotN, vAddA_ii, vMulA_ii, VL.wTru, iwL, iwT, wLc, vstart, List.map_cons, List.map_nil, List.cons_append, List.nil_append, List.set_cons_zero, List.set_cons_succ, List.getElem?_cons_zero, List.getElem?_cons_succ, Option.some.injEq, exists_eq_left, exists_eq_left', exists_eq', D.bl.injEq, D.int.injEq, D.str.injEq, D.tup.injEq, D.ref.injEq, List.cons.injEq, and_true, true_and, List.length_cons, List.length_nil, List.replicate, D.ty.injEq, exists_and_left, List.length, Nat.reduceAdd, wCall, wMake, wMeth, wFld, argsD, argD, toArg, List.getD_cons_zero, List.getD_cons_succ, List.map, iwS, vTupOf, Bool.false_eq_true, if_false, if_true, reduceIte, List.getElem?_nil, Nat.reduceSub, wipeR, vLen_lst, vLen_tup, vEq_ii, vEq_ss, vEq_bb, vIx_lst, vIx_tup, vIn_strs, vIn_s2, vIn_s3, vAll_map, vInK_s, vIxK_s, vInt_i, vAbs_i, atI_0, atI_1, atI_2, Bool.not_true, Bool.not_false, seqOf_lst, seqOf_tup, lstOf_lst, tupOf_tup, fzL_lst, wForget, fgt, wLc2, wDc, iwZB, vRepS, vSlT, vSlA, wCKw, vStrQ, iwSg, wDGet2, iwZS, wMkX, wMkXK, wMkX2, wXt, wErr, wDic0, wDispK, wRevL, wListRg, N_is_list, N_is_integer, N_is_within, N_are_integers, N_is_lot, N_is_short, N_are_shorts, N__law_cloud, N__law_drop, N__law_one_of, N__law_any, N__law_kin, N__law_stands, N__law_errors_right, N__law_is_integer, N__law_numbers_right, N__law_rows_right, N__law_lots_right, N_law, ofStr_inj, ofStr_beq, String.reduceEq, decide_true, decide_false, Bool.or_false, Bool.or_true, Bool.false_or, Bool.true_or, Bool.and_true, Bool.and_false, Bool.true_and, Bool.false_and, vModN, iwE, iwEM])
local macro_rules | `(tactic| walk_at "frz") => `(tactic| ((try walk_at "vr"); refine ⟨_, frzOf_lst Mu.same, ?_⟩; rw [Mu.del_set (by assumption)]))
/-! ### what is told of texts of numbers -/
theorem push_len (q : Nat) : ∀ (l : List Nat) (acc : Array Nat), (∀ c ∈ l, (PySem.Builtin.Str.reprChar q c).length = 1) → (l.foldl (fun out c => out ++ (PySem.Builtin.Str.reprChar q c).toArray) acc).size = acc.size + l.length
  | [], acc, _ => rfl
  | c :: l, acc, h => by
    rw [List.foldl_cons, push_len q l _ fun x hx => h x (List.mem_cons_of_mem _ hx)]
    have := h c (List.mem_cons_self ..)
    simp only [Array.size_append, List.size_toArray, List.length_cons]
    omega
theorem repr_plain (t : Str) (h : ∀ c ∈ t.cps.toList, c = 45 ∨ (48 ≤ c ∧ c ≤ 57)) : (reprText t).length = t.length + 2 := by
  have one : ∀ q, q = 34 ∨ q = 39 → ∀ c, c = 45 ∨ (48 ≤ c ∧ c ≤ 57) → (PySem.Builtin.Str.reprChar q c).length = 1 := fun q hq c hc => by
    have all : ∀ q ∈ [34, 39], ∀ c ∈ [45, 48, 49, 50, 51, 52, 53, 54, 55, 56, 57], (PySem.Builtin.Str.reprChar q c).length = 1 := by decide +kernel
    refine all q (by simpa using hq) c ?_
    have : c = 45 ∨ c = 48 ∨ c = 49 ∨ c = 50 ∨ c = 51 ∨ c = 52 ∨ c = 53 ∨ c = 54 ∨ c = 55 ∨ c = 56 ∨ c = 57 := by omega
    simpa using this
  have hq : PySem.reprQuote t = 34 ∨ PySem.reprQuote t = 39 := by
    unfold PySem.reprQuote
    split
    · exact .inl rfl
    · exact .inr rfl
  show (Array.push (Array.foldl _ _ t.cps) _).size = t.cps.size + 2
  rw [Array.size_push, ← Array.foldl_toList, push_len _ _ _ fun c hc => one _ hq c (h c hc)]
  simp
  omega
theorem numS_chars (n : Int) : ∀ c ∈ (numS n).cps.toList, c = 45 ∨ (48 ≤ c ∧ c ≤ 57) := fun c hc => by
  rcases Int.eq_nat_or_neg n with ⟨m, rfl | rfl⟩
  · rw [numS_nat] at hc
    have := digL_all m c hc
    omega
  · by_cases m0 : m = 0
    · subst m0
      have e : numS (-((0 : Nat) : Int)) = numS ((0 : Nat) : Int) := rfl
      rw [e, numS_nat] at hc
      have := digL_all 0 c hc
      omega
    · rw [numS_neg m (by omega)] at hc
      rcases List.mem_cons.mp hc with h | h
      · exact .inl h
      · have := digL_all m c h
        omega
theorem numS_shown {n : Int} (h : n.natAbs < 10 ^ 10) : (reprText (numS n)).length ≤ 20 := by
  rw [repr_plain _ (numS_chars n)]
  have := (numS_len h).1
  omega
/-! ### a value of any kind -/
def SZ (x : D) : Prop := ∃ p, toPyX x = some p ∧ p.showable = true ∧ p.depth ≤ 2 ∧ wt p ≤ 10000
theorem int_sz {i : Int} (h : i.natAbs < 2 ^ 200) : (PyData.int i).showable = true := by
  show decide (i.natAbs.log2 < 1920) = true
  rw [decide_eq_true (Nat.lt_trans (log2_lt (k := 200) h (by decide)) (by decide))]
def sp__law_any : VSp := fun ds μ ev Φ => ∃ (a : Addr) (b : Nat), ds = [.ref a] ∧ Mist μ a (b + 2) ∧ ∀ x μ', SZ x → Kp [a] μ μ' → Mist μ' a b → Φ x μ'
theorem b__law_any {P : Program} {w : World} {K : PySem.W.Frag} {mg : Str → Option Value} {base : Heap} (T : Txt w K mg) : ∀ fd, FunD K "_law_any" "_law_any" (defArgs s__law_any) (defBody s__law_any) (defScope s__law_any) [] [] (He.ga K "_law_any") fd → FnG P w K mg base CX0 3 (He.ga K "_law_any") fd ["_law_cloud_here"] (lift K [] (sp__law_any)) := by
  intro fd F
  refine fun_okD (N := N__law_any) F sc__law_any (fun ds μ ev Φ h => ?size) (fun cdv A outer s H E hG hr => ⟨_, (vss_cons (vs_set (i := 1) sc__law_any.nd rfl (Or.inl rfl) (ve_op op_sub s_sub (ve_call T.g__law_drop (c__law_drop_2 T) hG hr (by decide) pass0 sel_0 rfl (va_cons (vv 0) (va_cons (ve_op op_pow s_pow ve_int ve_int) va_nil)) vk_nil) ve_int))
 (vss_cons (vs_set (i := 2) sc__law_any.nd rfl (Or.inl rfl) (ve_lst (va_cons (vv 1) (va_cons (ve_callTy call_str_int s_strI (by rfl) T.b_str (by decide +kernel) (va_cons (vv 1) va_nil)) (va_cons ve_str (va_cons ve_non (va_cons ve_bl (va_cons ve_bl (va_cons (ve_lst (va_cons (vv 1) va_nil)) (va_cons (ve_tup (va_cons (vv 1) (va_cons (ve_lst (va_cons ve_non va_nil)) va_nil))) (va_cons ve_dic0 (va_cons (ve_z (ve_dispK (vv 1) ve_str)) (va_cons (ve_op op_addA s_addA (ve_op op_pow s_pow ve_int ve_int) (vv 1)) (va_cons (ve_lst va_nil) va_nil))))))))))))))
 (vss_one (vs_ret (ve_call T.g__law_one_of (c__law_one_of_2 T) hG hr (by decide) pass0 sel_0 rfl (va_cons (vv 0) (va_cons (vv 2) va_nil)) vk_nil))))), fun ds μ ev Φ h => ?_⟩)
  · obtain ⟨a, b, rfl, _⟩ := h; rfl
  · obtain ⟨a, b, rfl, hm, k⟩ := h
    walk_at "wr"
    refine ⟨⟨by decide, by decide, by decide⟩, a, _, b + 1, rfl, by decide, by decide, hm, fun v μ1 v0 v1 k1 m1 => ?_⟩
    walk_at "wr"
    have v1' : v < 1000000 := v1
    obtain ⟨n, hn⟩ : ∃ n : Int, n = v - 500000 := ⟨_, rfl⟩
    have hn1 : n.natAbs ≤ 500000 := by omega
    rw [← hn]
    clear hn v0 v1 v1'
    refine ⟨n, rfl, Nat.lt_trans (log2_lt (k := 200) (by omega) (by decide)) (by decide), ?_⟩
    refine ⟨sizeOk (by decide), sizeOk (by decide), sizeOk (by decide), ?_⟩
    intro p hp
    refine ⟨.inl n, rfl, Mu.same, .dic [.inl n] [.str "a"], ?_, ⟨by decide, by decide, by decide⟩, sizeOk (by decide), sizeOk (by decide), ?_⟩
    · unfold frzOf
      rw [Mu.same]
    rw [Mu.set_set, Mu.del_set hp]
    refine ⟨a, _, b, rfl, by simp, by simp, m1, fun e μ2 he k2 m2 => k e μ2 ?_ (k1.trans Nw.refl k2) m2⟩
    have s1 : (PyData.int n).showable = true := int_sz (Nat.lt_of_le_of_lt hn1 (by decide))
    have e40 : (10 : Int) ^ Int.toNat 40 = 10000000000000000000000000000000000000000 := by decide
    rw [e40] at he
    have s2 : (PyData.int (10000000000000000000000000000000000000000 + n)).showable = true := int_sz (by omega)
    have l1 := numS_shown (n := n) (by omega)
    have dl : Str.length (dictText (PyData.shownKv [(PyData.int n, PyData.str "a")])) ≤ 10000 := by
      have a1 := shown_le s1
      have a2 : (PyData.str "a").shown.length ≤ 3 := by decide +kernel
      have a3 : wt (PyData.int n) = 1921 := rfl
      have e1 : ("{" : Str).length = 1 := by decide +kernel
      have e2 : ("}" : Str).length = 1 := by decide +kernel
      have e3 : (": " : Str).length = 2 := by decide +kernel
      simp only [PyData.shownKv, dictText, Str.join, Str.length_append]
      omega
    simp only [List.mem_cons, List.not_mem_nil, or_false] at he
    rcases he with rfl | rfl | rfl | rfl | rfl | rfl | rfl | rfl | rfl | rfl | rfl | rfl
    · exact ⟨_, rfl, s1, by show 0 ≤ 2; decide, by show 1921 ≤ 10000; decide⟩
    · exact ⟨_, rfl, rfl, by show 0 ≤ 2; decide, by show (reprText (numS n)).length ≤ 10000; omega⟩
    · exact ⟨_, rfl, rfl, by decide, by show (reprText "").length ≤ 10000; decide +kernel⟩
    · exact ⟨_, rfl, rfl, by decide, by decide⟩
    · exact ⟨_, rfl, rfl, by decide, by decide⟩
    · exact ⟨_, rfl, rfl, by decide, by decide⟩
    · exact ⟨_, rfl, by show ((PyData.int n).showable && true) = true; rw [s1]; rfl, by simp [PyData.depth, PyData.depthAll], by show 1921 + 2 + 0 + 4 ≤ 10000; decide⟩
    · exact ⟨_, rfl, by show ((PyData.int n).showable && true) = true; rw [s1]; rfl, by simp [PyData.depth, PyData.depthAll], by show 1921 + 2 + (4 + 2 + 0 + 4 + 2 + 0) + 4 ≤ 10000; decide⟩
    · exact ⟨_, rfl, rfl, by decide, by show Str.length _ ≤ 10000; decide +kernel⟩
    · exact ⟨_, rfl, by simp [PyData.showable, PyData.showableKv] at s1 ⊢; simpa [kP, PyData.showable] using s1, by simp [PyData.depth, PyData.depthKv, kP], dl⟩
    · exact ⟨_, rfl, s2, by show 0 ≤ 2; decide, by show 1921 ≤ 10000; decide⟩
    · exact ⟨_, rfl, rfl, by decide, by show 4 ≤ 10000; decide⟩
theorem c__law_any_1 {P : Program} {w : World} {K : PySem.W.Frag} {mg : Str → Option Value} {base : Heap} (T : Txt w K mg) : CanV P w K mg base CX0 [] 3 (He.ga K "_law_any") 1 [] ([.inl 0].map (toArg [] [])) (sp__law_any) :=
  canV_of (ps := ["_law_cloud_here"]) [.inl 0] T.f__law_any (b__law_any T) (fun _ _ _ _ _ _ us ws h1 h2 => match us, ws, h1, h2 with | [_], [], _, _ => rfl) (by decide)
/-! ### lists of truths -/
theorem toPys_bls (μ : Mu) : ∀ bs : List Bool, toPys μ (bs.map .bl) = some (bs.map .bool)
  | [] => rfl
  | b :: bs => by
    rw [List.map_cons, List.map_cons]
    unfold toPys
    rw [toPys_bls μ bs]
    rfl
theorem bls_lay : ∀ bs : List Bool, PyData.canLayAll0 (bs.map .bool) = true ∧ PyData.depthAll (bs.map .bool) = 0
  | [] => ⟨rfl, rfl⟩
  | b :: bs => by
    rw [List.map_cons, PyData.canLayAll0, (bls_lay bs).1, PyData.depthAll, (bls_lay bs).2]
    exact ⟨rfl, rfl⟩
theorem shaped_bls (bs : List Bool) : SeqAt.shaped (.list (bs.map .bool)) = true := by
  unfold SeqAt.shaped
  rw [Bool.and_eq_true, decide_eq_true_eq, PyData.canLay0, PyData.depth, (bls_lay bs).2]
  exact ⟨(bls_lay bs).1, by decide⟩
theorem eqvA_bls : ∀ bs : List Bool, PyData.eqvAll (bs.map .bool) (bs.map .bool) = true
  | [] => rfl
  | b :: bs => by
    rw [List.map_cons, PyData.eqvAll, eqvA_bls bs]
    cases b <;> rfl
theorem eqD_bls {μ : Mu} (bs : List Bool) : eqD μ (.lst (bs.map .bl)) (.lst (bs.map .bl)) = some true := by
  have h : toPyT μ (.lst (bs.map .bl)) = some (.list (bs.map .bool)) := by
    show toPy μ (.lst _) = _
    rw [toPy, toPys_bls]
    rfl
  show (match toPyT μ (.lst (bs.map .bl)), toPyT μ (.lst (bs.map .bl)) with | some p, some q => pyEq p q | _, _ => none) = some true
  rw [h]
  show pyEq _ _ = _
  unfold pyEq
  rw [shaped_bls]
  simp only [Bool.and_self, if_true]
  show some (PyData.eqvAll _ _) = _
  rw [eqvA_bls]
/-! ### of which classes an error is -/
def nameN (i : Nat) : Str := (["BadNumber", "BadNet", "BadProgram", "BadCode", "BadStanding", "BadWorld", "BadEvent", "BadPaper", "Misfit", "Twice", "Unknown", "TooMany", "BadText"] : List Str).getD i ""
def sp__law_kin (K : PySem.W.Frag) : VSp := fun ds μ ev Φ => ∃ (x : D) (C : Addr) (g : Nat → Bool), ds = [x] ∧ ((∃ ns ds, x = .exc C ns ds) ∨ ∃ a, x = .ref a ∧ μ a = some (errM C a)) ∧ ExcC K C ∧ (∀ j, j < 13 → PySem.W.kitOne K (.ref C) (.ref (He.ga K (nameN j))) = some (g j)) ∧ Φ (.lst (((List.range 13).map g).map .bl)) μ
theorem b__law_kin {P : Program} {w : World} {K : PySem.W.Frag} {mg : Str → Option Value} {base : Heap} (T : Txt w K mg) : ∀ fd, FunD K "_law_kin" "_law_kin" (defArgs s__law_kin) (defBody s__law_kin) (defScope s__law_kin) [] [] (He.ga K "_law_kin") fd → FnG P w K mg base CX0 1 (He.ga K "_law_kin") fd ["_law_error"] (lift K [] (sp__law_kin K)) := by
  intro fd F
  refine fun_okD (N := N__law_kin) F sc__law_kin (fun ds μ ev Φ h => ?size) (fun cdv A outer s H E hG hr => ⟨_, (vss_cons (vs_set (i := 1) sc__law_kin.nd rfl (Or.inl rfl) (ve_lst (va_cons (ve_callB call_isA s_isF (by rfl) T.b_isinstance (by decide +kernel) (va_cons (vv 0) (va_cons (ve_gref rfl T.g_BadNumber) va_nil))) (va_cons (ve_callB call_isA s_isF (by rfl) T.b_isinstance (by decide +kernel) (va_cons (vv 0) (va_cons (ve_gref rfl T.g_BadNet) va_nil))) (va_cons (ve_callB call_isA s_isF (by rfl) T.b_isinstance (by decide +kernel) (va_cons (vv 0) (va_cons (ve_gref rfl T.g_BadProgram) va_nil))) (va_cons (ve_callB call_isA s_isF (by rfl) T.b_isinstance (by decide +kernel) (va_cons (vv 0) (va_cons (ve_gref rfl T.g_BadCode) va_nil))) va_nil))))))
 (vss_cons (vs_set (i := 1) sc__law_kin.nd rfl (Or.inl rfl) (ve_op op_addA s_addA (vv 1) (ve_lst (va_cons (ve_callB call_isA s_isF (by rfl) T.b_isinstance (by decide +kernel) (va_cons (vv 0) (va_cons (ve_gref rfl T.g_BadStanding) va_nil))) (va_cons (ve_callB call_isA s_isF (by rfl) T.b_isinstance (by decide +kernel) (va_cons (vv 0) (va_cons (ve_gref rfl T.g_BadWorld) va_nil))) (va_cons (ve_callB call_isA s_isF (by rfl) T.b_isinstance (by decide +kernel) (va_cons (vv 0) (va_cons (ve_gref rfl T.g_BadEvent) va_nil))) va_nil))))))
 (vss_cons (vs_set (i := 1) sc__law_kin.nd rfl (Or.inl rfl) (ve_op op_addA s_addA (vv 1) (ve_lst (va_cons (ve_callB call_isA s_isF (by rfl) T.b_isinstance (by decide +kernel) (va_cons (vv 0) (va_cons (ve_gref rfl T.g_BadPaper) va_nil))) (va_cons (ve_callB call_isA s_isF (by rfl) T.b_isinstance (by decide +kernel) (va_cons (vv 0) (va_cons (ve_gref rfl T.g_Misfit) va_nil))) (va_cons (ve_callB call_isA s_isF (by rfl) T.b_isinstance (by decide +kernel) (va_cons (vv 0) (va_cons (ve_gref rfl T.g_Twice) va_nil))) (va_cons (ve_callB call_isA s_isF (by rfl) T.b_isinstance (by decide +kernel) (va_cons (vv 0) (va_cons (ve_gref rfl T.g_Unknown) va_nil))) va_nil)))))))
 (vss_one (vs_ret (ve_op op_addA s_addA (vv 1) (ve_lst (va_cons (ve_callB call_isA s_isF (by rfl) T.b_isinstance (by decide +kernel) (va_cons (vv 0) (va_cons (ve_gref rfl T.g_TooMany) va_nil))) (va_cons (ve_callB call_isA s_isF (by rfl) T.b_isinstance (by decide +kernel) (va_cons (vv 0) (va_cons (ve_gref rfl T.g_BadText) va_nil))) va_nil))))))))), fun ds μ ev Φ h => ?_⟩)
  · obtain ⟨x, C, g, rfl, _⟩ := h; rfl
  · obtain ⟨x, C, g, rfl, hx, hC, hg, q⟩ := h
    have one : ∀ j (Ψ : WK), j < 13 → Ψ (.bl (g j)) μ → vIsF K [x, .ref (He.ga K (nameN j))] μ Ψ := fun j Ψ hj q => .inr ⟨_, _, _, _, _, rfl, hx, hC, .own _, hg j hj, q⟩
    walk_at "wr"
    refine one 0 _ (by decide) (one 1 _ (by decide) (one 2 _ (by decide) (one 3 _ (by decide) ?_)))
    refine ⟨sizeOk (by decide), ?_⟩
    refine one 4 _ (by decide) (one 5 _ (by decide) (one 6 _ (by decide) ?_))
    refine ⟨sizeOk (by decide), ?_⟩
    rw [vAddA_ll]
    refine ⟨sizeOk (by simp), ?_⟩
    refine one 7 _ (by decide) (one 8 _ (by decide) (one 9 _ (by decide) (one 10 _ (by decide) ?_)))
    refine ⟨sizeOk (by decide), ?_⟩
    rw [vAddA_ll]
    refine ⟨sizeOk (by simp), ?_⟩
    refine one 11 _ (by decide) (one 12 _ (by decide) ?_)
    refine ⟨sizeOk (by decide), ?_⟩
    rw [vAddA_ll]
    exact ⟨sizeOk (by simp), q⟩
theorem c__law_kin_1 {P : Program} {w : World} {K : PySem.W.Frag} {mg : Str → Option Value} {base : Heap} (T : Txt w K mg) : CanV P w K mg base CX0 [] 1 (He.ga K "_law_kin") 1 [] ([.inl 0].map (toArg [] [])) (sp__law_kin K) :=
  canV_of (ps := ["_law_error"]) [.inl 0] T.f__law_kin (b__law_kin T) (fun _ _ _ _ _ _ us ws h1 h2 => match us, ws, h1, h2 with | [_], [], _, _ => rfl) (by decide)
theorem exN {w : World} {K : PySem.W.Frag} {mg : Str → Option Value} (T : Txt w K mg) (i : Nat) (h : i < 13) : ExcC K (He.ga K (nameN i)) := by
  match i, h with
  | 0, _ => exact (T.o_xk_BadNumber (P := PySem.Challenge.pw_fairweather_k00_errors_and_plain_values) (base := {})).exn.exc
  | 1, _ => exact (T.o_xk_BadNet (P := PySem.Challenge.pw_fairweather_k00_errors_and_plain_values) (base := {})).exn.exc
  | 2, _ => exact (T.o_xk_BadProgram (P := PySem.Challenge.pw_fairweather_k00_errors_and_plain_values) (base := {})).exn.exc
  | 3, _ => exact (T.o_xk_BadCode (P := PySem.Challenge.pw_fairweather_k00_errors_and_plain_values) (base := {})).exn.exc
  | 4, _ => exact (T.o_xk_BadStanding (P := PySem.Challenge.pw_fairweather_k00_errors_and_plain_values) (base := {})).exn.exc
  | 5, _ => exact (T.o_xk_BadWorld (P := PySem.Challenge.pw_fairweather_k00_errors_and_plain_values) (base := {})).exn.exc
  | 6, _ => exact (T.o_xk_BadEvent (P := PySem.Challenge.pw_fairweather_k00_errors_and_plain_values) (base := {})).exn.exc
  | 7, _ => exact (T.o_xk_BadPaper (P := PySem.Challenge.pw_fairweather_k00_errors_and_plain_values) (base := {})).exn.exc
  | 8, _ => exact (T.o_xk_Misfit (P := PySem.Challenge.pw_fairweather_k00_errors_and_plain_values) (base := {})).exn.exc
  | 9, _ => exact (T.o_xk_Twice (P := PySem.Challenge.pw_fairweather_k00_errors_and_plain_values) (base := {})).exn.exc
  | 10, _ => exact (T.o_xk_Unknown (P := PySem.Challenge.pw_fairweather_k00_errors_and_plain_values) (base := {})).exn.exc
  | 11, _ => exact (T.o_x2_TooMany (P := PySem.Challenge.pw_fairweather_k00_errors_and_plain_values) (base := {})).exc
  | 12, _ => exact (T.o_xk_BadText (P := PySem.Challenge.pw_fairweather_k00_errors_and_plain_values) (base := {})).exn.exc
  | k + 13, h => omega
def sp__law_stands (K : PySem.W.Frag) : VSp := fun ds μ ev Φ => ∃ (i : Nat) (ns : List Str) (fs : List D), ds = [.exc (He.ga K (nameN i)) ns fs, .int (i : Nat)] ∧ i < 13 ∧ Φ (.bl true) μ
theorem b__law_stands {P : Program} {w : World} {K : PySem.W.Frag} {mg : Str → Option Value} {base : Heap} (T : Txt w K mg) : ∀ fd, FunD K "_law_stands" "_law_stands" (defArgs s__law_stands) (defBody s__law_stands) (defScope s__law_stands) [] [] (He.ga K "_law_stands") fd → FnG P w K mg base CX0 2 (He.ga K "_law_stands") fd ["_law_error", "_law_at"] (lift K [] (sp__law_stands K)) := by
  intro fd F
  refine fun_okD (N := N__law_stands) F sc__law_stands (fun ds μ ev Φ h => ?size) (fun cdv A outer s H E hG hr => ⟨_, (vss_cons (vs_if (PW.pt (vw_or (vt_not (vt_val (ve_callB call_isA s_isF (by rfl) T.b_isinstance (by decide +kernel) (va_cons (vv 0) (va_cons (ve_gref rfl T.g_WeatherError) va_nil))))) (vw_or1 (vt_not (vt_val (ve_callB call_isA s_isF (by rfl) T.b_isinstance (by decide +kernel) (va_cons (vv 0) (va_cons (ve_ty (n := "ValueError") rfl T.b_ValueError (by decide +kernel)) va_nil))))))))
 (vss_one (vs_ret ve_bl))
 vss_nil)
 (vss_cons (vs_if (vt_val (ve_callB call_isXTK s_isXT (by rfl) T.b_isinstance (by decide +kernel) (va_cons (vv 0) (va_cons (ve_tup (va_cons (ve_ty (n := "LookupError") rfl T.b_LookupError (by decide +kernel)) (va_cons (ve_ty (n := "TypeError") rfl T.b_TypeError (by decide +kernel)) (va_cons (ve_ty (n := "ArithmeticError") rfl T.b_ArithmeticError (by decide +kernel)) (va_cons (ve_ty (n := "AttributeError") rfl T.b_AttributeError (by decide +kernel)) (va_cons (ve_ty (n := "RuntimeError") rfl T.b_RuntimeError (by decide +kernel)) va_nil)))))) va_nil))))
 (vss_one (vs_ret ve_bl))
 vss_nil)
 (vss_one (vs_ret (ve_cmp (op_eqA hr.units) s_eq (ve_call T.g__law_kin (c__law_kin_1 T) hG hr (by decide) pass0 sel_0 rfl (va_cons (vv 0) va_nil) vk_nil) (ve_z (ve_lc (own := [("_law_spot", 2)]) (p := (.name 2)) rfl sc__law_stands.nd (vi_range1 (by rfl) T.b_range (va_cons ve_int va_nil)) (blkOk_by (N := N__law_stands) (sc := defScope s__law_stands) (by decide +kernel)) (fun _ _ _ _ _ => pg_name (i := 2) sc__law_stands.nd rfl (Or.inl rfl)) (fun _ _ _ _ _ => vts_nil) (fun _ _ _ _ _ => (ve_cmp (op_eqA hr.units) s_eq (vv 2) (vv 1) (nomark _))) (by decide))) (nomark _)))))), fun ds μ ev Φ h => ?_⟩)
  · obtain ⟨i, ns, fs, rfl, _⟩ := h; rfl
  · obtain ⟨i, ns, fs, rfl, hi, q⟩ := h
    have hE := exN T i hi
    walk_at "wr"
    refine .inr ⟨_, _, _, _, true, rfl, .inl ⟨_, _, rfl⟩, hE, .own _, T.o_kinW i hi, ?_⟩
    walk_at "wr"
    refine .inr ⟨_, _, _, _, true, rfl, .inl ⟨_, _, rfl⟩, hE, .ty _, T.o_kinV i hi, ?_⟩
    walk_at "wr"
    refine ⟨sizeOk (by decide), ?_⟩
    refine ⟨_, _, _, ["LookupError", "TypeError", "ArithmeticError", "AttributeError", "RuntimeError"], false, rfl, hE, T.o_kinX i hi, ?_⟩
    walk_at "wr"
    refine ⟨_, _, fun j => decide (i = j), rfl, .inl ⟨_, _, rfl⟩, hE, fun j hj => T.o_kin i j hi hj, ?_⟩
    walk_at "wr"
    refine ⟨by decide, by decide, ?_⟩
    refine lcm (g := fun d => .bl (match d with | .int j => decide (j = (i : Int)) | _ => false)) (by rw [List.length_map, List.length_range]; exact sizeOk (by decide)) (fun d hd => ⟨_, rfl, fun Ds l Ψ nD q2 => ?_⟩) fun Ds nD => ?_
    · obtain ⟨j, _, rfl⟩ := List.mem_map.mp hd
      walk_at "wr"
      exact q2
    · walk_at "frz"
      have e : (List.map (fun k : Nat => D.int (k : Int)) (List.range (Int.toNat 13))).map (fun d => D.bl (match d with | .int j => decide (j = (i : Int)) | _ => false)) = (List.map (fun j => decide (i = j)) (List.range 13)).map D.bl := by
        rw [List.map_map, List.map_map]
        refine List.map_congr_left fun j _ => ?_
        show D.bl (decide ((j : Int) = (i : Int))) = D.bl (decide (i = j))
        congr 1
        rw [decide_eq_decide]
        omega
      rw [e, vEq_iff (eqD_bls _)]
      exact q
theorem c__law_stands_2 {P : Program} {w : World} {K : PySem.W.Frag} {mg : Str → Option Value} {base : Heap} (T : Txt w K mg) : CanV P w K mg base CX0 [] 2 (He.ga K "_law_stands") 2 [] ([.inl 0, .inl 1].map (toArg [] [])) (sp__law_stands K) :=
  canV_of (ps := ["_law_error", "_law_at"]) [.inl 0, .inl 1] T.f__law_stands (b__law_stands T) (fun _ _ _ _ _ _ us ws h1 h2 => match us, ws, h1, h2 with | [_, _], [], _, _ => rfl) (by decide)
end K00

set_option maxRecDepth 100000
set_option maxHeartbeats 4000000
namespace K00
open PySem L2 FW VL
local macro_rules | `(tactic| walk_at "wr") => `(tactic| simp only [vInt_bl, iwR1, iwR2, iwM, List.set_cons_succ, wLenSet, wFor, wSetF, wAugF, wAug, wBM, wProp, wHeld, wVar, wC, wZ, wOp, wUn, wNil, wCons, wStar, wCB, wTup, wLst, wLstM, wTest, wAnd, wOr, VL.wNot, wAndV, wOrV, wNotV, wIf, wChain, wNoPart, wPart, wSl, wName, wGNil, wGCons, wGTup, wSub, wNext, VL.wSeq, wAsg, wDrop, wRet, wRetN, wIfS, wBreak, wCont, wPar, vI0, vI, vU, vAdd, vSub, vMul, vMod, vFdiv, vPow, vLt, vLe, vGt, vGe, vNeg, vIsN, vNotN, vAddA_ii, vMulA_ii, VL.wTru, iwL, iwT, wLc, vstart, List.map_cons, List.map_nil, List.cons_append, List.nil_append, List.set_cons_zero, List.set_cons_succ, List.getElem?_cons_zero, List.getElem?_cons_succ, Option.some.injEq, exists_eq_left, exists_eq_left', exists_eq', D.bl.injEq, D.int.injEq, D.str.injEq, D.tup.injEq, D.ref.injEq, List.cons.injEq, and_true, true_and, List.length_cons, List.length_nil, List.replicate, D.ty.injEq, exists_and_left, List.length, Nat.reduceAdd, wCall, wMake, wMeth, wFld, argsD, argD, toArg, List.getD_cons_zero, List.getD_cons_succ, List.map, iwS, vTupOf, Bool.false_eq_true, if_false, if_true, reduceIte, List.getElem?_nil, Nat.reduceSub, wipeR, vLen_lst, vLen_tup, vEq_ii, vEq_ss, vEq_bb, vIx_lst, vIx_tup, vIn_strs, vIn_s2, vIn_s3, vAll_map, vInK_s, vIxK_s, vInt_i, vAbs_i, atI_0, atI_1, atI_2, Bool.not_true, Bool.not_false, seqOf_lst, seqOf_tup, lstOf_lst, tupOf_tup, fzL_lst, wForget, fgt, wLc2, wDc, iwZB, vRepS, vSlT, vSlA, wCKw, vStrQ, iwSg, wDGet2, iwZS, wMkX, wMkXK, wMkX2, wXt, wErr, wDic0, wDispK, wRevL, wListRg, N_is_list, N_is_integer, N_is_within, N_are_integers, N_is_lot, N_is_short, N_are_shorts, N__law_cloud, N__law_drop, N__law_one_of, N__law_any, N__law_kin, N__law_stands, N__law_errors_right, N__law_is_integer, N__law_numbers_right, N__law_rows_right, N__law_lots_right, N_law, ofStr_inj, ofStr_beq, String.reduceEq, decide_true, decide_false, Bool.or_false, Bool.or_true, Bool.false_or, Bool.true_or, Bool.and_true, Bool.and_false, Bool.true_and, Bool.false_and, vModN, iwE, iwEM])
/-! ### errors of all classes -/
theorem SZ.show {x : D} (h : SZ x) : ∃ p, toPyX x = some p ∧ ShowOk p := by
  obtain ⟨p, e, s, d, w⟩ := h
  exact ⟨p, e, showOk_of s (by omega) (by omega)⟩
theorem show2 {x y : D} (hx : SZ x) (hy : SZ y) : ∃ p, toPyX (.lst [x, y]) = some p ∧ ShowOk p := by
  obtain ⟨p, e, s, d, w⟩ := hx
  obtain ⟨q, e2, s2, d2, w2⟩ := hy
  refine ⟨.list [p, q], ?_, showOk_of ?_ ?_ ?_⟩
  · show (toPysX [x, y]).map PyData.list = _
    simp only [toPysX, e, e2]
    rfl
  · show (p.showable && (q.showable && true)) = true
    rw [s, s2]
    rfl
  · show PyData.depthAll [p, q] + 1 ≤ 60
    simp only [PyData.depthAll]
    omega
  · show wt p + 2 + (wt q + 2 + 0) + 4 ≤ _
    omega
theorem xN {w : World} {K : PySem.W.Frag} {mg : Str → Option Value} (T : Txt w K mg) (i : Nat) (h : i < 9) : XfC K (He.ga K (nameN i)) ∧ PySem.W.findIn K (.ref (He.ga K (nameN i))) "part" = some none := by
  match i, h with
  | 0, _ => exact ⟨(T.o_xk_BadNumber (P := PySem.Challenge.pw_fairweather_k00_errors_and_plain_values) (base := {})).exn.xf, (T.o_xk_BadNumber (P := PySem.Challenge.pw_fairweather_k00_errors_and_plain_values) (base := {})).exn.no⟩
  | 1, _ => exact ⟨(T.o_xk_BadNet (P := PySem.Challenge.pw_fairweather_k00_errors_and_plain_values) (base := {})).exn.xf, (T.o_xk_BadNet (P := PySem.Challenge.pw_fairweather_k00_errors_and_plain_values) (base := {})).exn.no⟩
  | 2, _ => exact ⟨(T.o_xk_BadProgram (P := PySem.Challenge.pw_fairweather_k00_errors_and_plain_values) (base := {})).exn.xf, (T.o_xk_BadProgram (P := PySem.Challenge.pw_fairweather_k00_errors_and_plain_values) (base := {})).exn.no⟩
  | 3, _ => exact ⟨(T.o_xk_BadCode (P := PySem.Challenge.pw_fairweather_k00_errors_and_plain_values) (base := {})).exn.xf, (T.o_xk_BadCode (P := PySem.Challenge.pw_fairweather_k00_errors_and_plain_values) (base := {})).exn.no⟩
  | 4, _ => exact ⟨(T.o_xk_BadStanding (P := PySem.Challenge.pw_fairweather_k00_errors_and_plain_values) (base := {})).exn.xf, (T.o_xk_BadStanding (P := PySem.Challenge.pw_fairweather_k00_errors_and_plain_values) (base := {})).exn.no⟩
  | 5, _ => exact ⟨(T.o_xk_BadWorld (P := PySem.Challenge.pw_fairweather_k00_errors_and_plain_values) (base := {})).exn.xf, (T.o_xk_BadWorld (P := PySem.Challenge.pw_fairweather_k00_errors_and_plain_values) (base := {})).exn.no⟩
  | 6, _ => exact ⟨(T.o_xk_BadEvent (P := PySem.Challenge.pw_fairweather_k00_errors_and_plain_values) (base := {})).exn.xf, (T.o_xk_BadEvent (P := PySem.Challenge.pw_fairweather_k00_errors_and_plain_values) (base := {})).exn.no⟩
  | 7, _ => exact ⟨(T.o_xk_BadPaper (P := PySem.Challenge.pw_fairweather_k00_errors_and_plain_values) (base := {})).exn.xf, (T.o_xk_BadPaper (P := PySem.Challenge.pw_fairweather_k00_errors_and_plain_values) (base := {})).exn.no⟩
  | 8, _ => exact ⟨(T.o_xk_Misfit (P := PySem.Challenge.pw_fairweather_k00_errors_and_plain_values) (base := {})).exn.xf, (T.o_xk_Misfit (P := PySem.Challenge.pw_fairweather_k00_errors_and_plain_values) (base := {})).exn.no⟩
  | k + 9, h => omega
def madeD (K : PySem.W.Frag) (x : D) : List D := (List.range 9).map fun i => .exc (He.ga K (nameN i)) ["part"] [x]
def sp__law_errors_right (K : PySem.W.Frag) : VSp := fun ds μ ev Φ => ∃ x y, ds = [x, y] ∧ SZ x ∧ SZ y ∧ ∀ μ', Kp [] μ μ' → Φ (.bl true) μ'
theorem b__law_errors_right {P : Program} {w : World} {K : PySem.W.Frag} {mg : Str → Option Value} {base : Heap} (T : Txt w K mg) : ∀ fd, FunD K "_law_errors_right" "_law_errors_right" (defArgs s__law_errors_right) (defBody s__law_errors_right) (defScope s__law_errors_right) [] [] (He.ga K "_law_errors_right") fd → FnG P w K mg base CX0 5 (He.ga K "_law_errors_right") fd ["_law_one", "_law_other"] (lift K [] (sp__law_errors_right K)) := by
  intro fd F
  refine fun_okD (N := N__law_errors_right) F sc__law_errors_right (fun ds μ ev Φ h => ?size) (fun cdv A outer s H E hG hr => ⟨_, (vss_cons (vs_set (i := 2) sc__law_errors_right.nd rfl (Or.inl rfl) (ve_lst (va_cons (ve_mkX T.o_xk_BadNumber (hr.mono (by decide)) (fun _ _ _ _ _ _ _ z => z.elim) (va_cons (vv 0) va_nil) rfl) (va_cons (ve_mkX T.o_xk_BadNet (hr.mono (by decide)) (fun _ _ _ _ _ _ _ z => z.elim) (va_cons (vv 0) va_nil) rfl) (va_cons (ve_mkX T.o_xk_BadProgram (hr.mono (by decide)) (fun _ _ _ _ _ _ _ z => z.elim) (va_cons (vv 0) va_nil) rfl) (va_cons (ve_mkX T.o_xk_BadCode (hr.mono (by decide)) (fun _ _ _ _ _ _ _ z => z.elim) (va_cons (vv 0) va_nil) rfl) (va_cons (ve_mkX T.o_xk_BadStanding (hr.mono (by decide)) (fun _ _ _ _ _ _ _ z => z.elim) (va_cons (vv 0) va_nil) rfl) (va_cons (ve_mkX T.o_xk_BadWorld (hr.mono (by decide)) (fun _ _ _ _ _ _ _ z => z.elim) (va_cons (vv 0) va_nil) rfl) (va_cons (ve_mkX T.o_xk_BadEvent (hr.mono (by decide)) (fun _ _ _ _ _ _ _ z => z.elim) (va_cons (vv 0) va_nil) rfl) va_nil)))))))))
 (vss_cons (vs_set (i := 2) sc__law_errors_right.nd rfl (Or.inl rfl) (ve_op op_addA s_addA (vv 2) (ve_lst (va_cons (ve_mkX T.o_xk_BadPaper (hr.mono (by decide)) (fun _ _ _ _ _ _ _ z => z.elim) (va_cons (vv 0) va_nil) rfl) (va_cons (ve_mkX T.o_xk_Misfit (hr.mono (by decide)) (fun _ _ _ _ _ _ _ z => z.elim) (va_cons (vv 0) va_nil) rfl) va_nil)))))
 (vss_cons (vs_set (i := 3) sc__law_errors_right.nd rfl (Or.inl rfl) (ve_lst (va_cons (ve_mkXK T.o_xk_BadNumber (hr.mono (by decide)) (fun _ _ _ _ _ _ _ z => z.elim) (vk_cons (vv 0) vk_nil) rfl) (va_cons (ve_mkXK T.o_xk_BadNet (hr.mono (by decide)) (fun _ _ _ _ _ _ _ z => z.elim) (vk_cons (vv 0) vk_nil) rfl) (va_cons (ve_mkXK T.o_xk_BadProgram (hr.mono (by decide)) (fun _ _ _ _ _ _ _ z => z.elim) (vk_cons (vv 0) vk_nil) rfl) (va_cons (ve_mkXK T.o_xk_BadCode (hr.mono (by decide)) (fun _ _ _ _ _ _ _ z => z.elim) (vk_cons (vv 0) vk_nil) rfl) (va_cons (ve_mkXK T.o_xk_BadStanding (hr.mono (by decide)) (fun _ _ _ _ _ _ _ z => z.elim) (vk_cons (vv 0) vk_nil) rfl) va_nil)))))))
 (vss_cons (vs_set (i := 3) sc__law_errors_right.nd rfl (Or.inl rfl) (ve_op op_addA s_addA (vv 3) (ve_lst (va_cons (ve_mkXK T.o_xk_BadWorld (hr.mono (by decide)) (fun _ _ _ _ _ _ _ z => z.elim) (vk_cons (vv 0) vk_nil) rfl) (va_cons (ve_mkXK T.o_xk_BadEvent (hr.mono (by decide)) (fun _ _ _ _ _ _ _ z => z.elim) (vk_cons (vv 0) vk_nil) rfl) (va_cons (ve_mkXK T.o_xk_BadPaper (hr.mono (by decide)) (fun _ _ _ _ _ _ _ z => z.elim) (vk_cons (vv 0) vk_nil) rfl) (va_cons (ve_mkXK T.o_xk_Misfit (hr.mono (by decide)) (fun _ _ _ _ _ _ _ z => z.elim) (vk_cons (vv 0) vk_nil) rfl) va_nil)))))))
 (vss_cons (vs_for (passes_of rfl) rfl (vi_range1 (by rfl) T.b_range (va_cons ve_int va_nil)) (vg_name (i := 4) sc__law_errors_right.nd rfl (Or.inl rfl))
 (vss_one (vs_if (PW.pt (vw_or (vt_cmp (op_neA hr.units) s_ne (ve_callB (call_showZ hG hr.units) s_reprZ (by rfl) T.b_repr (by decide +kernel) (va_cons (ve_lst (va_cons (ve_xt (ve_ix ix_seq s_ix (vv 2) (vv 4))) (va_cons (ve_xt (ve_ix ix_seq s_ix (vv 3) (vv 4))) va_nil))) va_nil)) (ve_callB (call_showZ hG hr.units) s_reprZ (by rfl) T.b_repr (by decide +kernel) (va_cons (ve_lst (va_cons (vv 0) (va_cons (vv 0) va_nil))) va_nil)) (nomark _)) (vw_or (vt_not (vt_val (ve_call T.g__law_stands (c__law_stands_2 T) hG hr (by decide) pass0 sel_0 rfl (va_cons (ve_ix ix_seq s_ix (vv 2) (vv 4)) (va_cons (vv 4) va_nil)) vk_nil))) (vw_or1 (vt_not (vt_val (ve_call T.g__law_stands (c__law_stands_2 T) hG hr (by decide) pass0 sel_0 rfl (va_cons (ve_ix ix_seq s_ix (vv 3) (vv 4)) (va_cons (vv 4) va_nil)) vk_nil)))))))
 (vss_one (vs_ret ve_bl))
 vss_nil)))
 (vss_cons (vs_for (passes_of rfl) rfl (vi_tup (ve_tup (va_cons (ve_mkX T.o_xk_Twice (hr.mono (by decide)) (fun _ _ _ _ _ _ _ z => z.elim) (va_cons (vv 0) va_nil) rfl) (va_cons (ve_mkXK T.o_xk_Twice (hr.mono (by decide)) (fun _ _ _ _ _ _ _ z => z.elim) (vk_cons (vv 0) vk_nil) rfl) va_nil)))) (vg_name (i := 5) sc__law_errors_right.nd rfl (Or.inl rfl))
 (vss_one (vs_if (PW.pt (vw_or (vt_cmp (op_neA hr.units) s_ne (ve_callB (call_showZ hG hr.units) s_reprZ (by rfl) T.b_repr (by decide +kernel) (va_cons (ve_xt (vv 5)) va_nil)) (ve_callB (call_showZ hG hr.units) s_reprZ (by rfl) T.b_repr (by decide +kernel) (va_cons (vv 0) va_nil)) (nomark _)) (vw_or1 (vt_not (vt_val (ve_call T.g__law_stands (c__law_stands_2 T) hG hr (by decide) pass0 sel_0 rfl (va_cons (vv 5) (va_cons ve_int va_nil)) vk_nil))))))
 (vss_one (vs_ret ve_bl))
 vss_nil)))
 (vss_cons (vs_for (passes_of rfl) rfl (vi_tup (ve_tup (va_cons (ve_mkX T.o_xk_Unknown (hr.mono (by decide)) (fun _ _ _ _ _ _ _ z => z.elim) (va_cons (vv 0) va_nil) rfl) (va_cons (ve_mkXK T.o_xk_Unknown (hr.mono (by decide)) (fun _ _ _ _ _ _ _ z => z.elim) (vk_cons (vv 0) vk_nil) rfl) va_nil)))) (vg_name (i := 5) sc__law_errors_right.nd rfl (Or.inl rfl))
 (vss_one (vs_if (PW.pt (vw_or (vt_cmp (op_neA hr.units) s_ne (ve_callB (call_showZ hG hr.units) s_reprZ (by rfl) T.b_repr (by decide +kernel) (va_cons (ve_xt (vv 5)) va_nil)) (ve_callB (call_showZ hG hr.units) s_reprZ (by rfl) T.b_repr (by decide +kernel) (va_cons (vv 0) va_nil)) (nomark _)) (vw_or1 (vt_not (vt_val (ve_call T.g__law_stands (c__law_stands_2 T) hG hr (by decide) pass0 sel_0 rfl (va_cons (vv 5) (va_cons ve_int va_nil)) vk_nil))))))
 (vss_one (vs_ret ve_bl))
 vss_nil)))
 (vss_cons (vs_for (passes_of rfl) rfl (vi_tup (ve_tup (va_cons (ve_mkX2 T.o_x2_TooMany (hr.mono (by decide)) (fun _ _ _ _ _ _ _ z => z.elim) (va_cons (vv 0) (va_cons (vv 1) va_nil)) rfl) (va_cons (ve_mkXK2 T.o_x2_TooMany (hr.mono (by decide)) (fun _ _ _ _ _ _ _ z => z.elim) (vk_cons (vv 1) (vk_cons (vv 0) vk_nil)) rfl) va_nil)))) (vg_name (i := 5) sc__law_errors_right.nd rfl (Or.inl rfl))
 (vss_one (vs_if (PW.pt (vw_or (vt_cmp (op_neA hr.units) s_ne (ve_callB (call_showZ hG hr.units) s_reprZ (by rfl) T.b_repr (by decide +kernel) (va_cons (ve_lst (va_cons (ve_xt (vv 5)) (va_cons (ve_xt (vv 5)) va_nil))) va_nil)) (ve_callB (call_showZ hG hr.units) s_reprZ (by rfl) T.b_repr (by decide +kernel) (va_cons (ve_lst (va_cons (vv 0) (va_cons (vv 1) va_nil))) va_nil)) (nomark _)) (vw_or1 (vt_not (vt_val (ve_call T.g__law_stands (c__law_stands_2 T) hG hr (by decide) pass0 sel_0 rfl (va_cons (vv 5) (va_cons ve_int va_nil)) vk_nil))))))
 (vss_one (vs_ret ve_bl))
 vss_nil)))
 (vss_cons (vs_for (passes_of rfl) rfl (vi_tup (ve_tup (va_cons (ve_mkX T.o_xk_BadText (hr.mono (by decide)) (fun _ _ _ _ _ _ _ z => z.elim) (va_cons (vv 0) va_nil) rfl) (va_cons (ve_mkXK T.o_xk_BadText (hr.mono (by decide)) (fun _ _ _ _ _ _ _ z => z.elim) (vk_cons (vv 0) vk_nil) rfl) va_nil)))) (vg_name (i := 5) sc__law_errors_right.nd rfl (Or.inl rfl))
 (vss_one (vs_if (PW.pt (vw_or (vt_cmp (op_neA hr.units) s_ne (ve_callB (call_showZ hG hr.units) s_reprZ (by rfl) T.b_repr (by decide +kernel) (va_cons (ve_xt (vv 5)) va_nil)) (ve_callB (call_showZ hG hr.units) s_reprZ (by rfl) T.b_repr (by decide +kernel) (va_cons (vv 0) va_nil)) (nomark _)) (vw_or1 (vt_not (vt_val (ve_call T.g__law_stands (c__law_stands_2 T) hG hr (by decide) pass0 sel_0 rfl (va_cons (vv 5) (va_cons ve_int va_nil)) vk_nil))))))
 (vss_one (vs_ret ve_bl))
 vss_nil)))
 (vss_one (vs_ret (ve_cmp (op_eqA hr.units) s_eq (ve_call T.g__law_kin (c__law_kin_1 T) hG hr (by decide) pass0 sel_0 rfl (va_cons (ve_err PySem.F.excBase_ValueError T.o_xiW T.g_WeatherError T.o_kpW rfl (pe_str)) va_nil) vk_nil) (ve_op op_mulA s_mulA (ve_lst (va_cons ve_bl va_nil)) ve_int) (nomark _))))))))))))), fun ds μ ev Φ h => ?_⟩)
  · obtain ⟨x, y, rfl, _⟩ := h; rfl
  · obtain ⟨x, y, rfl, hx, hy, k⟩ := h
    obtain ⟨px, ex, sx⟩ := hx.show
    obtain ⟨pxx, exx, sxx⟩ := show2 hx hx
    obtain ⟨pxy, exy, sxy⟩ := show2 hx hy
    walk_at "wr"
    refine ⟨sizeOk (by decide), sizeOk (by decide), ?_⟩
    rw [vAddA_ll]
    refine ⟨sizeOk (by simp), sizeOk (by decide), sizeOk (by decide), ?_⟩
    rw [vAddA_ll]
    refine ⟨sizeOk (by simp), by decide, by decide, ?_⟩
    refine forW_inv (fun i ρ μ' => (∃ o, ρ = [some x, some y, some (.lst (madeD K x)), some (.lst (madeD K x)), o, none]) ∧ μ' = μ) ?_ ?_ ⟨⟨none, rfl⟩, rfl⟩
    · rintro i d hd N ρ μ' hN ⟨⟨o, rfl⟩, rfl⟩
      obtain ⟨hi, rfl⟩ := range_get hd
      refine ⟨trivial, ?_⟩
      have hi9 : i < 9 := hi
      have hat : atI (madeD K x) ((i : Nat) : Int) = some (.exc (He.ga K (nameN i)) ["part"] [x]) := atI_nat (by simp [madeD, hi9])
      obtain ⟨xf, nf⟩ := xN T i hi9
      walk_at "wr"
      refine ⟨_, hat, _, _, _, rfl, xf, nf, x, rfl, _, hat, _, _, _, rfl, xf, nf, x, rfl, sizeOk (by decide), ?_⟩
      refine ⟨_, pxx, rfl, .inl exx, sxx, sizeOk (by decide), _, pxx, rfl, .inl exx, sxx, ?_⟩
      walk_at "wr"
      refine ⟨_, hat, i, _, _, rfl, Nat.lt_trans hi9 (by decide), ?_⟩
      walk_at "wr"
      refine ⟨_, hat, i, _, _, rfl, Nat.lt_trans hi9 (by decide), ?_⟩
      walk_at "wr"
      exact hN _ _ ⟨⟨_, rfl⟩, rfl⟩
    · rintro ρ μ' ⟨⟨o, rfl⟩, rfl⟩
      refine ⟨trivial, ?_⟩
      walk_at "wr"
      have x9 := (T.o_xk_Twice (P := P) (base := base)).exn
      have x10 := (T.o_xk_Unknown (P := P) (base := base)).exn
      have x11 := T.o_x2_TooMany (P := P) (base := base)
      have x12 := (T.o_xk_BadText (P := P) (base := base)).exn
      have two : ∀ {i : Nat} {d e : D}, [e, e][i]? = some d → d = e := fun {i d e} h => by
        have := List.mem_of_getElem? h
        simpa using this
      refine ⟨sizeOk (by decide), ?_⟩
      refine forW_inv (fun i ρ μ2 => (∃ o v, ρ = [some x, some y, some (.lst (madeD K x)), some (.lst (madeD K x)), o, v]) ∧ μ2 = μ') ?_ ?_ ⟨⟨_, _, rfl⟩, rfl⟩
      · rintro i d hd N ρ μ2 hN ⟨⟨o, v, rfl⟩, rfl⟩
        obtain rfl := two hd
        refine ⟨trivial, ?_⟩
        walk_at "wr"
        refine ⟨_, _, _, rfl, x9.xf, x9.no, x, rfl, _, px, rfl, .inl ex, sx, _, px, rfl, .inl ex, sx, ?_⟩
        walk_at "wr"
        refine ⟨9, _, _, rfl, by decide, ?_⟩
        walk_at "wr"
        exact hN _ _ ⟨⟨_, _, rfl⟩, rfl⟩
      rintro ρ μ2 ⟨⟨o, v, rfl⟩, rfl⟩
      refine ⟨trivial, ?_⟩
      walk_at "wr"
      refine ⟨sizeOk (by decide), ?_⟩
      refine forW_inv (fun i ρ μ3 => (∃ o v, ρ = [some x, some y, some (.lst (madeD K x)), some (.lst (madeD K x)), o, v]) ∧ μ3 = μ2) ?_ ?_ ⟨⟨_, _, rfl⟩, rfl⟩
      · rintro i d hd N ρ μ2 hN ⟨⟨o, v, rfl⟩, rfl⟩
        obtain rfl := two hd
        refine ⟨trivial, ?_⟩
        walk_at "wr"
        refine ⟨_, _, _, rfl, x10.xf, x10.no, x, rfl, _, px, rfl, .inl ex, sx, _, px, rfl, .inl ex, sx, ?_⟩
        walk_at "wr"
        refine ⟨10, _, _, rfl, by decide, ?_⟩
        walk_at "wr"
        exact hN _ _ ⟨⟨_, _, rfl⟩, rfl⟩
      rintro ρ μ2 ⟨⟨o, v, rfl⟩, rfl⟩
      refine ⟨trivial, ?_⟩
      walk_at "wr"
      refine ⟨_, _, ⟨rfl, rfl⟩, _, _, ⟨rfl, rfl⟩, sizeOk (by decide), ?_⟩
      refine forW_inv (fun i ρ μ3 => (∃ o v, ρ = [some x, some y, some (.lst (madeD K x)), some (.lst (madeD K x)), o, v]) ∧ μ3 = μ2) ?_ ?_ ⟨⟨_, _, rfl⟩, rfl⟩
      · rintro i d hd N ρ μ2 hN ⟨⟨o, v, rfl⟩, rfl⟩
        obtain rfl := two hd
        refine ⟨trivial, ?_⟩
        walk_at "wr"
        refine ⟨_, _, _, rfl, x11.xf, x11.nof, x, rfl, _, _, _, rfl, x11.xf, x11.nog, y, rfl, sizeOk (by decide), ?_⟩
        refine ⟨_, pxy, rfl, .inl exy, sxy, sizeOk (by decide), _, pxy, rfl, .inl exy, sxy, ?_⟩
        walk_at "wr"
        refine ⟨11, _, _, rfl, by decide, ?_⟩
        walk_at "wr"
        exact hN _ _ ⟨⟨_, _, rfl⟩, rfl⟩
      rintro ρ μ2 ⟨⟨o, v, rfl⟩, rfl⟩
      refine ⟨trivial, ?_⟩
      walk_at "wr"
      refine ⟨sizeOk (by decide), ?_⟩
      refine forW_inv (fun i ρ μ3 => (∃ o v, ρ = [some x, some y, some (.lst (madeD K x)), some (.lst (madeD K x)), o, v]) ∧ μ3 = μ2) ?_ ?_ ⟨⟨_, _, rfl⟩, rfl⟩
      · rintro i d hd N ρ μ2 hN ⟨⟨o, v, rfl⟩, rfl⟩
        obtain rfl := two hd
        refine ⟨trivial, ?_⟩
        walk_at "wr"
        refine ⟨_, _, _, rfl, x12.xf, x12.no, x, rfl, _, px, rfl, .inl ex, sx, _, px, rfl, .inl ex, sx, ?_⟩
        walk_at "wr"
        refine ⟨12, _, _, rfl, by decide, ?_⟩
        walk_at "wr"
        exact hN _ _ ⟨⟨_, _, rfl⟩, rfl⟩
      rintro ρ μ2 ⟨⟨o, v, rfl⟩, rfl⟩
      refine ⟨trivial, ?_⟩
      walk_at "wr"
      intro a na
      refine ⟨.ref a, _, fun _ => false, rfl, .inr ⟨a, rfl, Mu.same⟩, T.o_exW, fun j hj => T.o_kinE j hj, sizeOk (by decide), ?_⟩
      refine ⟨_, _, rfl, rfl, by decide, by decide, sizeOk (by decide), ?_⟩
      show vEq false (.lst (((List.range 13).map fun _ => false).map D.bl)) (.lst (((List.range 13).map fun _ => false).map D.bl)) _ Φ
      rw [vEq_iff (eqD_bls _)]
      exact k _ (Kp.new na)
theorem c__law_errors_right_2 {P : Program} {w : World} {K : PySem.W.Frag} {mg : Str → Option Value} {base : Heap} (T : Txt w K mg) : CanV P w K mg base CX0 [] 5 (He.ga K "_law_errors_right") 2 [] ([.inl 0, .inl 1].map (toArg [] [])) (sp__law_errors_right K) :=
  canV_of (ps := ["_law_one", "_law_other"]) [.inl 0, .inl 1] T.f__law_errors_right (b__law_errors_right T) (fun _ _ _ _ _ _ us ws h1 h2 => match us, ws, h1, h2 with | [_, _], [], _, _ => rfl) (by decide)
end K00

set_option maxRecDepth 100000
set_option maxHeartbeats 4000000
namespace K00
open PySem L2 FW VL
local macro_rules | `(tactic| walk_at "vr") => `(tactic| simp only [wLenSet, wFor, wSetF, wAugF, wAug, wBM, wProp, wHeld, wVar, wC, wZ, wOp, wUn, wNil, wCons, wStar, wCB, wTup, wLst, wLstM, wTest, wAnd, wOr, VL.wNot, wAndV, wOrV, wNotV, wIf, wChain, wNoPart, wPart, wSl, wName, wGNil, wGCons, wGTup, wSub, wNext, VL.wSeq, wAsg, wDrop, wRet, wRetN, wIfS, wBreak, wCont, wPar, vI0, vI, vU, vAdd, vSub, vMul, vMod, vFdiv, vPow, vLt, vLe, vGt, vGe, vNeg, vIsN, vNotN, vAddA, vMulA, VL.wTru, iwL, iwT, wLc, vstart, List.map_cons, List.map_nil, List.cons_append, List.nil_append, List.set_cons_zero, List.set_cons_succ, List.getElem?_cons_zero, List.getElem?_cons_succ, Option.some.injEq, exists_eq_left, exists_eq_left', exists_eq', D.bl.injEq, D.int.injEq, D.str.injEq, D.tup.injEq, D.ref.injEq, List.cons.injEq, and_true, true_and, List.length_cons, List.length_nil, List.replicate, D.ty.injEq, exists_and_left, List.length, Nat.reduceAdd, wCall, wMake, wMeth, wFld, argsD, argD, toArg, List.getD_cons_zero, List.getD_cons_succ, List.map, iwS, vTupOf, Bool.false_eq_true, if_false, if_true, reduceIte, List.getElem?_nil, Nat.reduceSub, wipeR, vLen_lst, vLen_tup, vEq_ii, vEq_ss, vEq_bb, vIx_lst, vIx_tup, vIn_strs, vIn_s2, vIn_s3, vAll_map, vInK_s, vIxK_s, vInt_i, vAbs_i, atI_0, atI_1, atI_2, Bool.not_true, Bool.not_false, seqOf_lst, seqOf_tup, lstOf_lst, tupOf_tup, fzL_lst, wForget, fgt, wLc2, wDc, iwZB, vRepS, vSlT, vSlA, wCKw, vStrQ, iwSg, wDGet2, iwZS, wMkX, wMkXK, wMkX2, wXt, wErr, wDic0, wDispK, wRevL, wListRg, N_is_list, N_is_integer, N_is_within, N_are_integers, N_is_lot, N_is_short, N_are_shorts, N__law_cloud, N__law_drop, N__law_one_of, N__law_any, N__law_kin, N__law_stands, N__law_errors_right, N__law_is_integer, N__law_numbers_right, N__law_rows_right, N__law_lots_right, N_law])
local macro_rules | `(tactic| walk_at "wr") => `(tactic| simp only [vInt_bl, iwR1, iwR2, iwM, List.set_cons_succ, wLenSet, wFor, wSetF, wAugF, wAug, wBM, wProp, wHeld, wVar, wC, wZ, wOp, wUn, wNil, wCons, wStar, wCB, wTup, wLst, wLstM, wTest, wAnd, wOr, VL.wNot, wAndV, wOrV, wNotV, wIf, wChain, wNoPart, wPart, wSl, wName, wGNil, wGCons, wGTup, wSub, wNext, VL.wSeq, wAsg, wDrop, wRet, wRetN, wIfS, wBreak, wCont, wPar, vI0, vI, vU, vAdd, vSub, vMul, vMod, vFdiv, vPow, vLt, vLe, vGt, vGe, vNeg, vIsN, vNotN, vAddA_ii, vMulA_ii, VL.wTru, iwL, iwT, wLc, vstart, List.map_cons, List.map_nil, List.cons_append, List.nil_append, List.set_cons_zero, List.set_cons_succ, List.getElem?_cons_zero, List.getElem?_cons_succ, Option.some.injEq, exists_eq_left, exists_eq_left', exists_eq', D.bl.injEq, D.int.injEq, D.str.injEq, D.tup.injEq, D.ref.injEq, List.cons.injEq, and_true, true_and, List.length_cons, List.length_nil, List.replicate, D.ty.injEq, exists_and_left, List.length, Nat.reduceAdd, wCall, wMake, wMeth, wFld, argsD, argD, toArg, List.getD_cons_zero, List.getD_cons_succ, List.map, iwS, vTupOf, Bool.false_eq_true, if_false, if_true, reduceIte, List.getElem?_nil, Nat.reduceSub, wipeR, vLen_lst, vLen_tup, vEq_ii, vEq_ss, vEq_bb, vIx_lst, vIx_tup, vIn_strs, vIn_s2, vIn_s3, vAll_map, vInK_s, vIxK_s, vInt_i, vAbs_i, atI_0, atI_1, atI_2, Bool.not_true, Bool.not_false, seqOf_lst, seqOf_tup, lstOf_lst, tupOf_tup, fzL_lst, wForget, fgt, wLc2, wDc, iwZB, vRepS, vSlT, vSlA, wCKw, vStrQ, iwSg, wDGet2, iwZS, wMkX, wMkXK, wMkX2, wXt, wErr, wDic0, wDispK, wRevL, wListRg, N_is_list, N_is_integer, N_is_within, N_are_integers, N_is_lot, N_is_short, N_are_shorts, N__law_cloud, N__law_drop, N__law_one_of, N__law_any, N__law_kin, N__law_stands, N__law_errors_right, N__law_is_integer, N__law_numbers_right, N__law_rows_right, N__law_lots_right, N_law, ofStr_inj, ofStr_beq, String.reduceEq, decide_true, decide_false, Bool.or_false, Bool.or_true, Bool.false_or, Bool.true_or, Bool.and_true, Bool.and_false, Bool.true_and, Bool.false_and, vModN, iwE, iwEM])
/-! ### numbers, bounds and shorts -/
def sp__law_is_integer : VSp := fun ds μ ev Φ => ∃ x, ds = [x] ∧ Kd μ x ∧ Φ (.bl (isTy μ x "int")) μ
theorem b__law_is_integer {P : Program} {w : World} {K : PySem.W.Frag} {mg : Str → Option Value} {base : Heap} (T : Txt w K mg) : ∀ fd, FunD K "_law_is_integer" "_law_is_integer" (defArgs s__law_is_integer) (defBody s__law_is_integer) (defScope s__law_is_integer) [] [] (He.ga K "_law_is_integer") fd → FnG P w K mg base CX0 1 (He.ga K "_law_is_integer") fd ["_law_value"] (lift K [] (sp__law_is_integer)) := by
  intro fd F
  refine fun_okD (N := N__law_is_integer) F sc__law_is_integer (fun ds μ ev Φ h => ?size) (fun cdv A outer s H E hG hr => ⟨_, (vss_one (vs_ret (ve_and (ve_callB call_isi s_isi (by rfl) T.b_isinstance (by decide +kernel) (va_cons (vv 0) (va_cons (ve_ty (n := "int") rfl T.b_int (by decide +kernel)) va_nil))) (ve_one (ve_not (ve_callB call_isi s_isi (by rfl) T.b_isinstance (by decide +kernel) (va_cons (vv 0) (va_cons (ve_ty (n := "bool") rfl T.b_bool (by decide +kernel)) va_nil)))))))), fun ds μ ev Φ h => ?_⟩)
  · obtain ⟨x, rfl, _⟩ := h; rfl
  · obtain ⟨x, rfl, hk, q⟩ := h
    walk_at "vr"
    refine l_isiInt hk ?_
    walk_at "vr"
    refine ite_sp (fun h1 => l_isi "bool" hk (.inr rfl) ?_) (fun h1 => ?_)
    · walk_at "vr"
      obtain ⟨t, ht⟩ := hk
      unfold isTy at h1 q ⊢
      rw [ht] at h1 q ⊢
      rcases ty_mem ht with rfl | rfl | rfl | rfl | rfl | rfl | rfl <;> first | exact q | simp at h1
    · rw [Bool.or_eq_false_iff] at h1
      rw [h1.1] at q
      exact q
theorem c__law_is_integer_1 {P : Program} {w : World} {K : PySem.W.Frag} {mg : Str → Option Value} {base : Heap} (T : Txt w K mg) : CanV P w K mg base CX0 [] 1 (He.ga K "_law_is_integer") 1 [] ([.inl 0].map (toArg [] [])) (sp__law_is_integer) :=
  canV_of (ps := ["_law_value"]) [.inl 0] T.f__law_is_integer (b__law_is_integer T) (fun _ _ _ _ _ _ us ws h1 h2 => match us, ws, h1, h2 with | [_], [], _, _ => rfl) (by decide)
theorem bls_show : ∀ bs : List Bool, PyData.showableAll (bs.map .bool) = true ∧ PyData.depthAll (bs.map .bool) = 0 ∧ wts (bs.map .bool) = 7 * bs.length
  | [] => ⟨rfl, rfl, rfl⟩
  | b :: bs => by
    obtain ⟨h1, h2, h3⟩ := bls_show bs
    refine ⟨by rw [List.map_cons, PyData.showableAll, h1]; rfl, by rw [List.map_cons, PyData.depthAll, h2]; rfl, ?_⟩
    rw [List.map_cons]
    show 5 + 2 + wts (bs.map PyData.bool) = _
    rw [h3, List.length_cons]
    omega
theorem bls_ok (bs : List Bool) (h : bs.length ≤ 1000) : ShowOk (.list (bs.map .bool)) := by
  obtain ⟨h1, h2, h3⟩ := bls_show bs
  refine showOk_of (by simpa [PyData.showable] using h1) (by show PyData.depthAll _ + 1 ≤ 60; rw [h2]; decide) ?_
  show wts (bs.map PyData.bool) + 4 ≤ _
  omega
def txB (bs : List Bool) : Str := (PyData.list (bs.map .bool)).shown
theorem repr_bls {μ : Mu} {Φ : WK} (bs : List Bool) (h : bs.length ≤ 1000) (q : Φ (.str (txB bs)) μ) : vRepr [.lst (bs.map .bl)] μ Φ :=
  ⟨_, _, rfl, fun s => nofun, (by show toPy μ (.lst _) = _; rw [toPy, toPys_bls]; rfl), bls_ok bs h, q⟩
theorem isTyI {μ : Mu} {n : Int} : isTy μ (.int n) "int" = true := by simp [isTy, tyD]
def sp__law_numbers_right (K : PySem.W.Frag) : VSp := fun ds μ ev Φ => ∃ (a : Addr) (b : Nat), ds = [.ref a] ∧ Mist μ a (b + 6) ∧ ∀ μ', Kp [a] μ μ' → Mist μ' a b → Φ (.bl true) μ'
theorem b__law_numbers_right {P : Program} {w : World} {K : PySem.W.Frag} {mg : Str → Option Value} {base : Heap} (T : Txt w K mg) : ∀ fd, FunD K "_law_numbers_right" "_law_numbers_right" (defArgs s__law_numbers_right) (defBody s__law_numbers_right) (defScope s__law_numbers_right) [] [] (He.ga K "_law_numbers_right") fd → FnG P w K mg base CX0 4 (He.ga K "_law_numbers_right") fd ["_law_cloud_here"] (lift K [] (sp__law_numbers_right K)) := by
  intro fd F
  refine fun_okD (N := N__law_numbers_right) F sc__law_numbers_right (fun ds μ ev Φ h => ?size) (fun cdv A outer s H E hG hr => ⟨_, (vss_cons (vs_set (i := 1) sc__law_numbers_right.nd rfl (Or.inl rfl) (ve_call T.g__law_one_of (c__law_one_of_2 T) hG hr (by decide) pass0 sel_0 rfl (va_cons (vv 0) (va_cons (ve_lst (va_cons ve_int (va_cons (ve_un un_neg s_neg ve_int) va_nil))) va_nil)) vk_nil))
 (vss_cons (vs_set (i := 2) sc__law_numbers_right.nd rfl (Or.inl rfl) (ve_call T.g__law_one_of (c__law_one_of_2 T) hG hr (by decide) pass0 sel_0 rfl (va_cons (vv 0) (va_cons (ve_lst (va_cons ve_int (va_cons ve_int (va_cons (ve_un un_neg s_neg ve_int) (va_cons (ve_op op_pow s_pow ve_int ve_int) (va_cons (ve_un un_neg s_neg (ve_op op_pow s_pow ve_int ve_int)) (va_cons (vv 1) (va_cons (ve_op op_addA s_addA (vv 1) ve_int) (va_cons (ve_op op_sub s_sub (vv 1) ve_int) (va_cons (ve_op op_sub s_sub (ve_call T.g__law_drop (c__law_drop_2 T) hG hr (by decide) pass0 sel_0 rfl (va_cons (vv 0) (va_cons ve_int va_nil)) vk_nil) ve_int) va_nil)))))))))) va_nil)) vk_nil))
 (vss_cons (vs_set (i := 3) sc__law_numbers_right.nd rfl (Or.inl rfl) (ve_call T.g__law_one_of (c__law_one_of_2 T) hG hr (by decide) pass0 sel_0 rfl (va_cons (vv 0) (va_cons (ve_lst (va_cons ve_non (va_cons ve_bl (va_cons ve_bl (va_cons ve_str (va_cons ve_str (va_cons (ve_lst (va_cons ve_int va_nil)) (va_cons (ve_tup (va_cons ve_int va_nil)) (va_cons ve_dic0 (va_cons (ve_lst (va_cons (vv 2) va_nil)) (va_cons ve_str (va_cons (ve_tup va_nil) (va_cons (ve_err PySem.F.excBase_ValueError T.o_xiW T.g_WeatherError T.o_kpW rfl (pe_int)) va_nil))))))))))))) va_nil)) vk_nil))
 (vss_cons (vs_par (ps_par (i := 4) (j := 5) rfl sc__law_numbers_right.nd rfl rfl (by decide) rfl rfl (va_cons (ve_op op_sub s_sub (ve_call T.g__law_drop (c__law_drop_2 T) hG hr (by decide) pass0 sel_0 rfl (va_cons (vv 0) (va_cons ve_int va_nil)) vk_nil) ve_int) (va_cons (ve_op op_sub s_sub (ve_call T.g__law_drop (c__law_drop_2 T) hG hr (by decide) pass0 sel_0 rfl (va_cons (vv 0) (va_cons ve_int va_nil)) vk_nil) ve_int) va_nil)) (by rfl)))
 (vss_cons (vs_set (i := 6) sc__law_numbers_right.nd rfl (Or.inl rfl) (ve_lst (va_cons (ve_call T.g_is_integer (c_is_integer_1 T) hG hr (by decide) pass0 sel_0 rfl (va_cons (vv 2) va_nil) vk_nil) (va_cons (ve_callN0 T.g_is_integer (c_is_integer_0_value T) hG hr (by decide) pass0 sel_0 rfl (vk_cons (vv 3) vk_nil)) (va_cons (ve_call T.g_is_within (c_is_within_3 T) hG hr (by decide) pass0 sel_0 rfl (va_cons (vv 3) (va_cons ve_non (va_cons ve_non va_nil))) vk_nil) (va_cons (ve_call T.g_is_within (c_is_within_3 T) hG hr (by decide) pass0 sel_0 rfl (va_cons (vv 2) (va_cons (ve_op op_addA s_addA (vv 2) (vv 4)) (va_cons (ve_op op_addA s_addA (vv 2) (vv 5)) va_nil))) vk_nil) va_nil))))))
 (vss_cons (vs_set (i := 6) sc__law_numbers_right.nd rfl (Or.inl rfl) (ve_op op_addA s_addA (vv 6) (ve_lst (va_cons (ve_callN0 T.g_is_within (c_is_within_0_value_least_most T) hG hr (by decide) pass0 sel_0 rfl (vk_cons (vv 2) (vk_cons ve_non (vk_cons (ve_op op_addA s_addA (vv 2) (vv 5)) vk_nil)))) (va_cons (ve_call T.g_is_within (c_is_within_3 T) hG hr (by decide) pass0 sel_0 rfl (va_cons (vv 2) (va_cons (ve_op op_addA s_addA (vv 2) (vv 4)) (va_cons ve_non va_nil))) vk_nil) (va_cons (ve_call T.g_is_within (c_is_within_3 T) hG hr (by decide) pass0 sel_0 rfl (va_cons (vv 2) (va_cons ve_non (va_cons ve_non va_nil))) vk_nil) va_nil))))))
 (vss_cons (vs_if (vt_cmp (op_neA hr.units) s_ne (ve_callB (call_showA hG hr.units) s_repr (by rfl) T.b_repr (by decide +kernel) (va_cons (vv 6) va_nil)) (ve_callB (call_showA hG hr.units) s_repr (by rfl) T.b_repr (by decide +kernel) (va_cons (ve_lst (va_cons ve_bl (va_cons ve_bl (va_cons ve_bl (va_cons (ve_chain op_le s_le op_le s_le (vv 4) ve_int (vv 5)) (va_cons (ve_cmp op_le s_le ve_int (vv 5) (nomark _)) (va_cons (ve_cmp op_le s_le (vv 4) ve_int (nomark _)) (va_cons ve_bl va_nil)))))))) va_nil)) (nomark _))
 (vss_one (vs_ret ve_bl))
 vss_nil)
 (vss_one (vs_ret (ve_cmp (op_eqA hr.units) s_eq (ve_callB (call_showA hG hr.units) s_repr (by rfl) T.b_repr (by decide +kernel) (va_cons (ve_lst (va_cons (ve_call T.g_is_short (c_is_short_1 T) hG hr (by decide) pass0 sel_0 rfl (va_cons (vv 2) va_nil) vk_nil) (va_cons (ve_callN0 T.g_is_short (c_is_short_0_value T) hG hr (by decide) pass0 sel_0 rfl (vk_cons (vv 3) vk_nil)) va_nil))) va_nil)) (ve_callB (call_showA hG hr.units) s_repr (by rfl) T.b_repr (by decide +kernel) (va_cons (ve_lst (va_cons (ve_chain op_le s_le op_le s_le (ve_un un_neg s_neg ve_int) (vv 2) ve_int) (va_cons ve_bl va_nil))) va_nil)) (nomark _))))))))))), fun ds μ ev Φ h => ?_⟩)
  · obtain ⟨a, b, rfl, _⟩ := h; rfl
  · obtain ⟨a, b, rfl, hm, k⟩ := h
    walk_at "wr"
    refine ⟨sizeOk (by decide), a, _, b + 5, rfl, by simp, by simp, hm, fun e μ1 he k1 m1 => ?_⟩
    simp only [List.mem_cons, List.not_mem_nil, or_false] at he
    obtain ⟨g, rfl, hg⟩ : ∃ g : Int, e = .int g ∧ (g = 2147483647 ∨ g = -2147483648) := by
      rcases he with rfl | rfl
      · exact ⟨_, rfl, .inl rfl⟩
      · exact ⟨_, rfl, .inr rfl⟩
    walk_at "wr"
    refine ⟨⟨by decide, by decide, by decide⟩, ⟨by decide, by decide, by decide⟩, a, 200, b + 4, rfl, by decide, by decide, m1, fun v μ2 v0 v1 k2 m2 => ?_⟩
    walk_at "wr"
    refine ⟨sizeOk (by decide), a, _, b + 3, rfl, by simp, by simp, m2, fun d μ3 hd k3 m3 => ?_⟩
    obtain ⟨n, rfl⟩ : ∃ n : Int, d = .int n := by
      simp only [List.mem_cons, List.not_mem_nil, or_false] at hd
      rcases hd with rfl | rfl | rfl | rfl | rfl | rfl | rfl | rfl | rfl <;> exact ⟨_, rfl⟩
    clear hd
    refine ⟨sizeOk (by decide), sizeOk (by decide), sizeOk (by decide), sizeOk (by decide), fun f f0 => ?_⟩
    have k03 : Kp [a] μ μ3 := (k1.trans Nw.refl k2).trans Nw.refl k3
    have af : a ≠ f := m3.ne f0
    refine ⟨sizeOk (by decide), a, _, b + 2, rfl, by simp, by simp, m3.setN af, fun o μ4 ho k4 m4 => ?_⟩
    have hO : ∀ μ', Kp [a] μ4 μ' → KdE K μ' o ∧ isTy μ' o "int" = false ∧ within o none none = false ∧ isSh o = false := by
      intro μ' k5
      have ef : μ' f = some (errM (He.ga K "WeatherError") f) := k5.at_ (k4.at_ Mu.same (by simpa using Ne.symm af)) (by simpa using Ne.symm af)
      simp only [List.mem_cons, List.not_mem_nil, or_false] at ho
      rcases ho with rfl | rfl | rfl | rfl | rfl | rfl | rfl | rfl | rfl | rfl | rfl | rfl <;> first
        | exact ⟨.inr ⟨f, rfl, ef⟩, err_ty ef, rfl, rfl⟩
        | exact ⟨.inl ⟨_, rfl⟩, by simp [isTy, tyD], rfl, rfl⟩
    clear ho
    have k04 : Kp [a] μ μ4 := k03.trans Nw.refl (Kp.up (Kp.new f0) k4 (fun x hx => by simp at hx; exact .inl (by simp [hx])))
    refine ⟨a, 5, b + 1, rfl, by decide, by decide, m4, fun l μ5 l0 l1 k5 m5 => ?_⟩
    walk_at "wr"
    refine ⟨a, 5, b, rfl, by decide, by decide, m5, fun u μ6 u0 u1 k6 m6 => ?_⟩
    walk_at "wr"
    have k46 : Kp [a] μ4 μ6 := k5.trans Nw.refl k6
    obtain ⟨o1, o2, o3, o4⟩ := hO μ6 k46
    have k06 : Kp [a] μ μ6 := k04.trans Nw.refl k46
    generalize l - 2 = lo
    generalize u - 2 = hi
    have kn : KdE K μ6 (.int n) := .inl ⟨_, rfl⟩
    refine ⟨_, _, ⟨rfl, rfl⟩, _, rfl, kn, _, rfl, o1, _, none, none, rfl, o1, ?_⟩
    rw [isTyI, o2, o3]
    walk_at "wr"
    refine ⟨_, some (n + lo), some (n + hi), rfl, kn, sizeOk (by decide), ?_⟩
    refine ⟨_, none, some (n + hi), rfl, kn, ?_⟩
    walk_at "wr"
    refine ⟨_, some (n + lo), none, rfl, kn, ?_⟩
    walk_at "wr"
    refine ⟨_, none, none, rfl, kn, sizeOk (by decide), ?_⟩
    have w1 : within (.int n) (some (n + lo)) (some (n + hi)) = (decide (lo ≤ 0) && decide (0 ≤ hi)) := by
      show (decide (n + lo ≤ n) && decide (n ≤ n + hi)) = _
      congr 1 <;> (rw [decide_eq_decide]; omega)
    have w2 : within (.int n) none (some (n + hi)) = decide (0 ≤ hi) := by
      show (true && decide (n ≤ n + hi)) = _
      rw [Bool.true_and, decide_eq_decide]
      omega
    have w3 : within (.int n) (some (n + lo)) none = decide (lo ≤ 0) := by
      show (decide (n + lo ≤ n) && true) = _
      rw [Bool.and_true, decide_eq_decide]
      omega
    have w4 : within (.int n) none none = true := rfl
    rw [w1, w2, w3, w4, vAddA_ll]
    refine ⟨sizeOk (by simp), ?_⟩
    refine repr_bls [true, false, false, decide (lo ≤ 0) && decide (0 ≤ hi), decide (0 ≤ hi), decide (lo ≤ 0), true] (by simp) ?_
    have last : ∀ (c : Bool) (Ψ : WK), c = (decide (lo ≤ 0) && decide (0 ≤ hi)) → Ψ (.bl false) μ6 → vRepr [.lst [.bl true, .bl false, .bl false, .bl c, .bl (decide (0 ≤ hi)), .bl (decide (lo ≤ 0)), .bl true]] μ6 fun y μ2 => vEq true (.str (txB [true, false, false, decide (lo ≤ 0) && decide (0 ≤ hi), decide (0 ≤ hi), decide (lo ≤ 0), true])) y μ2 Ψ := fun c Ψ hc q => by
      subst hc
      refine repr_bls [true, false, false, decide (lo ≤ 0) && decide (0 ≤ hi), decide (0 ≤ hi), decide (lo ≤ 0), true] (by simp) ?_
      rw [vEq_ss]
      simpa using q
    have fin : ∀ Ψ : WK, Ψ = Φ → sp_is_short K [.int n] μ6 ev0 (fun x μ1 => sp_is_short K [o] μ1 ev0 fun x_1 μ1 => 2 ≤ sizeLine ∧ vRepr [.lst [x, x_1]] μ1 fun x μ1 => if decide (-2147483648 ≤ n) = true then 2 ≤ sizeLine ∧ vRepr [.lst [.bl (decide (n ≤ 2147483647)), .bl false]] μ1 fun y μ2 => vEq false x y μ2 Ψ else 2 ≤ sizeLine ∧ vRepr [.lst [.bl false, .bl false]] μ1 fun y μ2 => vEq false x y μ2 Ψ) := fun Ψ e => by
      subst e
      refine ⟨_, rfl, kn, _, rfl, o1, sizeOk (by decide), ?_⟩
      rw [o4]
      have w5 : isSh (.int n) = (decide (-2147483648 ≤ n) && decide (n ≤ 2147483647)) := rfl
      refine repr_bls [isSh (.int n), false] (by simp) ?_
      rw [w5]
      have fin : ∀ c : Bool, c = (decide (-2147483648 ≤ n) && decide (n ≤ 2147483647)) → 2 ≤ sizeLine ∧ vRepr [.lst [.bl c, .bl false]] μ6 fun y μ2 => vEq false (.str (txB [decide (-2147483648 ≤ n) && decide (n ≤ 2147483647), false])) y μ2 Ψ := fun c e => by
        subst e
        refine ⟨sizeOk (by decide), repr_bls [decide (-2147483648 ≤ n) && decide (n ≤ 2147483647), false] (by simp) ?_⟩
        rw [vEq_ss]
        simpa using k μ6 k06 m6
      refine ite_sp (fun h2 => fin _ (by rw [h2]; rfl)) (fun h2 => fin _ (by rw [h2]; rfl))
    refine ite_sp (fun h1 => ⟨sizeOk (by decide), last _ _ (by rw [h1]; rfl) ?_⟩) (fun h1 => ⟨sizeOk (by decide), last _ _ (by rw [h1]; rfl) ?_⟩)
    · walk_at "wr"
      exact fin _ rfl
    · walk_at "wr"
      exact fin _ rfl
theorem c__law_numbers_right_1 {P : Program} {w : World} {K : PySem.W.Frag} {mg : Str → Option Value} {base : Heap} (T : Txt w K mg) : CanV P w K mg base CX0 [] 4 (He.ga K "_law_numbers_right") 1 [] ([.inl 0].map (toArg [] [])) (sp__law_numbers_right K) :=
  canV_of (ps := ["_law_cloud_here"]) [.inl 0] T.f__law_numbers_right (b__law_numbers_right T) (fun _ _ _ _ _ _ us ws h1 h2 => match us, ws, h1, h2 with | [_], [], _, _ => rfl) (by decide)
end K00

set_option maxRecDepth 100000
set_option maxHeartbeats 4000000
namespace K00
open PySem L2 FW VL
local macro_rules | `(tactic| walk_at "wr") => `(tactic| simp only [vInt_bl, iwR1, iwR2, iwM, List.set_cons_succ, wLenSet, wFor, wSetF, wAugF, wAug, wBM, wProp, wHeld, wVar, wC, wZ, wOp, wUn, wNil, wCons, wStar, wCB, wTup, wLst, wLstM, wTest, wAnd, wOr, VL.wNot, wAndV, wOrV, wNotV, wIf, wChain, wNoPart, wPart, wSl, wName, wGNil, wGCons, wGTup, wSub, wNext, VL.wSeq, wAsg, wDrop, wRet, wRetN, wIfS, wBreak, wCont, wPar, vI0, vI, vU, vAdd, vSub, vMul, vMod, vFdiv, vPow, vLt, vLe, vGt, vGe, vNeg, vIsN, vNotN, vAddA_ii, vMulA_ii, VL.wTru, iwL, iwT, wLc, vstart, List.map_cons, List.map_nil, List.cons_append, List.nil_append, List.set_cons_zero, List.set_cons_succ, List.getElem?_cons_zero, List.getElem?_cons_succ, Option.some.injEq, exists_eq_left, exists_eq_left', exists_eq', D.bl.injEq, D.int.injEq, D.str.injEq, D.tup.injEq, D.ref.injEq, List.cons.injEq, and_true, true_and, List.length_cons, List.length_nil, List.replicate, D.ty.injEq, exists_and_left, List.length, Nat.reduceAdd, wCall, wMake, wMeth, wFld, argsD, argD, toArg, List.getD_cons_zero, List.getD_cons_succ, List.map, iwS, vTupOf, Bool.false_eq_true, if_false, if_true, reduceIte, List.getElem?_nil, Nat.reduceSub, wipeR, vLen_lst, vLen_tup, vEq_ii, vEq_ss, vEq_bb, vIx_lst, vIx_tup, vIn_strs, vIn_s2, vIn_s3, vAll_map, vInK_s, vIxK_s, vInt_i, vAbs_i, atI_0, atI_1, atI_2, Bool.not_true, Bool.not_false, seqOf_lst, seqOf_tup, lstOf_lst, tupOf_tup, fzL_lst, wForget, fgt, wLc2, wDc, iwZB, vRepS, vSlT, vSlA, wCKw, vStrQ, iwSg, wDGet2, iwZS, wMkX, wMkXK, wMkX2, wXt, wErr, wDic0, wDispK, wRevL, wListRg, N_is_list, N_is_integer, N_is_within, N_are_integers, N_is_lot, N_is_short, N_are_shorts, N__law_cloud, N__law_drop, N__law_one_of, N__law_any, N__law_kin, N__law_stands, N__law_errors_right, N__law_is_integer, N__law_numbers_right, N__law_rows_right, N__law_lots_right, N_law, ofStr_inj, ofStr_beq, String.reduceEq, decide_true, decide_false, Bool.or_false, Bool.or_true, Bool.false_or, Bool.true_or, Bool.and_true, Bool.and_false, Bool.true_and, Bool.false_and, vModN, iwE, iwEM])
/-! ### rows of integers and of shorts -/
theorem cut_take {ds : List D} {n : Nat} (h : n ≤ ds.length) : cutD ds none (some (n : Int)) = ds.take n := by
  unfold cutD
  rw [HT.sIx_none, HT.sIx_nat]
  simp
theorem cut_drop {ds : List D} {n : Nat} (h : n ≤ ds.length) : cutD ds (some (n : Int)) none = ds.drop n := by
  unfold cutD
  rw [HT.sIx_none, HT.sIx_nat, Nat.min_eq_left h]
  exact List.take_of_length_le (by rw [List.length_drop]; omega)
/-- a value that stays, a list of plain ones if it is a list -/
structure Vl (z : D) : Prop where
  sh : ∀ μ, ShV μ z
  it : ∀ μ, intsB μ z = isLst μ z
  wt : isI z = true → ∃ n, z = .int n
theorem shv_lst {μ : Mu} {ds : List D} (l : ds.length ≤ 1000) (h : ∀ d ∈ ds, Kd μ d) : ShV μ (.lst ds) := ⟨⟨_, rfl⟩, fun _ => ⟨ds, .inl (.inl rfl), l, h⟩⟩
theorem shv_tup {μ : Mu} {ds : List D} (l : ds.length ≤ 1000) (h : ∀ d ∈ ds, Kd μ d) : ShV μ (.tup ds) := ⟨⟨_, rfl⟩, fun _ => ⟨ds, .inl (.inr rfl), l, h⟩⟩
theorem shv_flat {μ : Mu} {z : D} (k : Kd μ z) (h : isLst μ z = false) : ShV μ z := ⟨k, fun e => by rw [h] at e; cases e⟩
theorem intsB_lst {μ : Mu} {ds : List D} : intsB μ (.lst ds) = ds.all isI := rfl
theorem intsB_tup {μ : Mu} {ds : List D} : intsB μ (.tup ds) = ds.all isI := rfl
theorem ints_all : ∀ ns : List Int, (ns.map D.int).all isI = true
  | [] => rfl
  | n :: ns => by rw [List.map_cons, List.all_cons, ints_all ns]; rfl
theorem isSh_no {z : D} (h : isI z = false) : isSh z = false := by cases z <;> first | rfl | cases h
theorem shorts_all {ns : List Int} (h : ∀ n ∈ ns, isSh (.int n) = true) : (ns.map D.int).all isSh = true := by
  rw [List.all_eq_true]
  intro d hd
  obtain ⟨n, hn, rfl⟩ := List.mem_map.mp hd
  exact h n hn
theorem sB_lst {μ : Mu} {ds : List D} {m : Option Nat} : shortsB μ (.lst ds) m = (cnt m ds.length && ds.all isSh) := rfl
theorem sB_tup {μ : Mu} {ds : List D} {m : Option Nat} : shortsB μ (.tup ds) m = (cnt m ds.length && ds.all isSh) := rfl
def sp__law_rows_right : VSp := fun ds μ ev Φ => ∃ (a : Addr) (b : Nat), ds = [.ref a] ∧ Mist μ a (b + 20) ∧ ∀ μ', Kp [a] μ μ' → Mist μ' a b → Φ (.bl true) μ'
theorem b__law_rows_right {P : Program} {w : World} {K : PySem.W.Frag} {mg : Str → Option Value} {base : Heap} (T : Txt w K mg) : ∀ fd, FunD K "_law_rows_right" "_law_rows_right" (defArgs s__law_rows_right) (defBody s__law_rows_right) (defScope s__law_rows_right) [] [] (He.ga K "_law_rows_right") fd → FnG P w K mg base CX0 5 (He.ga K "_law_rows_right") fd ["_law_cloud_here"] (lift K [] (sp__law_rows_right)) := by
  intro fd F
  refine fun_okD (N := N__law_rows_right) F sc__law_rows_right (fun ds μ ev Φ h => ?size) (fun cdv A outer s H E hG hr => ⟨_, (vss_cons (vs_setLcZ (i := 1) (own := [("_law_turn", 9)]) (p := (.name 9)) rfl sc__law_rows_right.nd rfl rfl (sw_true rfl rfl rfl (by decide +kernel)) (vi_range1 (by rfl) T.b_range (va_cons (ve_call T.g__law_drop (c__law_drop_2 T) hG hr (by decide) pass0 sel_0 rfl (va_cons (vv 0) (va_cons ve_int va_nil)) vk_nil) va_nil)) (blkOk_by (N := N__law_rows_right) (sc := defScope s__law_rows_right) (by decide +kernel)) (fun _ _ _ _ _ => pg_name (i := 9) sc__law_rows_right.nd rfl (Or.inl rfl)) (fun _ _ _ _ _ => vts_nil) (fun _ _ _ _ _ => (ve_call T.g__law_one_of (c__law_one_of_2 T) hG hr (by decide) pass0 sel_0 rfl (va_cons (vv 0) (va_cons (ve_lst (va_cons ve_int (va_cons (ve_un un_neg s_neg ve_int) (va_cons ve_int (va_cons ve_int (va_cons (ve_un un_neg s_neg ve_int) (va_cons (ve_call T.g__law_drop (c__law_drop_2 T) hG hr (by decide) pass0 sel_0 rfl (va_cons (vv 0) (va_cons ve_int va_nil)) vk_nil) va_nil))))))) va_nil)) vk_nil)) (by decide))
 (vss_cons (vs_set (i := 2) sc__law_rows_right.nd rfl (Or.inl rfl) (ve_call T.g__law_one_of (c__law_one_of_2 T) hG hr (by decide) pass0 sel_0 rfl (va_cons (vv 0) (va_cons (ve_lst (va_cons ve_non (va_cons ve_bl (va_cons ve_str (va_cons (ve_lst va_nil) (va_cons ve_int (va_cons (ve_un un_neg s_neg ve_int) (va_cons (ve_op op_pow s_pow ve_int ve_int) (va_cons ve_int (va_cons (ve_tup (va_cons ve_int va_nil)) (va_cons ve_bl (va_cons ve_str va_nil)))))))))))) va_nil)) vk_nil))
 (vss_cons (vs_par (ps_par (i := 3) (j := 4) rfl sc__law_rows_right.nd rfl rfl (by decide) rfl rfl (va_cons (ve_call T.g__law_drop (c__law_drop_2 T) hG hr (by decide) pass0 sel_0 rfl (va_cons (vv 0) (va_cons (ve_op op_addA s_addA (ve_callB call_lenA s_len (by rfl) T.b_len (by decide +kernel) (va_cons (vv 1) va_nil)) ve_int) va_nil)) vk_nil) (va_cons (ve_callB call_lenA s_len (by rfl) T.b_len (by decide +kernel) (va_cons (vv 1) va_nil)) va_nil)) (by rfl)))
 (vss_cons (vs_set (i := 5) sc__law_rows_right.nd rfl (Or.inl rfl) (ve_op op_addA s_addA (ve_op op_addA s_addA (ve_slice sl_list s_slL (vv 1) vo_none (vo_some (vv 3))) (ve_lst (va_cons (vv 2) va_nil))) (ve_slice sl_list s_slL (vv 1) (vo_some (vv 3)) vo_none)))
 (vss_cons (vs_set (i := 6) sc__law_rows_right.nd rfl (Or.inl rfl) (ve_call T.g__law_is_integer (c__law_is_integer_1 T) hG hr (by decide) pass0 sel_0 rfl (va_cons (vv 2) va_nil) vk_nil))
 (vss_cons (vs_set (i := 7) sc__law_rows_right.nd rfl (Or.inl rfl) (ve_and (vv 6) (ve_one (ve_chain op_le s_le op_le s_le (ve_un un_neg s_neg ve_int) (vv 2) ve_int))))
 (vss_cons (vs_set (i := 8) sc__law_rows_right.nd rfl (Or.inl rfl) (ve_lst (va_cons (ve_call T.g_are_integers (c_are_integers_1 T) hG hr (by decide) pass0 sel_0 rfl (va_cons (vv 1) va_nil) vk_nil) (va_cons (ve_callN0 T.g_are_integers (c_are_integers_0_value T) hG hr (by decide) pass0 sel_0 rfl (vk_cons (ve_callTy call_tuple_of s_tuple (by rfl) T.b_tuple (by decide +kernel) (va_cons (vv 1) va_nil)) vk_nil)) (va_cons (ve_call T.g_are_integers (c_are_integers_1 T) hG hr (by decide) pass0 sel_0 rfl (va_cons (vv 5) va_nil) vk_nil) (va_cons (ve_call T.g_are_integers (c_are_integers_1 T) hG hr (by decide) pass0 sel_0 rfl (va_cons (ve_z (ve_dispK ve_int ve_int)) va_nil) vk_nil) (va_cons (ve_call T.g_are_integers (c_are_integers_1 T) hG hr (by decide) pass0 sel_0 rfl (va_cons ve_str va_nil) vk_nil) (va_cons (ve_call T.g_are_integers (c_are_integers_1 T) hG hr (by decide) pass0 sel_0 rfl (va_cons (vv 2) va_nil) vk_nil) va_nil))))))))
 (vss_cons (vs_if (vt_cmp (op_neA hr.units) s_ne (ve_callB (call_showA hG hr.units) s_repr (by rfl) T.b_repr (by decide +kernel) (va_cons (vv 8) va_nil)) (ve_callB (call_showA hG hr.units) s_repr (by rfl) T.b_repr (by decide +kernel) (va_cons (ve_lst (va_cons ve_bl (va_cons ve_bl (va_cons (vv 6) (va_cons ve_bl (va_cons ve_bl (va_cons (ve_callB call_isiA s_isiT (by rfl) T.b_isinstance (by decide +kernel) (va_cons (vv 2) (va_cons (ve_tup (va_cons (ve_ty (n := "list") rfl T.b_list (by decide +kernel)) (va_cons (ve_ty (n := "tuple") rfl T.b_tuple (by decide +kernel)) va_nil))) va_nil))) va_nil))))))) va_nil)) (nomark _))
 (vss_one (vs_ret ve_bl))
 vss_nil)
 (vss_cons (vs_set (i := 8) sc__law_rows_right.nd rfl (Or.inl rfl) (ve_lst (va_cons (ve_call T.g_are_shorts (c_are_shorts_2 T) hG hr (by decide) pass0 sel_0 rfl (va_cons (vv 1) (va_cons (vv 4) va_nil)) vk_nil) (va_cons (ve_callN0 T.g_are_shorts (c_are_shorts_0_many_value T) hG hr (by decide) pass0 sel_0 rfl (vk_cons ve_non (vk_cons (ve_callTy call_tuple_of s_tuple (by rfl) T.b_tuple (by decide +kernel) (va_cons (vv 1) va_nil)) vk_nil))) (va_cons (ve_call T.g_are_shorts (c_are_shorts_2 T) hG hr (by decide) pass0 sel_0 rfl (va_cons (vv 1) (va_cons (ve_op op_addA s_addA (vv 4) ve_int) va_nil)) vk_nil) (va_cons (ve_call T.g_are_shorts (c_are_shorts_2 T) hG hr (by decide) pass0 sel_0 rfl (va_cons (vv 5) (va_cons (ve_op op_addA s_addA (vv 4) ve_int) va_nil)) vk_nil) va_nil))))))
 (vss_cons (vs_set (i := 8) sc__law_rows_right.nd rfl (Or.inl rfl) (ve_op op_addA s_addA (vv 8) (ve_lst (va_cons (ve_call T.g_are_shorts (c_are_shorts_2 T) hG hr (by decide) pass0 sel_0 rfl (va_cons (vv 5) (va_cons ve_non va_nil)) vk_nil) (va_cons (ve_call T.g_are_shorts (c_are_shorts_2 T) hG hr (by decide) pass0 sel_0 rfl (va_cons (vv 5) (va_cons (vv 4) va_nil)) vk_nil) (va_cons (ve_call T.g_are_shorts (c_are_shorts_2 T) hG hr (by decide) pass0 sel_0 rfl (va_cons ve_dic0 (va_cons ve_int va_nil)) vk_nil) (va_cons (ve_call T.g_are_shorts (c_are_shorts_2 T) hG hr (by decide) pass0 sel_0 rfl (va_cons ve_str (va_cons ve_int va_nil)) vk_nil) (va_cons (ve_call T.g_are_shorts (c_are_shorts_2 T) hG hr (by decide) pass0 sel_0 rfl (va_cons ve_non (va_cons ve_non va_nil)) vk_nil) va_nil))))))))
 (vss_one (vs_ret (ve_cmp (op_eqA hr.units) s_eq (ve_callB (call_showA hG hr.units) s_repr (by rfl) T.b_repr (by decide +kernel) (va_cons (vv 8) va_nil)) (ve_callB (call_showA hG hr.units) s_repr (by rfl) T.b_repr (by decide +kernel) (va_cons (ve_lst (va_cons ve_bl (va_cons ve_bl (va_cons ve_bl (va_cons (vv 7) (va_cons (vv 7) (va_cons ve_bl (va_cons ve_bl (va_cons ve_bl (va_cons ve_bl va_nil)))))))))) va_nil)) (nomark _)))))))))))))), fun ds μ ev Φ h => ?_⟩)
  · obtain ⟨a, b, rfl, _⟩ := h; rfl
  · obtain ⟨a, b, rfl, hm, k⟩ := h
    walk_at "wr"
    refine ⟨a, 6, b + 19, rfl, by decide, by decide, hm, fun v μ1 v0 v1 k1 m1 => ?_⟩
    walk_at "wr"
    refine ⟨by omega, by omega, fun Ds nD => ?_⟩
    have aD := m1.ne nD
    have hv : v.toNat ≤ 5 := by omega
    refine lcW_inv (fun i acc μ' => (∃ ns : List Int, acc = ns.map .int ∧ ∀ n ∈ ns, isSh (.int n) = true) ∧ Kp [a] μ1 μ' ∧ Mist μ' a (b + 19 - 2 * i)) (by rw [List.length_map, List.length_range]; exact sizeOk (by omega)) (fun i d acc μ2 Ψ hd hacc hDs ⟨⟨ns, e, hn⟩, k2, m2⟩ kk => ?_) (fun acc μ2 hla hDs ⟨⟨ns, e, hn⟩, k2, m2⟩ => ?_) Mu.same ⟨⟨[], rfl, by simp⟩, Kp.refl.setN nD, m1.setN aD⟩
    · have hi := (List.getElem?_eq_some_iff.mp hd).1
      rw [List.length_map, List.length_range] at hi
      refine ⟨trivial, _, rfl, ?_⟩
      walk_at "wr"
      have e1 : b + 19 - 2 * i = (b + 19 - 2 * (i + 1)) + 1 + 1 := by omega
      rw [e1] at m2
      refine ⟨a, 99, _, rfl, by decide, by decide, m2, fun v μ3 v0 v1 k3 m3 => ?_⟩
      refine ⟨sizeOk (by decide), a, _, _, rfl, by simp, by simp, m3, fun y μ4 hy k4 m4 => ?_⟩
      obtain ⟨n, rfl, hs⟩ : ∃ n : Int, y = .int n ∧ isSh (.int n) = true := by
        simp only [List.mem_cons, List.not_mem_nil, or_false] at hy
        rcases hy with rfl | rfl | rfl | rfl | rfl | rfl <;> refine ⟨_, rfl, ?_⟩ <;> simp [isSh, within] <;> omega
      have k34 := k3.trans Nw.refl k4
      refine kk _ μ4 (k34.at_ hDs (by simpa using Ne.symm aD)) ⟨⟨ns ++ [n], by rw [e, List.map_append]; rfl, fun m hm => ?_⟩, (k2.trans Nw.refl k34).setN nD, m4.setN aD⟩
      rcases List.mem_append.mp hm with h | h
      · exact hn m h
      · rw [List.mem_singleton.mp h]; exact hs
    · subst e
      rw [List.length_map, List.length_map, List.length_range] at hla
      rw [List.length_map, List.length_range] at m2
      refine ⟨trivial, Ds, rfl, .lst (ns.map .int), frzOf_lst hDs, ?_⟩
      have k3 : Kp [a] μ (μ2.del Ds) := (k1.trans Nw.refl k2).delN (k1.free nD (by simpa using Ne.symm aD))
      have m3 : Mist (μ2.del Ds) a (b + 2) := (m2.mono (by omega)).keep (F := [Ds]) (Kp.del (.head _)) (by simpa using aD)
      generalize μ2.del Ds = μ3 at k3 m3 ⊢
      have nl : ns.length ≤ 5 := by omega
      refine ⟨sizeOk (by decide), ⟨by decide, by decide, by decide⟩, sizeOk (by decide), sizeOk (by decide), a, _, b + 1, rfl, by simp, by simp, m3, fun z μ4 hz k4 m4 => ?_⟩
      have vz : Vl z := by
        simp only [List.mem_cons, List.not_mem_nil, or_false] at hz
        rcases hz with rfl | rfl | rfl | rfl | rfl | rfl | rfl | rfl | rfl | rfl | rfl <;> first
          | exact ⟨fun μ => shv_flat ⟨_, rfl⟩ rfl, fun μ => rfl, fun h => ⟨_, rfl⟩⟩
          | exact ⟨fun μ => shv_flat ⟨_, rfl⟩ rfl, fun μ => rfl, fun h => by cases h⟩
          | exact ⟨fun μ => shv_lst (by simp) (by simp), fun μ => rfl, fun h => by cases h⟩
          | exact ⟨fun μ => shv_tup (by simp) (fun d hd => by simp at hd; subst hd; exact ⟨_, rfl⟩), fun μ => rfl, fun h => by cases h⟩
      clear hz
      walk_at "wr"
      rw [List.length_map]
      refine ⟨a, _, b, rfl, by omega, by omega, m4, fun j μ5 j0 j1 k5 m5 => ?_⟩
      obtain ⟨j, rfl⟩ : ∃ n : Nat, j = n := ⟨j.toNat, by omega⟩
      have hj : j ≤ ns.length := by omega
      have k05 : Kp [a] μ μ5 := (k3.trans Nw.refl k4).trans Nw.refl k5
      have kb := k μ5 k05 m5
      clear m4 k4 k5 m5 k k3 m3 k05 hm k1 m1 k2 m2 hDs nD
      refine ⟨_, _, ⟨rfl, rfl⟩, j, rfl, _, .inl rfl, sizeOk (by decide), ?_⟩
      rw [cut_take (by rw [List.length_map]; exact hj), vAddA_ll]
      have l1 : ((ns.map D.int).take j).length + 1 ≤ 10 := by rw [List.length_take, List.length_map]; omega
      refine ⟨sizeOk (by show _ + 1 ≤ _; omega), j, rfl, _, .inl rfl, ?_⟩
      show vAddA (.lst _) (.lst _) _ _
      rw [cut_drop (by rw [List.length_map]; exact hj), vAddA_ll]
      have l2 : ((ns.map D.int).take j ++ [z] ++ (ns.map D.int).drop j).length = ns.length + 1 := by
        rw [List.length_append, List.length_append, List.length_take, List.length_drop, List.length_map]
        show min j ns.length + 1 + _ = _
        omega
      refine ⟨sizeOk (by rw [← List.length_append, l2]; omega), z, rfl, (vz.sh _).kd, ?_⟩
      obtain ⟨es, hes⟩ : ∃ es, es = (ns.map D.int).take j ++ [z] ++ (ns.map D.int).drop j := ⟨_, rfl⟩
      rw [← hes] at l2 ⊢
      have ia : es.all isI = isI z := by
        have h := ints_all ns
        rw [← List.take_append_drop j (ns.map D.int), List.all_append, Bool.and_eq_true] at h
        rw [hes, List.all_append, List.all_append, h.1, h.2]
        simp
      have sa : es.all isSh = isSh z := by
        have h := shorts_all hn
        rw [← List.take_append_drop j (ns.map D.int), List.all_append, Bool.and_eq_true] at h
        rw [hes, List.all_append, List.all_append, h.1, h.2]
        simp
      have kz := (vz.sh μ5).kd
      have kes : ∀ d ∈ es, Kd μ5 d := fun d hd => by
        rw [hes, List.mem_append, List.mem_append, List.mem_singleton] at hd
        rcases hd with (h | h) | h
        · obtain ⟨n, _, rfl⟩ := List.mem_map.mp (List.mem_of_mem_take h); exact ⟨_, rfl⟩
        · rw [h]; exact kz
        · obtain ⟨n, _, rfl⟩ := List.mem_map.mp (List.mem_of_mem_drop h); exact ⟨_, rfl⟩
      have kns : ∀ d ∈ ns.map D.int, Kd μ5 d := fun d hd => by
        obtain ⟨n, _, rfl⟩ := List.mem_map.mp hd; exact ⟨_, rfl⟩
      clear hes
      rw [isTy_int]
      refine ⟨_, rfl, ?_⟩
      have f1 : intsB μ5 (.lst (ns.map D.int)) = true := ints_all ns
      have f2 : intsB μ5 (.tup (ns.map D.int)) = true := ints_all ns
      have f3 : intsB μ5 (.lst es) = isI z := ia
      have f4 : intsB μ5 (.dic [.inl 0] [.int 1]) = false := rfl
      have f5 : intsB μ5 (.str "12") = false := rfl
      have ll : (ns.map D.int).length ≤ 1000 := by rw [List.length_map]; omega
      have le : es.length ≤ 1000 := by omega
      have g1 : shortsB μ5 (.lst (ns.map D.int)) (some ns.length) = true := by rw [sB_lst, shorts_all hn, cnt, List.length_map]; simp
      have g2 : shortsB μ5 (.tup (ns.map D.int)) none = true := by rw [sB_tup, shorts_all hn]; rfl
      have g3 : shortsB μ5 (.lst (ns.map D.int)) (some (ns.length + 1)) = false := by rw [sB_lst, cnt, List.length_map]; simp
      have g4 : shortsB μ5 (.lst es) (some (ns.length + 1)) = isSh z := by rw [sB_lst, sa, cnt, l2]; simp
      have g5 : shortsB μ5 (.lst es) none = isSh z := by rw [sB_lst, sa]; rfl
      have g6 : shortsB μ5 (.lst es) (some ns.length) = false := by rw [sB_lst, cnt, l2]; simp
      have g7 : shortsB μ5 (.dic [] []) (some 0) = false := rfl
      have g8 : shortsB μ5 (.str "") (some 0) = false := rfl
      have g9 : shortsB μ5 .non none = false := rfl
      cases hw : isI z with
      | false =>
        have hs : isSh z = false := isSh_no hw
        rw [if_neg Bool.false_ne_true]
        try walk_at "wr"
        refine ⟨_, rfl, shv_lst ll kns, _, rfl, shv_tup ll kns, _, rfl, shv_lst le kes, fun p hp => ⟨.inl 0, rfl, Mu.same, .dic [.inl 0] [.int 1], by unfold frzOf; rw [Mu.same], ?_⟩⟩
        rw [Mu.set_set, Mu.del_set hp]
        refine ⟨_, rfl, shv_flat ⟨_, rfl⟩ rfl, _, rfl, shv_flat ⟨_, rfl⟩ rfl, _, rfl, vz.sh _, sizeOk (by decide), ?_⟩
        rw [f1, f2, f3, f4, f5, vz.it μ5, hw]
        refine repr_bls [true, true, _, false, false, isLst μ5 _] (by simp) ⟨sizeOk (by decide), l_isiSeq kz ⟨sizeOk (by decide), repr_bls [true, true, _, false, false, isLst μ5 _] (by simp) ?_⟩⟩
        rw [vEq_ss]
        refine ⟨_, rfl, ?_⟩
        rw [if_neg (by simp)]
        refine ⟨_, some ns.length, rfl, shv_lst ll kns, _, none, rfl, shv_tup ll kns, _, some (ns.length + 1), rfl, shv_lst ll kns, _, some (ns.length + 1), rfl, shv_lst le kes, sizeOk (by decide), ?_⟩
        refine ⟨_, none, rfl, shv_lst le kes, _, some ns.length, rfl, shv_lst le kes, _, some 0, rfl, shv_flat ⟨_, rfl⟩ rfl, _, some 0, rfl, shv_flat ⟨_, rfl⟩ rfl, _, none, rfl, shv_flat ⟨_, rfl⟩ rfl, sizeOk (by decide), ?_⟩
        rw [g1, g2, g3, g4, g5, g6, g7, g8, g9, hs, vAddA_ll]
        refine ⟨sizeOk (by simp), repr_bls [true, true, false, _, _, false, false, false, false] (by simp) ⟨sizeOk (by decide), repr_bls [true, true, false, _, _, false, false, false, false] (by simp) ?_⟩⟩
        rw [vEq_ss]
        simpa using kb
      | true =>
        obtain ⟨n, rfl⟩ := vz.wt hw
        rw [if_pos rfl]
        refine ⟨n, rfl, ite_sp (fun h1 => ?_) (fun h1 => ?_)⟩
        · try walk_at "wr"
          have hs : isSh (.int n) = decide (n ≤ 2147483647) := by show (decide (-2147483648 ≤ n) && decide (n ≤ 2147483647)) = _; rw [h1]; rfl
          refine ⟨_, rfl, shv_lst ll kns, _, rfl, shv_tup ll kns, _, rfl, shv_lst le kes, fun p hp => ⟨.inl 0, rfl, Mu.same, .dic [.inl 0] [.int 1], by unfold frzOf; rw [Mu.same], ?_⟩⟩
          rw [Mu.set_set, Mu.del_set hp]
          refine ⟨_, rfl, shv_flat ⟨_, rfl⟩ rfl, _, rfl, shv_flat ⟨_, rfl⟩ rfl, _, rfl, vz.sh _, sizeOk (by decide), ?_⟩
          rw [f1, f2, f3, f4, f5, vz.it μ5, hw]
          refine repr_bls [true, true, _, false, false, isLst μ5 _] (by simp) ⟨sizeOk (by decide), l_isiSeq kz ⟨sizeOk (by decide), repr_bls [true, true, _, false, false, isLst μ5 _] (by simp) ?_⟩⟩
          rw [vEq_ss]
          refine ⟨_, rfl, ?_⟩
          rw [if_neg (by simp)]
          refine ⟨_, some ns.length, rfl, shv_lst ll kns, _, none, rfl, shv_tup ll kns, _, some (ns.length + 1), rfl, shv_lst ll kns, _, some (ns.length + 1), rfl, shv_lst le kes, sizeOk (by decide), ?_⟩
          refine ⟨_, none, rfl, shv_lst le kes, _, some ns.length, rfl, shv_lst le kes, _, some 0, rfl, shv_flat ⟨_, rfl⟩ rfl, _, some 0, rfl, shv_flat ⟨_, rfl⟩ rfl, _, none, rfl, shv_flat ⟨_, rfl⟩ rfl, sizeOk (by decide), ?_⟩
          rw [g1, g2, g3, g4, g5, g6, g7, g8, g9, hs, vAddA_ll]
          refine ⟨sizeOk (by simp), repr_bls [true, true, false, _, _, false, false, false, false] (by simp) ⟨sizeOk (by decide), repr_bls [true, true, false, _, _, false, false, false, false] (by simp) ?_⟩⟩
          rw [vEq_ss]
          simpa using kb
        · try walk_at "wr"
          have hs : isSh (.int n) = false := by show (decide (-2147483648 ≤ n) && decide (n ≤ 2147483647)) = _; rw [h1]; rfl
          refine ⟨_, rfl, shv_lst ll kns, _, rfl, shv_tup ll kns, _, rfl, shv_lst le kes, fun p hp => ⟨.inl 0, rfl, Mu.same, .dic [.inl 0] [.int 1], by unfold frzOf; rw [Mu.same], ?_⟩⟩
          rw [Mu.set_set, Mu.del_set hp]
          refine ⟨_, rfl, shv_flat ⟨_, rfl⟩ rfl, _, rfl, shv_flat ⟨_, rfl⟩ rfl, _, rfl, vz.sh _, sizeOk (by decide), ?_⟩
          rw [f1, f2, f3, f4, f5, vz.it μ5, hw]
          refine repr_bls [true, true, _, false, false, isLst μ5 _] (by simp) ⟨sizeOk (by decide), l_isiSeq kz ⟨sizeOk (by decide), repr_bls [true, true, _, false, false, isLst μ5 _] (by simp) ?_⟩⟩
          rw [vEq_ss]
          refine ⟨_, rfl, ?_⟩
          rw [if_neg (by simp)]
          refine ⟨_, some ns.length, rfl, shv_lst ll kns, _, none, rfl, shv_tup ll kns, _, some (ns.length + 1), rfl, shv_lst ll kns, _, some (ns.length + 1), rfl, shv_lst le kes, sizeOk (by decide), ?_⟩
          refine ⟨_, none, rfl, shv_lst le kes, _, some ns.length, rfl, shv_lst le kes, _, some 0, rfl, shv_flat ⟨_, rfl⟩ rfl, _, some 0, rfl, shv_flat ⟨_, rfl⟩ rfl, _, none, rfl, shv_flat ⟨_, rfl⟩ rfl, sizeOk (by decide), ?_⟩
          rw [g1, g2, g3, g4, g5, g6, g7, g8, g9, hs, vAddA_ll]
          refine ⟨sizeOk (by simp), repr_bls [true, true, false, _, _, false, false, false, false] (by simp) ⟨sizeOk (by decide), repr_bls [true, true, false, _, _, false, false, false, false] (by simp) ?_⟩⟩
          rw [vEq_ss]
          simpa using kb
theorem c__law_rows_right_1 {P : Program} {w : World} {K : PySem.W.Frag} {mg : Str → Option Value} {base : Heap} (T : Txt w K mg) : CanV P w K mg base CX0 [] 5 (He.ga K "_law_rows_right") 1 [] ([.inl 0].map (toArg [] [])) (sp__law_rows_right) :=
  canV_of (ps := ["_law_cloud_here"]) [.inl 0] T.f__law_rows_right (b__law_rows_right T) (fun _ _ _ _ _ _ us ws h1 h2 => match us, ws, h1, h2 with | [_], [], _, _ => rfl) (by decide)
end K00

set_option maxRecDepth 100000
set_option maxHeartbeats 4000000
namespace K00
open PySem L2 FW VL
local macro_rules | `(tactic| walk_at "wr") => `(tactic| simp only [vInt_bl, iwR1, iwR2, iwM, List.set_cons_succ, wLenSet, wFor, wSetF, wAugF, wAug, wBM, wProp, wHeld, wVar, wC, wZ, wOp, wUn, wNil, wCons, wStar, wCB, wTup, wLst, wLstM, wTest, wAnd, wOr, VL.wNot, wAndV, wOrV, wNotV, wIf, wChain, wNoPart, wPart, wSl, wName, wGNil, wGCons, wGTup, wSub, wNext, VL.wSeq, wAsg, wDrop, wRet, wRetN, wIfS, wBreak, wCont, wPar, vI0, vI, vU, vAdd, vSub, vMul, vMod, vFdiv, vPow, vLt, vLe, vGt, vGe, vNeg, vIsN, vNotN, vAddA_ii, vMulA_ii, VL.wTru, iwL, iwT, wLc, vstart, List.map_cons, List.map_nil, List.cons_append, List.nil_append, List.set_cons_zero, List.set_cons_succ, List.getElem?_cons_zero, List.getElem?_cons_succ, Option.some.injEq, exists_eq_left, exists_eq_left', exists_eq', D.bl.injEq, D.int.injEq, D.str.injEq, D.tup.injEq, D.ref.injEq, List.cons.injEq, and_true, true_and, List.length_cons, List.length_nil, List.replicate, D.ty.injEq, exists_and_left, List.length, Nat.reduceAdd, wCall, wMake, wMeth, wFld, argsD, argD, toArg, List.getD_cons_zero, List.getD_cons_succ, List.map, iwS, vTupOf, Bool.false_eq_true, if_false, if_true, reduceIte, List.getElem?_nil, Nat.reduceSub, wipeR, vLen_lst, vLen_tup, vEq_ii, vEq_ss, vEq_bb, vIx_lst, vIx_tup, vIn_strs, vIn_s2, vIn_s3, vAll_map, vInK_s, vIxK_s, vInt_i, vAbs_i, atI_0, atI_1, atI_2, Bool.not_true, Bool.not_false, seqOf_lst, seqOf_tup, lstOf_lst, tupOf_tup, fzL_lst, wForget, fgt, wLc2, wDc, iwZB, vRepS, vSlT, vSlA, wCKw, vStrQ, iwSg, wDGet2, iwZS, wMkX, wMkXK, wMkX2, wXt, wErr, wDic0, wDispK, wRevL, wListRg, N_is_list, N_is_integer, N_is_within, N_are_integers, N_is_lot, N_is_short, N_are_shorts, N__law_cloud, N__law_drop, N__law_one_of, N__law_any, N__law_kin, N__law_stands, N__law_errors_right, N__law_is_integer, N__law_numbers_right, N__law_rows_right, N__law_lots_right, N_law, ofStr_inj, ofStr_beq, String.reduceEq, decide_true, decide_false, Bool.or_false, Bool.or_true, Bool.false_or, Bool.true_or, Bool.and_true, Bool.and_false, Bool.true_and, Bool.false_and, vModN, iwE, iwEM])
/-! ### lots -/
theorem cut2 {s1 s2 : WS} {DD : VEnds} {ρ : Ro} {μ : Mu} {ev : EV} (h : ∀ N : Ro → Mu → Prop, (∀ ρ' μ', s2 DD ρ' μ' ev → N ρ' μ') → s1 { DD with nx := N } ρ μ ev) : VL.wSeq s1 s2 DD ρ μ ev := h _ fun _ _ q => q
/-- lots, told in two ways -/
theorem lotL_iff {n : Int} : ∀ (ms : List Int) (least : Int), lotL n least (ms.map .int) = true ↔ (∀ k ∈ ms, least ≤ k ∧ k < n) ∧ ms.Pairwise (· < ·)
  | [], _ => by simp [lotL]
  | m :: ms, least => by
    rw [List.map_cons, List.pairwise_cons]
    simp only [lotL, Bool.and_eq_true, decide_eq_true_eq]
    rw [lotL_iff ms (m + 1)]
    constructor
    · rintro ⟨h1, h2, h3, h4⟩
      refine ⟨fun k hk => ?_, fun k hk => ?_, h4⟩
      · rcases List.mem_cons.mp hk with rfl | hk
        · exact ⟨h1, h2⟩
        · have := h3 k hk; omega
      · have := h3 k hk; omega
    · rintro ⟨h1, h2, h3⟩
      have h0 := h1 m (List.mem_cons_self ..)
      exact ⟨h0.1, h0.2, fun k hk => ⟨by have := h2 k hk; omega, (h1 k (List.mem_cons_of_mem _ hk)).2⟩, h3⟩
theorem pw_ext : ∀ {l m : List Int}, l.Pairwise (· < ·) → m.Pairwise (· < ·) → (∀ x, x ∈ l ↔ x ∈ m) → l = m
  | [], [], _, _, _ => rfl
  | [], b :: m, _, _, h => by have := (h b).mpr (List.mem_cons_self ..); cases this
  | a :: l, [], _, _, h => by have := (h a).mp (List.mem_cons_self ..); cases this
  | a :: l, b :: m, hl, hm, h => by
    rw [List.pairwise_cons] at hl hm
    have ab : a = b := by
      rcases List.mem_cons.mp ((h a).mp (List.mem_cons_self ..)) with e | h1
      · exact e
      · rcases List.mem_cons.mp ((h b).mpr (List.mem_cons_self ..)) with e | h2
        · exact e.symm
        · have := hl.1 b h2
          have := hm.1 a h1
          omega
    subst ab
    rw [pw_ext hl.2 hm.2 fun x => ⟨fun hx => ?_, fun hx => ?_⟩]
    · rcases List.mem_cons.mp ((h x).mp (List.mem_cons_of_mem _ hx)) with e | h1
      · have := hl.1 x hx; omega
      · exact h1
    · rcases List.mem_cons.mp ((h x).mpr (List.mem_cons_of_mem _ hx)) with e | h1
      · have := hm.1 x hx; omega
      · exact h1
def rgF (n : Nat) (ms : List Int) : List Int := ((List.range n).filter fun k : Nat => decide ((k : Int) ∈ ms)).map fun k : Nat => (k : Int)
theorem rgF_pw (n : Nat) (ms : List Int) : (rgF n ms).Pairwise (· < ·) := by
  unfold rgF
  rw [List.pairwise_map]
  refine (List.Pairwise.filter _ List.pairwise_lt_range).imp fun h => by omega
theorem rgF_mem {n : Nat} {ms : List Int} {x : Int} : x ∈ rgF n ms ↔ x ∈ ms ∧ 0 ≤ x ∧ x < n := by
  unfold rgF
  rw [List.mem_map]
  constructor
  · rintro ⟨k, hk, rfl⟩
    rw [List.mem_filter, List.mem_range, decide_eq_true_eq] at hk
    exact ⟨hk.2, by omega, by omega⟩
  · rintro ⟨h1, h2, h3⟩
    obtain ⟨k, rfl⟩ : ∃ k : Nat, x = k := ⟨x.toNat, by omega⟩
    exact ⟨k, by rw [List.mem_filter, List.mem_range, decide_eq_true_eq]; exact ⟨by omega, h1⟩, rfl⟩
theorem lot_due (n : Nat) (ms : List Int) : lotL (n : Int) 0 (ms.map .int) = decide (ms = rgF n ms) := by
  rw [Bool.eq_iff_iff, lotL_iff, decide_eq_true_eq]
  constructor
  · rintro ⟨h1, h2⟩
    exact pw_ext h2 (rgF_pw n ms) fun x => by rw [rgF_mem]; exact ⟨fun h => ⟨h, (h1 x h).1, (h1 x h).2⟩, fun h => h.1⟩
  · intro h
    have p := rgF_pw n ms
    rw [← h] at p
    exact ⟨fun k hk => by rw [h, rgF_mem] at hk; exact hk.2, p⟩
theorem eqvA_il : ∀ xs ys : List Int, PyData.eqvAll (xs.map .int) (ys.map .int) = decide (xs = ys)
  | [], [] => rfl
  | [], _ :: _ => by simp [PyData.eqvAll]
  | _ :: _, [] => by simp [PyData.eqvAll]
  | x :: xs, y :: ys => by
    rw [List.map_cons, List.map_cons, PyData.eqvAll, eqvA_il xs ys]
    by_cases h : x = y <;> simp [PyData.eqv, h]
theorem eqD_il {μ : Mu} (xs ys : List Int) : eqD μ (.lst (xs.map .int)) (.lst (ys.map .int)) = some (decide (xs = ys)) := by
  have e : ∀ ws : List Int, toPyT μ (.lst (ws.map .int)) = some (.list (ws.map .int)) := fun ws => by show toPy μ (.lst _) = _; rw [toPy, toPys_ints]; rfl
  show (match toPyT μ (.lst (xs.map .int)), toPyT μ (.lst (ys.map .int)) with | some p, some q => pyEq p q | _, _ => none) = _
  rw [e, e]
  show pyEq _ _ = _
  unfold pyEq
  rw [shaped_ints, shaped_ints]
  simp only [Bool.and_self, if_true]
  show some (PyData.eqvAll _ _) = _
  rw [eqvA_il]
theorem inD_ints (k : Int) : ∀ ms : List Int, inD (.int k) (ms.map .int) = decide (k ∈ ms)
  | [] => rfl
  | m :: ms => by
    have ih := inD_ints k ms
    unfold inD at ih ⊢
    rw [List.map_cons, List.any_cons, ih, Bool.eq_iff_iff, Bool.or_eq_true, decide_eq_true_eq, decide_eq_true_eq, List.mem_cons]
    show (m == k) = true ∨ _ ↔ _
    rw [beq_iff_eq]
    exact ⟨fun h => h.imp Eq.symm id, fun h => h.imp Eq.symm id⟩
/-- what may lie in a row -/
structure RowE (d : D) : Prop where
  flat : flatD d = true
  kd : ∀ μ, Kd μ d
  py : ∃ p, (∀ μ, toPy μ d = some p) ∧ p.canLay0 = true ∧ p.depth = 0
theorem RowE.int (i : Int) : RowE (.int i) := ⟨rfl, fun _ => ⟨_, rfl⟩, _, fun _ => rfl, rfl, rfl⟩
theorem RowE.non : RowE .non := ⟨rfl, fun _ => ⟨_, rfl⟩, _, fun _ => rfl, rfl, rfl⟩
theorem RowE.bl (b : Bool) : RowE (.bl b) := ⟨rfl, fun _ => ⟨_, rfl⟩, _, fun _ => rfl, rfl, rfl⟩
theorem RowE.num {k : Nat} (h : k < 9) : RowE (.str (numS (k : Int))) := ⟨rfl, fun _ => ⟨_, rfl⟩, _, fun _ => rfl, by
  have all : ∀ k : Fin 9, PyData.canLay0 (.str (numS (k.val : Int))) = true := by decide +kernel
  exact all ⟨k, h⟩, rfl⟩
theorem rowE_py : ∀ {ds : List D}, (∀ d ∈ ds, RowE d) → ∃ ps, (∀ μ, toPys μ ds = some ps) ∧ PyData.canLayAll0 ps = true ∧ PyData.depthAll ps = 0
  | [], _ => ⟨[], fun _ => rfl, rfl, rfl⟩
  | d :: ds, h => by
    obtain ⟨p, h1, h2, h3⟩ := (h d (List.mem_cons_self ..)).py
    obtain ⟨ps, g1, g2, g3⟩ := rowE_py fun x hx => h x (List.mem_cons_of_mem _ hx)
    refine ⟨p :: ps, fun μ => by unfold toPys; rw [h1 μ, g1 μ], by rw [PyData.canLayAll0, h2, g2]; rfl, by rw [PyData.depthAll, h3, g3]; rfl⟩
theorem vEq_row {μ : Mu} {Φ : WK} {neg : Bool} {ds : List D} (h : ∀ d ∈ ds, RowE d) (q : Φ (.bl (if neg = true then !ds.isEmpty else ds.isEmpty)) μ) : vEq neg (.lst ds) (.lst []) μ Φ := by
  obtain ⟨ps, g1, g2, g3⟩ := rowE_py h
  have s : SeqAt.shaped (.list ps) = true := by
    unfold SeqAt.shaped
    rw [Bool.and_eq_true, decide_eq_true_eq, PyData.canLay0, PyData.depth, g3]
    exact ⟨g2, by decide⟩
  have h := g1 μ
  have e : ds.isEmpty = ps.isEmpty := by
    cases ds with
    | nil => cases h; rfl
    | cons d ds =>
      cases ps with
      | nil =>
        unfold toPys at h
        split at h <;> cases h
      | cons _ _ => rfl
  refine (vEq_iff (b := ps.isEmpty) ?_).mpr ?_
  · show (match toPyT μ (.lst ds), toPyT μ (.lst []) with | some p, some q => pyEq p q | _, _ => none) = _
    have e1 : toPyT μ (.lst ds) = some (.list ps) := by show toPy μ (.lst ds) = _; rw [toPy, h]; rfl
    have e2 : toPyT μ (.lst []) = some (.list []) := rfl
    rw [e1, e2]
    show pyEq _ _ = _
    unfold pyEq
    rw [s, show SeqAt.shaped (.list []) = true by decide +kernel]
    simp only [Bool.and_self, if_true]
    cases ps <;> simp [PyData.eqv, PyData.eqvAll]
  · rw [← e]; exact q
theorem ints_of_all : ∀ {ds : List D}, ds.all isI = true → ∃ ms : List Int, ds = ms.map .int
  | [], _ => ⟨[], rfl⟩
  | d :: ds, h => by
    rw [List.all_cons, Bool.and_eq_true] at h
    obtain ⟨ms, rfl⟩ := ints_of_all h.2
    cases d with
    | int i => exact ⟨i :: ms, rfl⟩
    | _ => cases h.1
theorem filter_ints (n : Nat) (ms : List Int) : (((List.range n).map fun k : Nat => D.int (k : Int)).filter fun d => inD d (ms.map .int)) = (rgF n ms).map .int := by
  unfold rgF
  rw [List.filter_map, List.map_map]
  congr 1
  refine List.filter_congr fun k _ => ?_
  show inD (.int (k : Int)) (ms.map .int) = _
  rw [inD_ints]
theorem empty_all (ds : List D) : (ds.filter fun d => !isI d).isEmpty = ds.all isI := by
  induction ds with
  | nil => rfl
  | cons d ds ih =>
    rw [List.filter_cons, List.all_cons]
    cases h : isI d with
    | true => simpa using ih
    | false => simp
/-- a row -/
theorem mem_cut {ds : List D} {lo hi : Option Int} {d : D} (h : d ∈ cutD ds lo hi) : d ∈ ds := by
  unfold cutD at h
  exact List.mem_of_mem_drop (List.mem_of_mem_take h)
theorem len_cut {ds : List D} {lo hi : Option Int} : (cutD ds lo hi).length ≤ ds.length := by
  unfold cutD
  rw [List.length_take, List.length_drop]
  omega
def RowOk (r : D) : Prop := ∃ ds, r = .lst ds ∧ ds.length ≤ 20 ∧ ∀ d ∈ ds, RowE d
theorem lc_kept {Φ : WK} {μ5 : Mu} {a Ds : Addr} {n B : Nat} {x1 x2 x3 x4 x5 x6 x7 x8 : Option D} (hm : Mist μ5 a (B + n)) (hl : n ≤ 1000) (nD : μ5 Ds = none)
    (k : ∀ (ks : List Nat) μ6, ks.length ≤ n → (∀ j ∈ ks, j < n) → Kp [a] μ5 μ6 → Mist μ6 a B → μ6 Ds = some (.lst (ks.map fun j : Nat => .int (j : Int))) → Φ (.ref Ds) μ6) :
    lcW noP (Pat.name 8) (wTest (wOp (vEq false) (wCall (fun x => ev0) [VL.Arg.pos 0, VL.Arg.pos 1] sp__law_drop 2 0 (wCons (wVar 0) (wCons (wC (D.int 2)) wNil)) wNil) (wC (D.int 0)))) (wVar 8) [8]
      [some (.ref a), x1, x2, x3, x4, x5, x6, x7, x8] ev0 Ds Φ ((List.range n).map fun k : Nat => .int (k : Int)) (μ5.set Ds (.lst [])) := by
  have aD := hm.ne nD
  refine lcW_invT (fun i acc μ' => ∃ ks : List Nat, acc = ks.map (fun j : Nat => .int (j : Int)) ∧ ks.length ≤ i ∧ (∀ j ∈ ks, j < i) ∧ Kp [a] μ5 μ' ∧ Mist μ' a (B + (n - i))) (sizeOk (by simp; omega)) ?_ ?_ Mu.same ⟨[], rfl, Nat.le_refl _, fun _ z => (nomatch z), Kp.refl.setN nD, hm.setN aD⟩
  · rintro i d acc μ' Ψ Ψ0 hd hal hD ⟨ks, rfl, pw, lt, kp, mi⟩ hk h0
    obtain ⟨hin, rfl⟩ := range_get hd
    refine ⟨trivial, _, rfl, ?_⟩
    have mi := mi.mono (b' := B + (n - (i + 1)) + 1) (by omega)
    have take : ∀ μ7, Kp [a] μ' μ7 → Mist μ7 a (B + (n - (i + 1))) → Ψ (.int (i : Int)) μ7 := fun μ7 k7 m7 => hk _ μ7 (k7.at_ hD (by simpa using Ne.symm aD)) ⟨ks ++ [i], by rw [List.map_append]; rfl, by
      rw [List.length_append]
      show ks.length + 1 ≤ i + 1
      omega, fun j hj => by
      rcases List.mem_append.mp hj with z | z
      · have := lt j z; omega
      · rw [List.mem_singleton.mp z]; omega, (kp.trans Nw.refl k7).setN nD, m7.setN aD⟩
    have skip : ∀ μ7, Kp [a] μ' μ7 → Mist μ7 a (B + (n - (i + 1))) → Ψ0 μ7 := fun μ7 k7 m7 => h0 μ7 (k7.at_ hD (by simpa using Ne.symm aD)) ⟨ks, rfl, by omega, fun j hj => by have := lt j hj; omega, kp.trans Nw.refl k7, m7⟩
    walk_at "wr"
    refine ⟨a, 2, B + (n - (i + 1)), rfl, by decide, by decide, mi, fun v μ7 v0 v1 k7 m7 => ?_⟩
    simp only [vEq_ii]
    refine ⟨_, rfl, ?_⟩
    simp only [Bool.false_eq_true, if_false]
    exact ite_sp (fun _ => take μ7 k7 m7) fun _ => skip μ7 k7 m7
  · rintro acc μ' hal hD ⟨ks, rfl, pw, lt, kp, mi⟩
    simp only [List.length_map, List.length_range] at lt mi pw
    exact ⟨trivial, k ks μ' pw lt kp (mi.mono (by omega)) hD⟩
def sp__law_lots_right : VSp := fun ds μ ev Φ => ∃ (a : Addr) (b : Nat), ds = [.ref a] ∧ Mist μ a (b + 20) ∧ ∀ μ', Kp [a] μ μ' → Mist μ' a b → Φ (.bl true) μ'
theorem b__law_lots_right {P : Program} {w : World} {K : PySem.W.Frag} {mg : Str → Option Value} {base : Heap} (T : Txt w K mg) : ∀ fd, FunD K "_law_lots_right" "_law_lots_right" (defArgs s__law_lots_right) (defBody s__law_lots_right) (defScope s__law_lots_right) [] [] (He.ga K "_law_lots_right") fd → FnG P w K mg base CX0 4 (He.ga K "_law_lots_right") fd ["_law_cloud_here"] (lift K [] (sp__law_lots_right)) := by
  intro fd F
  refine fun_okD (N := N__law_lots_right) F sc__law_lots_right (fun ds μ ev Φ h => ?size) (fun cdv A outer s H E hG hr => ⟨_, (vss_cons (vs_set (i := 1) sc__law_lots_right.nd rfl (Or.inl rfl) (ve_call T.g__law_drop (c__law_drop_2 T) hG hr (by decide) pass0 sel_0 rfl (va_cons (vv 0) (va_cons ve_int va_nil)) vk_nil))
 (vss_cons (vs_setLcZ (i := 2) (own := [("_law_each", 8)]) (p := (.name 8)) rfl sc__law_lots_right.nd rfl rfl (sw_true rfl rfl rfl (by decide +kernel)) (vi_range1 (by rfl) T.b_range (va_cons (vv 1) va_nil)) (blkOk_by (N := N__law_lots_right) (sc := defScope s__law_lots_right) (by decide +kernel)) (fun _ _ _ _ _ => pg_name (i := 8) sc__law_lots_right.nd rfl (Or.inl rfl)) (fun _ _ _ _ _ => (vts_one (vt_cmp (op_eqA hr.units) s_eq (ve_call T.g__law_drop (c__law_drop_2 T) hG hr (by decide) pass0 sel_0 rfl (va_cons (vv 0) (va_cons ve_int va_nil)) vk_nil) ve_int (nomark _)))) (fun _ _ _ _ _ => (vv 8)) (by decide))
 (vss_cons (vs_set (i := 3) sc__law_lots_right.nd rfl (Or.inl rfl) (ve_lst (va_cons (ve_callTy call_list_of s_list (by rfl) T.b_list (by decide +kernel) (va_cons (vv 2) va_nil)) (va_cons (ve_revL (vv 2)) (va_cons (ve_op op_addA s_addA (vv 2) (ve_slice sl_list s_slL (vv 2) (vo_some (ve_un un_neg s_neg ve_int)) vo_none)) (va_cons (ve_op op_addA s_addA (vv 2) (ve_lst (va_cons (vv 1) va_nil))) (va_cons (ve_op op_addA s_addA (ve_lst (va_cons (ve_un un_neg s_neg ve_int) va_nil)) (vv 2)) (va_cons (ve_op op_addA s_addA (vv 2) (ve_lst (va_cons ve_non va_nil))) (va_cons (ve_op op_addA s_addA (ve_lst (va_cons ve_bl va_nil)) (vv 2)) (va_cons (ve_z (ve_listRg rfl (by rfl) T.b_list (by rfl) T.b_range (vv 1))) (va_cons (ve_lst va_nil) va_nil)))))))))))
 (vss_cons (vs_if (vt_cmp (op_neA hr.units) s_ne (vv 2) (ve_lst va_nil) (nomark _))
 (vss_cons (vs_set (i := 4) sc__law_lots_right.nd rfl (Or.inl rfl) (ve_call T.g__law_drop (c__law_drop_2 T) hG hr (by decide) pass0 sel_0 rfl (va_cons (vv 0) (va_cons (ve_callB call_lenA s_len (by rfl) T.b_len (by decide +kernel) (va_cons (vv 2) va_nil)) va_nil)) vk_nil))
 (vss_one (vs_set (i := 3) sc__law_lots_right.nd rfl (Or.inl rfl) (ve_op op_addA s_addA (vv 3) (ve_lst (va_cons (ve_op op_addA s_addA (ve_op op_addA s_addA (ve_slice sl_list s_slL (vv 2) vo_none (vo_some (vv 4))) (ve_lst (va_cons (ve_ix ix_seq s_ix (vv 2) (vv 4)) (va_cons (ve_ix ix_seq s_ix (vv 2) (vv 4)) va_nil)))) (ve_slice sl_list s_slL (vv 2) (vo_some (ve_op op_addA s_addA (vv 4) ve_int)) vo_none)) (va_cons (ve_op op_addA s_addA (ve_op op_addA s_addA (ve_slice sl_list s_slL (vv 2) vo_none (vo_some (vv 4))) (ve_lst (va_cons (ve_op op_addA s_addA (ve_ix ix_seq s_ix (vv 2) (vv 4)) ve_int) va_nil))) (ve_slice sl_list s_slL (vv 2) (vo_some (ve_op op_addA s_addA (vv 4) ve_int)) vo_none)) (va_cons (ve_op op_addA s_addA (ve_op op_addA s_addA (ve_slice sl_list s_slL (vv 2) vo_none (vo_some (vv 4))) (ve_lst (va_cons (ve_callTy call_str_int s_strI (by rfl) T.b_str (by decide +kernel) (va_cons (ve_ix ix_seq s_ix (vv 2) (vv 4)) va_nil)) va_nil))) (ve_slice sl_list s_slL (vv 2) (vo_some (ve_op op_addA s_addA (vv 4) ve_int)) vo_none)) va_nil))))))))
 vss_nil)
 (vss_cons (vs_for (passes_of rfl) rfl (vi_list (vv 3)) (vg_name (i := 5) sc__law_lots_right.nd rfl (Or.inr rfl))
 (vss_cons (vs_set (i := 6) sc__law_lots_right.nd rfl (Or.inl rfl) (ve_cmp (op_eqA hr.units) s_eq (ve_z (ve_lc (own := [("_law_each", 8)]) (p := (.name 8)) rfl sc__law_lots_right.nd (vi_list (vv 5)) (blkOk_by (N := N__law_lots_right) (sc := defScope s__law_lots_right) (by decide +kernel)) (fun _ _ _ _ _ => pg_name (i := 8) sc__law_lots_right.nd rfl (Or.inl rfl)) (fun _ _ _ _ _ => (vts_one (vt_not (vt_val (ve_call T.g__law_is_integer (c__law_is_integer_1 T) hG hr (by decide) pass0 sel_0 rfl (va_cons (vv 8) va_nil) vk_nil))))) (fun _ _ _ _ _ => (vv 8)) (by decide))) (ve_lst va_nil) (nomark _)))
 (vss_cons (vs_set (i := 6) sc__law_lots_right.nd rfl (Or.inl rfl) (ve_and (vv 6) (ve_one (ve_cmp (op_eqA hr.units) s_eq (vv 5) (ve_z (ve_lc (own := [("_law_each", 8)]) (p := (.name 8)) rfl sc__law_lots_right.nd (vi_range1 (by rfl) T.b_range (va_cons (vv 1) va_nil)) (blkOk_by (N := N__law_lots_right) (sc := defScope s__law_lots_right) (by decide +kernel)) (fun _ _ _ _ _ => pg_name (i := 8) sc__law_lots_right.nd rfl (Or.inl rfl)) (fun _ _ _ _ _ => (vts_one (vt_cmp op_in_seq s_in (vv 8) (vv 5) (by rfl)))) (fun _ _ _ _ _ => (vv 8)) (by decide))) (nomark _)))))
 (vss_one (vs_if (vt_cmp (op_neA hr.units) s_ne (ve_callB (call_showA hG hr.units) s_repr (by rfl) T.b_repr (by decide +kernel) (va_cons (ve_lst (va_cons (ve_call T.g_is_lot (c_is_lot_2 T) hG hr (by decide) pass0 sel_0 rfl (va_cons (vv 5) (va_cons (vv 1) va_nil)) vk_nil) (va_cons (ve_callN0 T.g_is_lot (c_is_lot_0_many_value T) hG hr (by decide) pass0 sel_0 rfl (vk_cons (vv 1) (vk_cons (ve_callTy call_tuple_of s_tuple (by rfl) T.b_tuple (by decide +kernel) (va_cons (vv 5) va_nil)) vk_nil))) va_nil))) va_nil)) (ve_callB (call_showA hG hr.units) s_repr (by rfl) T.b_repr (by decide +kernel) (va_cons (ve_lst (va_cons (vv 6) (va_cons (vv 6) va_nil))) va_nil)) (nomark _))
 (vss_one (vs_ret ve_bl))
 vss_nil)))))
 (vss_cons (vs_set (i := 7) sc__law_lots_right.nd rfl (Or.inl rfl) (ve_call T.g__law_one_of (c__law_one_of_2 T) hG hr (by decide) pass0 sel_0 rfl (va_cons (vv 0) (va_cons (ve_lst (va_cons ve_non (va_cons ve_int (va_cons ve_str (va_cons ve_str (va_cons ve_dic0 (va_cons (ve_z (ve_dispK ve_int ve_bl)) (va_cons ve_bl va_nil)))))))) va_nil)) vk_nil))
 (vss_one (vs_ret (ve_and (ve_cmp op_isBl s_isB (ve_call T.g_is_lot (c_is_lot_2 T) hG hr (by decide) pass0 sel_0 rfl (va_cons (vv 7) (va_cons (vv 1) va_nil)) vk_nil) ve_bl (nomark _)) (ve_one (ve_cmp op_isBl s_isB (ve_call T.g_is_lot (c_is_lot_2 T) hG hr (by decide) pass0 sel_0 rfl (va_cons (ve_lst va_nil) (va_cons ve_int va_nil)) vk_nil) ve_bl (nomark _)))))))))))), fun ds μ ev Φ h => ?_⟩)
  · obtain ⟨a, b, rfl, _⟩ := h; rfl
  · obtain ⟨a, b, rfl, hm, k⟩ := h
    refine cut2 fun N1 hN1 => ?_
    walk_at "wr"
    refine ⟨a, 9, b + 19, rfl, by decide, by decide, hm, fun v μ1 v0 v1 k1 m1 => hN1 _ _ ?_⟩
    clear hN1 N1
    obtain ⟨n, rfl⟩ : ∃ n : Nat, v = n := ⟨v.toNat, by omega⟩
    have n8 : n ≤ 8 := by omega
    refine cut2 fun N1 hN1 => ?_
    walk_at "wr"
    refine ⟨by omega, by omega, fun Ds nD => ?_⟩
    rw [Int.toNat_natCast]
    refine lc_kept (B := b + 11) (m1.mono (by omega)) (by omega) nD fun ks μ2 lk hk k2 m2 hDs => ?_
    have aD := m1.ne nD
    refine ⟨Ds, rfl, .lst (ks.map fun j : Nat => .int (j : Int)), frzOf_lst hDs, hN1 _ _ ?_⟩
    clear hN1 N1
    have k3 : Kp [a] μ (μ2.del Ds) := (k1.trans Nw.refl k2).delN (k1.free nD (by simpa using Ne.symm aD))
    have m3 : Mist (μ2.del Ds) a (b + 11) := (m2.mono (by omega)).keep (F := [Ds]) (Kp.del (.head _)) (by simpa using aD)
    generalize μ2.del Ds = μ3 at k3 m3 ⊢
    have rks : ∀ d ∈ (ks.map fun j : Nat => D.int (j : Int)), RowE d := fun d hd => by
      obtain ⟨j, _, rfl⟩ := List.mem_map.mp hd
      exact .int _
    have lks : (ks.map fun j : Nat => D.int (j : Int)).length ≤ 8 := by rw [List.length_map]; omega
    refine cut2 fun N1 hN1 => ?_
    walk_at "wr"
    obtain ⟨L, hL⟩ : ∃ L, L = ks.map fun j : Nat => D.int (j : Int) := ⟨_, rfl⟩
    rw [← hL] at rks lks ⊢
    have iL : ∀ (j : Nat) (h : j < L.length), ∃ i : Nat, L[j] = .int (i : Int) ∧ i < 9 := fun j h => by
      subst hL
      rw [List.getElem_map]
      exact ⟨_, rfl, Nat.lt_trans (hk _ (List.getElem_mem _)) (by omega)⟩
    clear hL
    refine ⟨_, _, rfl, rfl, L, .inl rfl, L, .inl rfl, ?_⟩
    have app : ∀ {xs ys : List D} {μ3 : Mu} {Ψ : WK}, xs.length + ys.length ≤ 100 → Ψ (.lst (xs ++ ys)) μ3 → vAddA (.lst xs) (.lst ys) μ3 Ψ := fun h q => by
      rw [vAddA_ll]
      exact ⟨sizeOk (by omega), q⟩
    have lc := len_cut (ds := L) (lo := some (-1)) (hi := none)
    refine app (by omega) ⟨sizeOk (by decide), app (by simp; omega) ⟨sizeOk (by decide), app (by simp; omega) ⟨sizeOk (by decide), app (by simp; omega) ⟨sizeOk (by decide), app (by simp; omega) ?_⟩⟩⟩⟩
    refine ⟨⟨by decide, by decide, by omega, by omega⟩, fun p hp => ⟨_, frzOf_lst Mu.same, sizeOk (by decide), sizeOk (by decide), ?_⟩⟩
    rw [Mu.del_set hp, Int.toNat_natCast]
    have mx : ∀ {xs ys : List D}, (∀ d ∈ xs, RowE d) → (∀ d ∈ ys, RowE d) → ∀ d ∈ xs ++ ys, RowE d := fun h1 h2 d hd => (List.mem_append.mp hd).elim (h1 d) (h2 d)
    have one : ∀ {e : D}, RowE e → ∀ d ∈ [e], RowE d := fun h d hd => by rw [List.mem_singleton.mp hd]; exact h
    have hRs : ∀ Rs : List D, Rs = [.lst L, .lst L.reverse, .lst (L ++ cutD L (some (-1)) none), .lst (L ++ [.int (n : Int)]), .lst ([.int (-1)] ++ L), .lst (L ++ [.non]), .lst ([.bl true] ++ L), .lst ((List.range n).map fun k : Nat => .int (k : Int)), .lst []] → ∀ r ∈ Rs, RowOk r := fun Rs e r hr => by
      subst e
      simp only [List.mem_cons, List.not_mem_nil, or_false] at hr
      rcases hr with rfl | rfl | rfl | rfl | rfl | rfl | rfl | rfl | rfl
      · exact ⟨_, rfl, by omega, rks⟩
      · exact ⟨_, rfl, by rw [List.length_reverse]; omega, fun d hd => rks d (List.mem_reverse.mp hd)⟩
      · exact ⟨_, rfl, by rw [List.length_append]; omega, mx rks fun d hd => rks d (mem_cut hd)⟩
      · exact ⟨_, rfl, by simp; omega, mx rks (one (.int _))⟩
      · exact ⟨_, rfl, by simp; omega, mx (one (.int _)) rks⟩
      · exact ⟨_, rfl, by simp; omega, mx rks (one .non)⟩
      · exact ⟨_, rfl, by simp; omega, mx (one (.bl _)) rks⟩
      · exact ⟨_, rfl, by simp; omega, fun d hd => by obtain ⟨j, _, rfl⟩ := List.mem_map.mp hd; exact .int _⟩
      · exact ⟨_, rfl, by simp, by simp⟩
    have hRs := hRs _ rfl
    refine hN1 _ _ ?_
    clear hN1 N1
    refine cut2 fun N1 hN1 => ?_
    have key : ∀ (Rs : List D) (x4 : Option D) (μ5 : Mu), (∀ r ∈ Rs, RowOk r) → Rs.length ≤ 20 → Kp [a] μ μ5 → Mist μ5 a (b + 2) → N1 [some (.ref a), some (.int (n : Int)), some (.lst L), some (.lst Rs), x4, none, none, none, none] μ5 := fun Rs x4 μ5 hr hl k5 m5 => hN1 _ _ (by
      clear hN1 N1 hRs
      refine cut2 fun N1 hN1 => ?_
      refine ⟨_, rfl, Rs, rfl, ?_⟩
      refine forW_inv (fun i ρ μ6 => (∃ o5 o6 o8, ρ = [some (.ref a), some (.int (n : Int)), some (.lst L), some (.lst Rs), x4, o5, o6, none, o8]) ∧ μ6 = μ5) ?_ ?_ ⟨⟨none, none, none, rfl⟩, rfl⟩
      · rintro i d hd N ρ μ6 hN ⟨⟨o5, o6, o8, rfl⟩, rfl⟩
        obtain ⟨ds, rfl, hl2, hds⟩ := hr d (List.mem_of_getElem? hd)
        refine ⟨trivial, ?_⟩
        refine cut2 fun N2 hN2 => ?_
        walk_at "wr"
        refine lcf (f := fun d => !isI d) (g := fun d => d) (sizeOk (by omega)) (fun _ _ _ => trivial) (fun d hd => ⟨_, rfl, fun Ds l nD => ⟨fun Ψ q => ?_, fun _ Ψ q => ?_⟩⟩) fun Ds nD => ?_
        · walk_at "wr"
          refine ⟨d, rfl, (hds d hd).kd _, ?_⟩
          rw [isTy_int]
          walk_at "wr"
          exact q
        · walk_at "wr"
          exact q
        refine ⟨Ds, rfl, _, frzOf_lst Mu.same, sizeOk (by decide), ?_⟩
        rw [Mu.del_set nD, List.map_id']
        refine vEq_row (fun d hd => hds d (List.mem_filter.mp hd).1) (hN2 _ _ ?_)
        clear hN2 N2
        rw [if_neg Bool.false_ne_true, empty_all]
        refine cut2 fun N3 hN3 => ?_
        have fin : ∀ (due : Bool) (o : Option D), due = (ds.all isI && lotL (n : Int) 0 ds) → N3 [some (.ref a), some (.int (n : Int)), some (.lst L), some (.lst Rs), x4, some (.lst ds), some (.bl due), none, o] μ6 := fun due o e => hN3 _ _ (by
          clear hN3 N3
          walk_at "wr"
          have kd : ∀ d ∈ ds, Kd μ6 d := fun d hd => (hds d hd).kd _
          have e1 : lotB μ6 (.lst ds) (n : Int) = due := by rw [e]; rfl
          have e2 : lotB μ6 (.tup ds) (n : Int) = due := by rw [e]; rfl
          refine ⟨_, _, rfl, shv_lst (by omega) kd, _, _, rfl, shv_tup (by omega) kd, sizeOk (by decide), ?_⟩
          rw [e1, e2]
          refine repr_bls [due, due] (by simp) ⟨sizeOk (by decide), repr_bls [due, due] (by simp) ?_⟩
          rw [vEq_ss]
          refine ⟨_, rfl, ?_⟩
          rw [if_neg (by simp)]
          exact hN _ _ ⟨⟨_, _, _, rfl⟩, rfl⟩)
        clear hN3
        cases ha : ds.all isI with
        | false =>
          walk_at "wr"
          exact fin false _ (by rw [ha]; rfl)
        | true =>
          obtain ⟨ms, rfl⟩ := ints_of_all ha
          walk_at "wr"
          refine ⟨by omega, by omega, ?_⟩
          rw [Int.toNat_natCast]
          have fl : (ms.map D.int).all flatD = true := by
            rw [List.all_eq_true]
            intro d hd
            obtain ⟨m, _, rfl⟩ := List.mem_map.mp hd
            rfl
          refine lcf (f := fun d => inD d (ms.map .int)) (g := fun d => d) (by rw [List.length_map, List.length_range]; exact sizeOk (by omega)) (fun _ _ _ => trivial) (fun d hd => ⟨_, rfl, fun Ds l nD => ⟨fun Ψ q => ?_, fun _ Ψ q => ?_⟩⟩) fun Ds nD => ?_
          · obtain ⟨k, _, rfl⟩ := List.mem_map.mp hd
            walk_at "wr"
            exact ⟨_, rfl, rfl, fl, _, rfl, q⟩
          · walk_at "wr"
            exact q
          refine ⟨Ds, rfl, _, frzOf_lst Mu.same, ?_⟩
          rw [Mu.del_set nD, List.map_id', filter_ints, vEq_iff (eqD_il _ _)]
          exact fin _ _ (by rw [ha, lot_due]; rfl)
      · rintro ρ μ6 ⟨⟨o5, o6, o8, rfl⟩, rfl⟩
        refine ⟨trivial, hN1 _ _ ?_⟩
        clear hN1 N1
        walk_at "wr"
        intro p hp
        refine ⟨.inl 0, rfl, Mu.same, .dic [.inl 0] [.bl true], by unfold frzOf; rw [Mu.same], sizeOk (by decide), ?_⟩
        rw [Mu.set_set, Mu.del_set hp]
        refine ⟨a, _, b + 1, rfl, by simp, by simp, m5, fun o μ7 ho k7 m7 => ?_⟩
        have fo : ShV μ7 o ∧ lotB μ7 o (n : Int) = false := by
          simp only [List.mem_cons, List.not_mem_nil, or_false] at ho
          rcases ho with rfl | rfl | rfl | rfl | rfl | rfl | rfl <;> exact ⟨shv_flat ⟨_, rfl⟩ rfl, rfl⟩
        refine ⟨o, (n : Int), rfl, fo.1, ?_⟩
        rw [fo.2]
        refine ⟨_, _, rfl, rfl, ?_⟩
        walk_at "wr"
        refine ⟨sizeOk (by decide), .lst [], 0, rfl, shv_lst (by simp) (by simp), _, _, rfl, rfl, ?_⟩
        exact k μ7 (k5.trans Nw.refl k7) (m7.mono (by omega)))
    clear hN1
    walk_at "wr"
    refine ⟨sizeOk (by decide), vEq_row rks ⟨_, rfl, ?_⟩⟩
    refine ite_sp (fun hne => ?_) (fun _ => key _ none μ3 hRs (by simp) k3 (m3.mono (by omega)))
    have l0 : 0 < L.length := by
      cases L with
      | nil => cases hne
      | cons _ _ => simp
    refine ⟨a, _, b + 10, rfl, by omega, by omega, m3, fun j μ4 j0 j1 k4 m4 => ?_⟩
    obtain ⟨j, rfl⟩ : ∃ i : Nat, j = i := ⟨j.toNat, by omega⟩
    have hj : j < L.length := by omega
    obtain ⟨i, hi, i9⟩ := iL j hj
    have hat : atI L (j : Int) = some (.int (i : Int)) := by rw [← hi]; exact atI_nat (by simp [hj])
    walk_at "wr"
    refine ⟨L, .inl rfl, _, hat, _, hat, sizeOk (by decide), ?_⟩
    have c1 := fun lo hi => len_cut (ds := L) (lo := lo) (hi := hi)
    refine app (by have := c1 none (some (j : Int)); simp; omega) ?_
    try walk_at "wr"
    refine ⟨L, .inl rfl, ?_⟩
    refine app (by have := c1 none (some (j : Int)); have := c1 (some ((j : Int) + 1)) none; simp; omega) ?_
    try walk_at "wr"
    refine ⟨L, .inl rfl, _, hat, ?_⟩
    try walk_at "wr"
    have a1 := c1 none (some (j : Int))
    have a2 := c1 (some ((j : Int) + 1)) none
    refine ⟨sizeOk (by decide), app (by simp; omega) ?_⟩
    refine ⟨L, .inl rfl, app (by simp; omega) ?_⟩
    refine ⟨L, .inl rfl, _, hat, (i : Int), rfl, Nat.lt_trans (log2_lt (k := 200) (by omega) (by decide)) (by decide), sizeOk (by decide), app (by simp; omega) ?_⟩
    refine ⟨L, .inl rfl, app (by simp; omega) ⟨sizeOk (by decide), app (by simp) ?_⟩⟩
    refine key _ (some (.int (j : Int))) μ4 (fun r hr => ?_) (by simp) (k3.trans Nw.refl k4) (m4.mono (by omega))
    have cm : ∀ {lo hi : Option Int}, ∀ d ∈ cutD L lo hi, RowE d := fun d hd => rks d (mem_cut hd)
    rcases List.mem_append.mp hr with h | h
    · exact hRs r h
    · simp only [List.mem_cons, List.not_mem_nil, or_false] at h
      rcases h with rfl | rfl | rfl
      · exact ⟨_, rfl, by simp; omega, mx (mx cm (fun d hd => by simp at hd; rw [hd]; exact .int _)) cm⟩
      · exact ⟨_, rfl, by simp; omega, mx (mx cm (one (.int _))) cm⟩
      · exact ⟨_, rfl, by simp; omega, mx (mx cm (one (.num i9))) cm⟩
theorem c__law_lots_right_1 {P : Program} {w : World} {K : PySem.W.Frag} {mg : Str → Option Value} {base : Heap} (T : Txt w K mg) : CanV P w K mg base CX0 [] 4 (He.ga K "_law_lots_right") 1 [] ([.inl 0].map (toArg [] [])) (sp__law_lots_right) :=
  canV_of (ps := ["_law_cloud_here"]) [.inl 0] T.f__law_lots_right (b__law_lots_right T) (fun _ _ _ _ _ _ us ws h1 h2 => match us, ws, h1, h2 with | [_], [], _, _ => rfl) (by decide)
end K00

set_option maxRecDepth 100000
set_option maxHeartbeats 4000000
namespace K00
open PySem L2 FW VL
local macro_rules | `(tactic| walk_at "wr") => `(tactic| simp only [vInt_bl, iwR1, iwR2, iwM, List.set_cons_succ, wLenSet, wFor, wSetF, wAugF, wAug, wBM, wProp, wHeld, wVar, wC, wZ, wOp, wUn, wNil, wCons, wStar, wCB, wTup, wLst, wLstM, wTest, wAnd, wOr, VL.wNot, wAndV, wOrV, wNotV, wIf, wChain, wNoPart, wPart, wSl, wName, wGNil, wGCons, wGTup, wSub, wNext, VL.wSeq, wAsg, wDrop, wRet, wRetN, wIfS, wBreak, wCont, wPar, vI0, vI, vU, vAdd, vSub, vMul, vMod, vFdiv, vPow, vLt, vLe, vGt, vGe, vNeg, vIsN, vNotN, vAddA_ii, vMulA_ii, VL.wTru, iwL, iwT, wLc, vstart, List.map_cons, List.map_nil, List.cons_append, List.nil_append, List.set_cons_zero, List.set_cons_succ, List.getElem?_cons_zero, List.getElem?_cons_succ, Option.some.injEq, exists_eq_left, exists_eq_left', exists_eq', D.bl.injEq, D.int.injEq, D.str.injEq, D.tup.injEq, D.ref.injEq, List.cons.injEq, and_true, true_and, List.length_cons, List.length_nil, List.replicate, D.ty.injEq, exists_and_left, List.length, Nat.reduceAdd, wCall, wMake, wMeth, wFld, argsD, argD, toArg, List.getD_cons_zero, List.getD_cons_succ, List.map, iwS, vTupOf, Bool.false_eq_true, if_false, if_true, reduceIte, List.getElem?_nil, Nat.reduceSub, wipeR, vLen_lst, vLen_tup, vEq_ii, vEq_ss, vEq_bb, vIx_lst, vIx_tup, vIn_strs, vIn_s2, vIn_s3, vAll_map, vInK_s, vIxK_s, vInt_i, vAbs_i, atI_0, atI_1, atI_2, Bool.not_true, Bool.not_false, seqOf_lst, seqOf_tup, lstOf_lst, tupOf_tup, fzL_lst, wForget, fgt, wLc2, wDc, iwZB, vRepS, vSlT, vSlA, wCKw, vStrQ, iwSg, wDGet2, iwZS, wMkX, wMkXK, wMkX2, wXt, wErr, wDic0, wDispK, wRevL, wListRg, N_is_list, N_is_integer, N_is_within, N_are_integers, N_is_lot, N_is_short, N_are_shorts, N__law_cloud, N__law_drop, N__law_one_of, N__law_any, N__law_kin, N__law_stands, N__law_errors_right, N__law_is_integer, N__law_numbers_right, N__law_rows_right, N__law_lots_right, N_law, ofStr_inj, ofStr_beq, String.reduceEq, decide_true, decide_false, Bool.or_false, Bool.or_true, Bool.false_or, Bool.true_or, Bool.and_true, Bool.and_false, Bool.true_and, Bool.false_and, vModN, iwE, iwEM])
/-! ### the law -/
def sp_law : VSp := fun ds μ ev Φ => ∃ ns : List Int, ds = [.sq (ns.map .int)] ∧ ∀ μ', Φ (.bl true) μ'
theorem b_law {P : Program} {w : World} {K : PySem.W.Frag} {mg : Str → Option Value} {base : Heap} (T : Txt w K mg) : ∀ fd, FunD K "law" "law" (defArgs s_law) (defBody s_law) (defScope s_law) [] [] (He.ga K "law") fd → FnG P w K mg base CX0 6 (He.ga K "law") fd ["_law_script"] (lift K [] (sp_law)) := by
  intro fd F
  refine fun_okD (N := N_law) F sc_law (fun ds μ ev Φ h => ?size) (fun cdv A outer s H E hG hr => ⟨_, (vss_cons (vs_set (i := 1) sc_law.nd rfl (Or.inl rfl) (ve_call T.g__law_cloud (c__law_cloud_1 T) hG hr (by decide) pass0 sel_0 rfl (va_cons (vv 0) va_nil) vk_nil))
 (vss_cons (vs_for (passes_of rfl) rfl (vi_range1 (by rfl) T.b_range (va_cons ve_int va_nil)) (vg_name (i := 2) sc_law.nd rfl (Or.inl rfl))
 (vss_one (vs_if (vt_not (vt_val (ve_call T.g__law_errors_right (c__law_errors_right_2 T) hG hr (by decide) pass0 sel_0 rfl (va_cons (ve_call T.g__law_any (c__law_any_1 T) hG hr (by decide) pass0 sel_0 rfl (va_cons (vv 1) va_nil) vk_nil) (va_cons (ve_call T.g__law_any (c__law_any_1 T) hG hr (by decide) pass0 sel_0 rfl (va_cons (vv 1) va_nil) vk_nil) va_nil)) vk_nil)))
 (vss_one (vs_ret ve_bl))
 vss_nil)))
 (vss_cons (vs_for (passes_of rfl) rfl (vi_range1 (by rfl) T.b_range (va_cons ve_int va_nil)) (vg_name (i := 2) sc_law.nd rfl (Or.inl rfl))
 (vss_one (vs_if (PW.pt (vw_or (vt_not (vt_val (ve_call T.g__law_numbers_right (c__law_numbers_right_1 T) hG hr (by decide) pass0 sel_0 rfl (va_cons (vv 1) va_nil) vk_nil))) (vw_or (vt_not (vt_val (ve_call T.g__law_rows_right (c__law_rows_right_1 T) hG hr (by decide) pass0 sel_0 rfl (va_cons (vv 1) va_nil) vk_nil))) (vw_or1 (vt_not (vt_val (ve_call T.g__law_lots_right (c__law_lots_right_1 T) hG hr (by decide) pass0 sel_0 rfl (va_cons (vv 1) va_nil) vk_nil)))))))
 (vss_one (vs_ret ve_bl))
 vss_nil)))
 (vss_one (vs_ret ve_bl))))), fun ds μ ev Φ h => ?_⟩)
  · obtain ⟨ns, rfl, _⟩ := h; rfl
  · obtain ⟨ns, rfl, q⟩ := h
    refine cut2 fun N1 hN1 => ?_
    walk_at "wr"
    refine ⟨ns, rfl, fun a cs np => hN1 _ _ ?_⟩
    clear hN1 N1
    have m0 : Mist (μ.set a (mistO cs 0 0)) a 1000 := ⟨cs, 0, 0, Mu.same, by decide⟩
    generalize μ.set a (mistO cs 0 0) = μ1 at m0 ⊢
    refine cut2 fun N1 hN1 => ?_
    walk_at "wr"
    refine ⟨by decide, by decide, ?_⟩
    refine forW_inv (fun i ρ μ' => (∃ o, ρ = [some (.sq (ns.map .int)), some (.ref a), o]) ∧ Mist μ' a (500 + 10 * (2 - i))) ?_ ?_ ⟨⟨_, rfl⟩, m0.mono (by decide)⟩
    · rintro i d hd N ρ μ' hN ⟨⟨o, rfl⟩, hm⟩
      obtain ⟨hi, rfl⟩ := range_get hd
      have hi2 : i < 2 := hi
      refine ⟨trivial, ?_⟩
      walk_at "wr"
      refine ⟨a, 500 + 10 * (2 - (i + 1)) + 2, rfl, hm.mono (by omega), fun x μ2 hx k2 m2 => ?_⟩
      refine ⟨a, 500 + 10 * (2 - (i + 1)), rfl, m2, fun y μ3 hy k3 m3 => ?_⟩
      refine ⟨x, y, rfl, hx, hy, fun μ4 k4 => ?_⟩
      walk_at "wr"
      exact hN _ _ ⟨⟨_, rfl⟩, m3.keep k4 (by simp)⟩
    · rintro ρ μ' ⟨⟨o, rfl⟩, hm⟩
      refine ⟨trivial, hN1 _ _ ?_⟩
      clear hN1 N1
      walk_at "wr"
      refine ⟨by decide, by decide, ?_⟩
      refine forW_inv (fun i ρ μ' => (∃ o, ρ = [some (.sq (ns.map .int)), some (.ref a), o]) ∧ Mist μ' a (50 + 50 * (3 - i))) ?_ ?_ ⟨⟨_, rfl⟩, hm.mono (by simp)⟩
      · rintro i d hd N ρ μ' hN ⟨⟨o, rfl⟩, hm⟩
        obtain ⟨hi, rfl⟩ := range_get hd
        have hi2 : i < 3 := hi
        refine ⟨trivial, ?_⟩
        walk_at "wr"
        refine ⟨a, 50 + 50 * (3 - (i + 1)) + 44, rfl, hm.mono (by omega), fun μ2 k2 m2 => ?_⟩
        walk_at "wr"
        refine ⟨a, 50 + 50 * (3 - (i + 1)) + 24, rfl, m2, fun μ3 k3 m3 => ?_⟩
        walk_at "wr"
        refine ⟨a, 50 + 50 * (3 - (i + 1)), rfl, m3.mono (by omega), fun μ4 k4 m4 => ?_⟩
        walk_at "wr"
        exact hN _ _ ⟨⟨_, rfl⟩, m4⟩
      · rintro ρ μ' ⟨⟨o, rfl⟩, hm⟩
        refine ⟨trivial, ?_⟩
        walk_at "wr"
        exact q _

end K00

set_option maxRecDepth 100000
set_option maxHeartbeats 0
namespace K00
open PySem L2 FW VL PyProof.Rows
theorem ok_init_BadNumber {P : Program} {w : World} {K : PySem.W.Frag} {mg : Str → Option Value} {base : Heap} (d : He.SaysD fa fn K) : ∃ (fd : FuncData) (ps : List Str), FnOk P w K mg base CX0 1 (He.ma K (He.ga K "BadNumber") "__init__") fd ps (spInit1 K (He.ga K "BadNumber") "part") ∧ Binds K fd ps [] ∧ KBn K fd ps 1 ["part"] (fun us ws => us ++ ws) (fun vs zs => vs ++ zs) := by
  obtain ⟨fd, F⟩ := d.def_ 19 (d := dIn "BadNumber" "__init__" s_BadNumber_init) rfl
  have F2 : Fun K "__init__" _ s_BadNumber_init _ fd := fun_of (st := s_BadNumber_init) F
  refine ⟨fd, [("self" : Str), "part"], init1_ok (p := "part") F2 sc_BadNumber_init (fun X hN hS => pss_one (ps_ost (pv 0 (by rw [hN]; rfl) (by rw [hS]; exact .inl (by decide +kernel))) (pv 1 (by rw [hN]; rfl) (by rw [hS]; exact .inl (by decide +kernel))))), F2.binds fun _ _ _ _ _ _ us hl => match us, hl with | [_, _], _ => rfl, ?_⟩
  obtain ⟨oc, od, kV, doc, pm, an, cdv, ct, osl, rfl, lk, hcd⟩ := F2.ex
  refine ⟨fun s us ws _ l1 l2 => ?_, fun r z => r.append z⟩
  match us, ws, l1, l2 with
  | [a], [b], _, _ => exact .of_eq rfl
theorem ok_init_BadNet {P : Program} {w : World} {K : PySem.W.Frag} {mg : Str → Option Value} {base : Heap} (d : He.SaysD fa fn K) : ∃ (fd : FuncData) (ps : List Str), FnOk P w K mg base CX0 1 (He.ma K (He.ga K "BadNet") "__init__") fd ps (spInit1 K (He.ga K "BadNet") "part") ∧ Binds K fd ps [] ∧ KBn K fd ps 1 ["part"] (fun us ws => us ++ ws) (fun vs zs => vs ++ zs) := by
  obtain ⟨fd, F⟩ := d.def_ 20 (d := dIn "BadNet" "__init__" s_BadNet_init) rfl
  have F2 : Fun K "__init__" _ s_BadNet_init _ fd := fun_of (st := s_BadNet_init) F
  refine ⟨fd, [("self" : Str), "part"], init1_ok (p := "part") F2 sc_BadNet_init (fun X hN hS => pss_one (ps_ost (pv 0 (by rw [hN]; rfl) (by rw [hS]; exact .inl (by decide +kernel))) (pv 1 (by rw [hN]; rfl) (by rw [hS]; exact .inl (by decide +kernel))))), F2.binds fun _ _ _ _ _ _ us hl => match us, hl with | [_, _], _ => rfl, ?_⟩
  obtain ⟨oc, od, kV, doc, pm, an, cdv, ct, osl, rfl, lk, hcd⟩ := F2.ex
  refine ⟨fun s us ws _ l1 l2 => ?_, fun r z => r.append z⟩
  match us, ws, l1, l2 with
  | [a], [b], _, _ => exact .of_eq rfl
theorem ok_init_BadProgram {P : Program} {w : World} {K : PySem.W.Frag} {mg : Str → Option Value} {base : Heap} (d : He.SaysD fa fn K) : ∃ (fd : FuncData) (ps : List Str), FnOk P w K mg base CX0 1 (He.ma K (He.ga K "BadProgram") "__init__") fd ps (spInit1 K (He.ga K "BadProgram") "part") ∧ Binds K fd ps [] ∧ KBn K fd ps 1 ["part"] (fun us ws => us ++ ws) (fun vs zs => vs ++ zs) := by
  obtain ⟨fd, F⟩ := d.def_ 21 (d := dIn "BadProgram" "__init__" s_BadProgram_init) rfl
  have F2 : Fun K "__init__" _ s_BadProgram_init _ fd := fun_of (st := s_BadProgram_init) F
  refine ⟨fd, [("self" : Str), "part"], init1_ok (p := "part") F2 sc_BadProgram_init (fun X hN hS => pss_one (ps_ost (pv 0 (by rw [hN]; rfl) (by rw [hS]; exact .inl (by decide +kernel))) (pv 1 (by rw [hN]; rfl) (by rw [hS]; exact .inl (by decide +kernel))))), F2.binds fun _ _ _ _ _ _ us hl => match us, hl with | [_, _], _ => rfl, ?_⟩
  obtain ⟨oc, od, kV, doc, pm, an, cdv, ct, osl, rfl, lk, hcd⟩ := F2.ex
  refine ⟨fun s us ws _ l1 l2 => ?_, fun r z => r.append z⟩
  match us, ws, l1, l2 with
  | [a], [b], _, _ => exact .of_eq rfl
theorem ok_init_BadCode {P : Program} {w : World} {K : PySem.W.Frag} {mg : Str → Option Value} {base : Heap} (d : He.SaysD fa fn K) : ∃ (fd : FuncData) (ps : List Str), FnOk P w K mg base CX0 1 (He.ma K (He.ga K "BadCode") "__init__") fd ps (spInit1 K (He.ga K "BadCode") "part") ∧ Binds K fd ps [] ∧ KBn K fd ps 1 ["part"] (fun us ws => us ++ ws) (fun vs zs => vs ++ zs) := by
  obtain ⟨fd, F⟩ := d.def_ 22 (d := dIn "BadCode" "__init__" s_BadCode_init) rfl
  have F2 : Fun K "__init__" _ s_BadCode_init _ fd := fun_of (st := s_BadCode_init) F
  refine ⟨fd, [("self" : Str), "part"], init1_ok (p := "part") F2 sc_BadCode_init (fun X hN hS => pss_one (ps_ost (pv 0 (by rw [hN]; rfl) (by rw [hS]; exact .inl (by decide +kernel))) (pv 1 (by rw [hN]; rfl) (by rw [hS]; exact .inl (by decide +kernel))))), F2.binds fun _ _ _ _ _ _ us hl => match us, hl with | [_, _], _ => rfl, ?_⟩
  obtain ⟨oc, od, kV, doc, pm, an, cdv, ct, osl, rfl, lk, hcd⟩ := F2.ex
  refine ⟨fun s us ws _ l1 l2 => ?_, fun r z => r.append z⟩
  match us, ws, l1, l2 with
  | [a], [b], _, _ => exact .of_eq rfl
theorem ok_init_BadStanding {P : Program} {w : World} {K : PySem.W.Frag} {mg : Str → Option Value} {base : Heap} (d : He.SaysD fa fn K) : ∃ (fd : FuncData) (ps : List Str), FnOk P w K mg base CX0 1 (He.ma K (He.ga K "BadStanding") "__init__") fd ps (spInit1 K (He.ga K "BadStanding") "part") ∧ Binds K fd ps [] ∧ KBn K fd ps 1 ["part"] (fun us ws => us ++ ws) (fun vs zs => vs ++ zs) := by
  obtain ⟨fd, F⟩ := d.def_ 23 (d := dIn "BadStanding" "__init__" s_BadStanding_init) rfl
  have F2 : Fun K "__init__" _ s_BadStanding_init _ fd := fun_of (st := s_BadStanding_init) F
  refine ⟨fd, [("self" : Str), "part"], init1_ok (p := "part") F2 sc_BadStanding_init (fun X hN hS => pss_one (ps_ost (pv 0 (by rw [hN]; rfl) (by rw [hS]; exact .inl (by decide +kernel))) (pv 1 (by rw [hN]; rfl) (by rw [hS]; exact .inl (by decide +kernel))))), F2.binds fun _ _ _ _ _ _ us hl => match us, hl with | [_, _], _ => rfl, ?_⟩
  obtain ⟨oc, od, kV, doc, pm, an, cdv, ct, osl, rfl, lk, hcd⟩ := F2.ex
  refine ⟨fun s us ws _ l1 l2 => ?_, fun r z => r.append z⟩
  match us, ws, l1, l2 with
  | [a], [b], _, _ => exact .of_eq rfl
theorem ok_init_BadWorld {P : Program} {w : World} {K : PySem.W.Frag} {mg : Str → Option Value} {base : Heap} (d : He.SaysD fa fn K) : ∃ (fd : FuncData) (ps : List Str), FnOk P w K mg base CX0 1 (He.ma K (He.ga K "BadWorld") "__init__") fd ps (spInit1 K (He.ga K "BadWorld") "part") ∧ Binds K fd ps [] ∧ KBn K fd ps 1 ["part"] (fun us ws => us ++ ws) (fun vs zs => vs ++ zs) := by
  obtain ⟨fd, F⟩ := d.def_ 24 (d := dIn "BadWorld" "__init__" s_BadWorld_init) rfl
  have F2 : Fun K "__init__" _ s_BadWorld_init _ fd := fun_of (st := s_BadWorld_init) F
  refine ⟨fd, [("self" : Str), "part"], init1_ok (p := "part") F2 sc_BadWorld_init (fun X hN hS => pss_one (ps_ost (pv 0 (by rw [hN]; rfl) (by rw [hS]; exact .inl (by decide +kernel))) (pv 1 (by rw [hN]; rfl) (by rw [hS]; exact .inl (by decide +kernel))))), F2.binds fun _ _ _ _ _ _ us hl => match us, hl with | [_, _], _ => rfl, ?_⟩
  obtain ⟨oc, od, kV, doc, pm, an, cdv, ct, osl, rfl, lk, hcd⟩ := F2.ex
  refine ⟨fun s us ws _ l1 l2 => ?_, fun r z => r.append z⟩
  match us, ws, l1, l2 with
  | [a], [b], _, _ => exact .of_eq rfl
theorem ok_init_BadEvent {P : Program} {w : World} {K : PySem.W.Frag} {mg : Str → Option Value} {base : Heap} (d : He.SaysD fa fn K) : ∃ (fd : FuncData) (ps : List Str), FnOk P w K mg base CX0 1 (He.ma K (He.ga K "BadEvent") "__init__") fd ps (spInit1 K (He.ga K "BadEvent") "part") ∧ Binds K fd ps [] ∧ KBn K fd ps 1 ["part"] (fun us ws => us ++ ws) (fun vs zs => vs ++ zs) := by
  obtain ⟨fd, F⟩ := d.def_ 25 (d := dIn "BadEvent" "__init__" s_BadEvent_init) rfl
  have F2 : Fun K "__init__" _ s_BadEvent_init _ fd := fun_of (st := s_BadEvent_init) F
  refine ⟨fd, [("self" : Str), "part"], init1_ok (p := "part") F2 sc_BadEvent_init (fun X hN hS => pss_one (ps_ost (pv 0 (by rw [hN]; rfl) (by rw [hS]; exact .inl (by decide +kernel))) (pv 1 (by rw [hN]; rfl) (by rw [hS]; exact .inl (by decide +kernel))))), F2.binds fun _ _ _ _ _ _ us hl => match us, hl with | [_, _], _ => rfl, ?_⟩
  obtain ⟨oc, od, kV, doc, pm, an, cdv, ct, osl, rfl, lk, hcd⟩ := F2.ex
  refine ⟨fun s us ws _ l1 l2 => ?_, fun r z => r.append z⟩
  match us, ws, l1, l2 with
  | [a], [b], _, _ => exact .of_eq rfl
theorem ok_init_BadPaper {P : Program} {w : World} {K : PySem.W.Frag} {mg : Str → Option Value} {base : Heap} (d : He.SaysD fa fn K) : ∃ (fd : FuncData) (ps : List Str), FnOk P w K mg base CX0 1 (He.ma K (He.ga K "BadPaper") "__init__") fd ps (spInit1 K (He.ga K "BadPaper") "part") ∧ Binds K fd ps [] ∧ KBn K fd ps 1 ["part"] (fun us ws => us ++ ws) (fun vs zs => vs ++ zs) := by
  obtain ⟨fd, F⟩ := d.def_ 26 (d := dIn "BadPaper" "__init__" s_BadPaper_init) rfl
  have F2 : Fun K "__init__" _ s_BadPaper_init _ fd := fun_of (st := s_BadPaper_init) F
  refine ⟨fd, [("self" : Str), "part"], init1_ok (p := "part") F2 sc_BadPaper_init (fun X hN hS => pss_one (ps_ost (pv 0 (by rw [hN]; rfl) (by rw [hS]; exact .inl (by decide +kernel))) (pv 1 (by rw [hN]; rfl) (by rw [hS]; exact .inl (by decide +kernel))))), F2.binds fun _ _ _ _ _ _ us hl => match us, hl with | [_, _], _ => rfl, ?_⟩
  obtain ⟨oc, od, kV, doc, pm, an, cdv, ct, osl, rfl, lk, hcd⟩ := F2.ex
  refine ⟨fun s us ws _ l1 l2 => ?_, fun r z => r.append z⟩
  match us, ws, l1, l2 with
  | [a], [b], _, _ => exact .of_eq rfl
theorem ok_init_Misfit {P : Program} {w : World} {K : PySem.W.Frag} {mg : Str → Option Value} {base : Heap} (d : He.SaysD fa fn K) : ∃ (fd : FuncData) (ps : List Str), FnOk P w K mg base CX0 1 (He.ma K (He.ga K "Misfit") "__init__") fd ps (spInit1 K (He.ga K "Misfit") "part") ∧ Binds K fd ps [] ∧ KBn K fd ps 1 ["part"] (fun us ws => us ++ ws) (fun vs zs => vs ++ zs) := by
  obtain ⟨fd, F⟩ := d.def_ 27 (d := dIn "Misfit" "__init__" s_Misfit_init) rfl
  have F2 : Fun K "__init__" _ s_Misfit_init _ fd := fun_of (st := s_Misfit_init) F
  refine ⟨fd, [("self" : Str), "part"], init1_ok (p := "part") F2 sc_Misfit_init (fun X hN hS => pss_one (ps_ost (pv 0 (by rw [hN]; rfl) (by rw [hS]; exact .inl (by decide +kernel))) (pv 1 (by rw [hN]; rfl) (by rw [hS]; exact .inl (by decide +kernel))))), F2.binds fun _ _ _ _ _ _ us hl => match us, hl with | [_, _], _ => rfl, ?_⟩
  obtain ⟨oc, od, kV, doc, pm, an, cdv, ct, osl, rfl, lk, hcd⟩ := F2.ex
  refine ⟨fun s us ws _ l1 l2 => ?_, fun r z => r.append z⟩
  match us, ws, l1, l2 with
  | [a], [b], _, _ => exact .of_eq rfl
theorem ok_init_Twice {P : Program} {w : World} {K : PySem.W.Frag} {mg : Str → Option Value} {base : Heap} (d : He.SaysD fa fn K) : ∃ (fd : FuncData) (ps : List Str), FnOk P w K mg base CX0 1 (He.ma K (He.ga K "Twice") "__init__") fd ps (spInit1 K (He.ga K "Twice") "value") ∧ Binds K fd ps [] ∧ KBn K fd ps 1 ["value"] (fun us ws => us ++ ws) (fun vs zs => vs ++ zs) := by
  obtain ⟨fd, F⟩ := d.def_ 28 (d := dIn "Twice" "__init__" s_Twice_init) rfl
  have F2 : Fun K "__init__" _ s_Twice_init _ fd := fun_of (st := s_Twice_init) F
  refine ⟨fd, [("self" : Str), "value"], init1_ok (p := "value") F2 sc_Twice_init (fun X hN hS => pss_one (ps_ost (pv 0 (by rw [hN]; rfl) (by rw [hS]; exact .inl (by decide +kernel))) (pv 1 (by rw [hN]; rfl) (by rw [hS]; exact .inl (by decide +kernel))))), F2.binds fun _ _ _ _ _ _ us hl => match us, hl with | [_, _], _ => rfl, ?_⟩
  obtain ⟨oc, od, kV, doc, pm, an, cdv, ct, osl, rfl, lk, hcd⟩ := F2.ex
  refine ⟨fun s us ws _ l1 l2 => ?_, fun r z => r.append z⟩
  match us, ws, l1, l2 with
  | [a], [b], _, _ => exact .of_eq rfl
theorem ok_init_Unknown {P : Program} {w : World} {K : PySem.W.Frag} {mg : Str → Option Value} {base : Heap} (d : He.SaysD fa fn K) : ∃ (fd : FuncData) (ps : List Str), FnOk P w K mg base CX0 1 (He.ma K (He.ga K "Unknown") "__init__") fd ps (spInit1 K (He.ga K "Unknown") "name") ∧ Binds K fd ps [] ∧ KBn K fd ps 1 ["name"] (fun us ws => us ++ ws) (fun vs zs => vs ++ zs) := by
  obtain ⟨fd, F⟩ := d.def_ 29 (d := dIn "Unknown" "__init__" s_Unknown_init) rfl
  have F2 : Fun K "__init__" _ s_Unknown_init _ fd := fun_of (st := s_Unknown_init) F
  refine ⟨fd, [("self" : Str), "name"], init1_ok (p := "name") F2 sc_Unknown_init (fun X hN hS => pss_one (ps_ost (pv 0 (by rw [hN]; rfl) (by rw [hS]; exact .inl (by decide +kernel))) (pv 1 (by rw [hN]; rfl) (by rw [hS]; exact .inl (by decide +kernel))))), F2.binds fun _ _ _ _ _ _ us hl => match us, hl with | [_, _], _ => rfl, ?_⟩
  obtain ⟨oc, od, kV, doc, pm, an, cdv, ct, osl, rfl, lk, hcd⟩ := F2.ex
  refine ⟨fun s us ws _ l1 l2 => ?_, fun r z => r.append z⟩
  match us, ws, l1, l2 with
  | [a], [b], _, _ => exact .of_eq rfl
theorem ok_init_TooMany {P : Program} {w : World} {K : PySem.W.Frag} {mg : Str → Option Value} {base : Heap} (d : He.SaysD fa fn K) : ∃ (fd : FuncData) (ps : List Str), FnOk P w K mg base CX0 1 (He.ma K (He.ga K "TooMany") "__init__") fd ps (spInit2 K (He.ga K "TooMany") "what" "most") ∧ Binds K fd ps [] ∧ KBn K fd ps 1 ["most", "what"] (fun us ws => us ++ ws.reverse) (fun vs zs => vs ++ zs.reverse) := by
  obtain ⟨fd, F⟩ := d.def_ 30 (d := dIn "TooMany" "__init__" s_TooMany_init) rfl
  have F2 : Fun K "__init__" _ s_TooMany_init _ fd := fun_of (st := s_TooMany_init) F
  refine ⟨fd, [("self" : Str), "what", "most"], init2_ok (p := "what") (q := "most") F2 sc_TooMany_init (fun X hN hS => pss_cons (ps_ost (pv 0 (by rw [hN]; rfl) (by rw [hS]; exact .inl (by decide +kernel))) (pv 1 (by rw [hN]; rfl) (by rw [hS]; exact .inl (by decide +kernel)))) (pss_one (ps_ost (pv 0 (by rw [hN]; rfl) (by rw [hS]; exact .inl (by decide +kernel))) (pv 2 (by rw [hN]; rfl) (by rw [hS]; exact .inl (by decide +kernel)))))), F2.binds fun _ _ _ _ _ _ us hl => match us, hl with | [_, _, _], _ => rfl, ?_⟩
  obtain ⟨oc, od, kV, doc, pm, an, cdv, ct, osl, rfl, lk, hcd⟩ := F2.ex
  refine ⟨fun s us ws _ l1 l2 => ?_, fun r z => r.append z.reverse⟩
  match us, ws, l1, l2 with
  | [a], [b, c], _, _ => exact .of_eq rfl
theorem ok_init_BadText {P : Program} {w : World} {K : PySem.W.Frag} {mg : Str → Option Value} {base : Heap} (d : He.SaysD fa fn K) : ∃ (fd : FuncData) (ps : List Str), FnOk P w K mg base CX0 1 (He.ma K (He.ga K "BadText") "__init__") fd ps (spInit1 K (He.ga K "BadText") "item") ∧ Binds K fd ps [] ∧ KBn K fd ps 1 ["item"] (fun us ws => us ++ ws) (fun vs zs => vs ++ zs) := by
  obtain ⟨fd, F⟩ := d.def_ 31 (d := dIn "BadText" "__init__" s_BadText_init) rfl
  have F2 : Fun K "__init__" _ s_BadText_init _ fd := fun_of (st := s_BadText_init) F
  refine ⟨fd, [("self" : Str), "item"], init1_ok (p := "item") F2 sc_BadText_init (fun X hN hS => pss_one (ps_ost (pv 0 (by rw [hN]; rfl) (by rw [hS]; exact .inl (by decide +kernel))) (pv 1 (by rw [hN]; rfl) (by rw [hS]; exact .inl (by decide +kernel))))), F2.binds fun _ _ _ _ _ _ us hl => match us, hl with | [_, _], _ => rfl, ?_⟩
  obtain ⟨oc, od, kV, doc, pm, an, cdv, ct, osl, rfl, lk, hcd⟩ := F2.ex
  refine ⟨fun s us ws _ l1 l2 => ?_, fun r z => r.append z⟩
  match us, ws, l1, l2 with
  | [a], [b], _, _ => exact .of_eq rfl
section
variable {P : Program} {w : World} {K : PySem.W.Frag} {mg : Str → Option Value} {base h : Heap}
theorem txt (X : K.In h) (G : h.Ns mainGlobals mg) (c : He.SaysX fa fn ts [] ex w h K) (z : prW K prs = prs.map Pr.fw) : Txt w K mg := by
  have d := c.t.d
  have xs := c.more
  unfold ex at xs
  rw [Bool.and_eq_true] at xs
  obtain ⟨e1, xs⟩ := xs
  rw [Bool.and_eq_true] at xs
  obtain ⟨e2, xs⟩ := xs
  rw [Bool.and_eq_true] at xs
  obtain ⟨e3, xs⟩ := xs
  rw [Bool.and_eq_true] at xs
  obtain ⟨e4, xs⟩ := xs
  rw [Bool.and_eq_true] at xs
  obtain ⟨e5, xs⟩ := xs
  rw [Bool.and_eq_true] at xs
  obtain ⟨e6, xs⟩ := xs
  rw [Bool.and_eq_true] at xs
  obtain ⟨e7, xs⟩ := xs
  rw [Bool.and_eq_true] at xs
  obtain ⟨e8, xs⟩ := xs
  rw [Bool.and_eq_true] at xs
  obtain ⟨e9, xs⟩ := xs
  rw [Bool.and_eq_true] at xs
  obtain ⟨e10, xs⟩ := xs
  rw [Bool.and_eq_true] at xs
  obtain ⟨e11, xs⟩ := xs
  rw [Bool.and_eq_true] at xs
  obtain ⟨e12, xs⟩ := xs
  rw [Bool.and_eq_true] at xs
  obtain ⟨e13, xs⟩ := xs
  rw [Bool.and_eq_true] at xs
  obtain ⟨etm, xs⟩ := xs
  rw [Bool.and_eq_true] at xs
  obtain ⟨ekin, xs⟩ := xs
  rw [Bool.and_eq_true] at xs
  obtain ⟨ekw, xs⟩ := xs
  rw [Bool.and_eq_true] at xs
  obtain ⟨ekv, xs⟩ := xs
  rw [Bool.and_eq_true] at xs
  obtain ⟨ekx, xs⟩ := xs
  rw [Bool.and_eq_true] at xs
  obtain ⟨eke, xs⟩ := xs
  rw [Bool.and_eq_true] at xs
  obtain ⟨eki, xs⟩ := xs
  rw [Bool.and_eq_true] at xs
  obtain ⟨eew, xs⟩ := xs
  rw [Bool.and_eq_true] at xs
  obtain ⟨exi, xs⟩ := xs
  have ekp := xs
  have etm := of_decide_eq_true etm
  have eki := of_decide_eq_true eki
  exact {
    b_ArithmeticError := free_at X G d 0 rfl
    b_AttributeError := free_at X G d 1 rfl
    b_LookupError := free_at X G d 2 rfl
    b_RuntimeError := free_at X G d 3 rfl
    b_TypeError := free_at X G d 4 rfl
    b_ValueError := free_at X G d 5 rfl
    b_abs := free_at X G d 6 rfl
    b_all := free_at X G d 7 rfl
    b_bool := free_at X G d 8 rfl
    b_int := free_at X G d 9 rfl
    b_isinstance := free_at X G d 10 rfl
    b_len := free_at X G d 11 rfl
    b_list := free_at X G d 12 rfl
    b_range := free_at X G d 13 rfl
    b_repr := free_at X G d 14 rfl
    b_str := free_at X G d 15 rfl
    b_tuple := free_at X G d 16 rfl
    g_BadCode := glo_at X G d 17 rfl
    g_BadEvent := glo_at X G d 18 rfl
    g_BadNet := glo_at X G d 19 rfl
    g_BadNumber := glo_at X G d 20 rfl
    g_BadPaper := glo_at X G d 21 rfl
    g_BadProgram := glo_at X G d 22 rfl
    g_BadStanding := glo_at X G d 23 rfl
    g_BadText := glo_at X G d 24 rfl
    g_BadWorld := glo_at X G d 25 rfl
    g_LEAST_SHORT := int_at X G d 26 rfl
    g_MOST_SHORT := int_at X G d 27 rfl
    g_Misfit := glo_at X G d 28 rfl
    g_TooMany := glo_at X G d 29 rfl
    g_Twice := glo_at X G d 30 rfl
    g_Unknown := glo_at X G d 31 rfl
    g_WeatherError := glo_at X G d 32 rfl
    g__law_any := glo_at X G d 33 rfl
    g__law_cloud := glo_at X G d 34 rfl
    g__law_drop := glo_at X G d 35 rfl
    g__law_errors_right := glo_at X G d 36 rfl
    g__law_is_integer := glo_at X G d 37 rfl
    g__law_kin := glo_at X G d 38 rfl
    g__law_lots_right := glo_at X G d 39 rfl
    g__law_numbers_right := glo_at X G d 40 rfl
    g__law_one_of := glo_at X G d 41 rfl
    g__law_rows_right := glo_at X G d 42 rfl
    g__law_stands := glo_at X G d 43 rfl
    g_are_integers := glo_at X G d 44 rfl
    g_are_shorts := glo_at X G d 45 rfl
    g_is_integer := glo_at X G d 46 rfl
    g_is_list := glo_at X G d 47 rfl
    g_is_lot := glo_at X G d 48 rfl
    g_is_short := glo_at X G d 49 rfl
    g_is_within := glo_at X G d 50 rfl
    f_is_list := d.def_ 0 (d := dTop "is_list" s_is_list) rfl
    f_is_integer := d.def_ 1 (d := dTop "is_integer" s_is_integer) rfl
    f_is_within := d.def_ 2 (d := dTop "is_within" s_is_within) rfl
    f_are_integers := d.def_ 3 (d := dTop "are_integers" s_are_integers) rfl
    f_is_lot := d.def_ 4 (d := dTop "is_lot" s_is_lot) rfl
    f_is_short := d.def_ 5 (d := dTop "is_short" s_is_short) rfl
    f_are_shorts := d.def_ 6 (d := dTop "are_shorts" s_are_shorts) rfl
    f__law_cloud := d.def_ 7 (d := dTop "_law_cloud" s__law_cloud) rfl
    f__law_drop := d.def_ 8 (d := dTop "_law_drop" s__law_drop) rfl
    f__law_one_of := d.def_ 9 (d := dTop "_law_one_of" s__law_one_of) rfl
    f__law_any := d.def_ 10 (d := dTop "_law_any" s__law_any) rfl
    f__law_kin := d.def_ 11 (d := dTop "_law_kin" s__law_kin) rfl
    f__law_stands := d.def_ 12 (d := dTop "_law_stands" s__law_stands) rfl
    f__law_errors_right := d.def_ 13 (d := dTop "_law_errors_right" s__law_errors_right) rfl
    f__law_is_integer := d.def_ 14 (d := dTop "_law_is_integer" s__law_is_integer) rfl
    f__law_numbers_right := d.def_ 15 (d := dTop "_law_numbers_right" s__law_numbers_right) rfl
    f__law_rows_right := d.def_ 16 (d := dTop "_law_rows_right" s__law_rows_right) rfl
    f__law_lots_right := d.def_ 17 (d := dTop "_law_lots_right" s__law_lots_right) rfl
    f_law := d.def_ 18 (d := dTop "law" s_law) rfl
    o_xk_BadNumber := fun {P base} => exnK_of e1 (glo_at X G d 20 rfl) (ok_init_BadNumber d)
    o_xk_BadNet := fun {P base} => exnK_of e2 (glo_at X G d 19 rfl) (ok_init_BadNet d)
    o_xk_BadProgram := fun {P base} => exnK_of e3 (glo_at X G d 22 rfl) (ok_init_BadProgram d)
    o_xk_BadCode := fun {P base} => exnK_of e4 (glo_at X G d 17 rfl) (ok_init_BadCode d)
    o_xk_BadStanding := fun {P base} => exnK_of e5 (glo_at X G d 23 rfl) (ok_init_BadStanding d)
    o_xk_BadWorld := fun {P base} => exnK_of e6 (glo_at X G d 25 rfl) (ok_init_BadWorld d)
    o_xk_BadEvent := fun {P base} => exnK_of e7 (glo_at X G d 18 rfl) (ok_init_BadEvent d)
    o_xk_BadPaper := fun {P base} => exnK_of e8 (glo_at X G d 21 rfl) (ok_init_BadPaper d)
    o_xk_Misfit := fun {P base} => exnK_of e9 (glo_at X G d 28 rfl) (ok_init_Misfit d)
    o_xk_Twice := fun {P base} => exnK_of e10 (glo_at X G d 30 rfl) (ok_init_Twice d)
    o_xk_Unknown := fun {P base} => exnK_of e11 (glo_at X G d 31 rfl) (ok_init_Unknown d)
    o_x2_TooMany := fun {P base} => exn2_of e12 etm (glo_at X G d 29 rfl) (ok_init_TooMany d)
    o_xk_BadText := fun {P base} => exnK_of e13 (glo_at X G d 24 rfl) (ok_init_BadText d)
    o_kin := fun i j hi hj => of_decide_eq_true (List.all_eq_true.mp (List.all_eq_true.mp ekin i (List.mem_range.mpr hi)) j (List.mem_range.mpr hj))
    o_kinW := fun i hi => of_decide_eq_true (List.all_eq_true.mp ekw i (List.mem_range.mpr hi))
    o_kinV := fun i hi => of_decide_eq_true (List.all_eq_true.mp ekv i (List.mem_range.mpr hi))
    o_kinX := fun i hi => of_decide_eq_true (List.all_eq_true.mp ekx i (List.mem_range.mpr hi))
    o_kinE := fun i hi => of_decide_eq_true (List.all_eq_true.mp eke i (List.mem_range.mpr hi))
    o_kinI := eki
    o_exW := excB_ok eew
    o_xiW := exi
    o_kpW := ekp }
end
theorem lawG {w : World} {mg : Str → Option Value} {f : Addr} {h : Heap} (Y : hk.says w h) (G : h.Ns mainGlobals mg) (hm : mg ("law" : Str) = some (.ref f)) : ∃ K : PySem.W.Frag, K.In h ∧ LawG PySem.Challenge.rw_fairweather_k00_errors_and_plain_values w K 6 63 "_law_script" mg f h := by
  obtain ⟨K, X, c, z⟩ := Y
  have d := c.t.d
  have T := txt X G c z
  have gl : mg ("law" : Str) = some (.ref (He.ga K "law")) := glo_at X G d 51 rfl
  have e := hm.symm.trans gl
  cases e
  obtain ⟨fd, F0⟩ := T.f_law
  have b := FunD.bindsA (ps := ["_law_script"]) F0 fun _ _ _ _ _ _ us hl => match us, hl with | [_], _ => rfl
  refine ⟨K, X, fd, [], lift K [] sp_law, fun p hp => (nomatch hp), fun p hp => (nomatch hp), fun p hp => (nomatch hp), fun s u => b s [u] rfl, fun H a ns hl _ ht hs => ?_, fun base _ _ _ => b_law T fd F0⟩
  have sq : AtS K (fun _ => none) H a (ns.map V.int) := by
    rcases hs with hs | hs
    · exact .inl ⟨rfl, hs⟩
    · exact .inr (.inr hs)
  exact ⟨[.sq (ns.map .int)], fun _ => none, ev0, fun d _ => d = .bl true, .cons (.sq sq (isAll_ints ns)) .nil, ⟨fun _ _ q => (nomatch q), fun p hp => (nomatch hp)⟩, xok0, ⟨ns, rfl, fun _ => rfl⟩, fun d μ' v H' q iv _ _ => by subst q; cases iv; rfl⟩
end K00

set_option maxRecDepth 100000
set_option maxHeartbeats 0
open PySem PySem.W PySem.Calls PyProof.Rows
theorem PySem.Challenge.cw_fairweather_k00_errors_and_plain_values_holds : PySem.Challenge.rw_fairweather_k00_errors_and_plain_values.Holds := by
  w_on; o_law
  refine HandSHeadRun.head_any (r := OpenLaw.row PySem.Challenge.rw_fairweather_k00_errors_and_plain_values) (q := K00.qv) (H := K00.hk) (ob := FW.obT K00.fa K00.fn K00.ts K00.ex K00.prs) (M := 6000) (loose := K00.names) (kwd := []) (fun s => FW.obT_eq _ _ _ _ _ s) (by kernel_rfl) (fun s => by kernel_rfl) K00.run (by rfl) (by rfl) (by rfl) (by rfl) (by first | assumption | decide +kernel) (by decide +kernel) ⟨rfl, rfl, rfl, rfl, rfl, by decide +kernel⟩ ?hw ?hc
  case hw => w_witness2
  case hc =>
    refine FW.walkG (l := PySem.Challenge.rw_fairweather_k00_errors_and_plain_values) (n := 63) (k := 6) (x := "_law_script") rfl (by decide) (by kernel_rfl) ⟨rfl, by decide, by decide⟩ ?F
    intro w mg fa h Y G hmg0
    exact K00.lawG Y G hmg0
