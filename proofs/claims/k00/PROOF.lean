import PyProof.Rows.All
import Wide.All
import OpenK.AllK
import Wide.FinOn
import KE.KStateDown
import Lean
import HandS.ForMost
import HandS.ForExc
import HandS.Defaults
import HandS.IsInst
import HandS.Wide
import HandS.Conv
import HandS.Walk
import HandS.Head0
import HandS.Head1
import HandS.Head2
import HandS.HeadEnd
import HandS.HeadHook1
import HandS.HeadHook2
import HandS.ExcInit
import HandS.ExcValue
import HandS.ExcIs
import HandS.DeepEq
import HandS.OwnEq
import KE.KExcIs
import PySem.Challenge.RW_boxedroots_k00_errors_and_their_fields
import KE.GoesMore
import KE.GoesEnum
set_option Elab.async false
set_option linter.all false
set_option maxRecDepth 100000
set_option maxHeartbeats 4000000
namespace K00
open PySem PySem.Spec PyProof.Rows L2
def top (i : Nat) : Stmt := PySem.Challenge.pw_boxedroots_k00_errors_and_their_fields.main.body.getD i (.Pass ⟨0, 0, 0, 0⟩)
abbrev s_BadPoly_init : Stmt := inClass (top 2) 0
abbrev s_BadSystem_init : Stmt := inClass (top 3) 0
abbrev s_NoCover_init : Stmt := inClass (top 4) 0
abbrev s_BadNumber_init : Stmt := inClass (top 5) 0
abbrev s_NoWish_init : Stmt := inClass (top 6) 0
abbrev s_BadText_init : Stmt := inClass (top 7) 0
abbrev s_BadLine_init : Stmt := inClass (top 8) 0
abbrev s_NoName_init : Stmt := inClass (top 9) 0
abbrev s_TooMany_init : Stmt := inClass (top 10) 0
abbrev s_is_integer : Stmt := top 31
abbrev s_is_number_to : Stmt := top 32
abbrev s_Poly_init : Stmt := inClass (top 36) 0
abbrev s_Poly_eq : Stmt := inClass (top 36) 1
abbrev s_is_term : Stmt := top 37
abbrev s_is_powers : Stmt := top 38
abbrev s_law_hand : Stmt := top 40
abbrev s_law_draw : Stmt := top 41
abbrev s_law_any : Stmt := top 42
abbrev s_law_deep : Stmt := top 43
abbrev s_law_first_flags : Stmt := top 44
abbrev s_law_flags : Stmt := top 45
abbrev s_law_made : Stmt := top 46
abbrev s_law_field : Stmt := top 47
abbrev s_law_caught : Stmt := top 48
abbrev s_law_is : Stmt := top 49
abbrev s_law : Stmt := top 50
def d_BadPoly_init : He.DefD := ⟨("BadPoly", some "__init__"), "__init__", "BadPoly.__init__", defArgs s_BadPoly_init, defBody s_BadPoly_init, defScope s_BadPoly_init, [], []⟩
def d_BadSystem_init : He.DefD := ⟨("BadSystem", some "__init__"), "__init__", "BadSystem.__init__", defArgs s_BadSystem_init, defBody s_BadSystem_init, defScope s_BadSystem_init, [], []⟩
def d_NoCover_init : He.DefD := ⟨("NoCover", some "__init__"), "__init__", "NoCover.__init__", defArgs s_NoCover_init, defBody s_NoCover_init, defScope s_NoCover_init, [], []⟩
def d_BadNumber_init : He.DefD := ⟨("BadNumber", some "__init__"), "__init__", "BadNumber.__init__", defArgs s_BadNumber_init, defBody s_BadNumber_init, defScope s_BadNumber_init, [], []⟩
def d_NoWish_init : He.DefD := ⟨("NoWish", some "__init__"), "__init__", "NoWish.__init__", defArgs s_NoWish_init, defBody s_NoWish_init, defScope s_NoWish_init, [], []⟩
def d_BadText_init : He.DefD := ⟨("BadText", some "__init__"), "__init__", "BadText.__init__", defArgs s_BadText_init, defBody s_BadText_init, defScope s_BadText_init, [], []⟩
def d_BadLine_init : He.DefD := ⟨("BadLine", some "__init__"), "__init__", "BadLine.__init__", defArgs s_BadLine_init, defBody s_BadLine_init, defScope s_BadLine_init, [], []⟩
def d_NoName_init : He.DefD := ⟨("NoName", some "__init__"), "__init__", "NoName.__init__", defArgs s_NoName_init, defBody s_NoName_init, defScope s_NoName_init, [], []⟩
def d_TooMany_init : He.DefD := ⟨("TooMany", some "__init__"), "__init__", "TooMany.__init__", defArgs s_TooMany_init, defBody s_TooMany_init, defScope s_TooMany_init, [], []⟩
def d_is_integer : He.DefD := ⟨("is_integer", none), "is_integer", "is_integer", defArgs s_is_integer, defBody s_is_integer, defScope s_is_integer, [], []⟩
def d_is_number_to : He.DefD := ⟨("is_number_to", none), "is_number_to", "is_number_to", defArgs s_is_number_to, defBody s_is_number_to, defScope s_is_number_to, [], []⟩
def d_Poly_init : He.DefD := ⟨("Poly", some "__init__"), "__init__", "Poly.__init__", defArgs s_Poly_init, defBody s_Poly_init, defScope s_Poly_init, [], []⟩
def d_Poly_eq : He.DefD := ⟨("Poly", some "__eq__"), "__eq__", "Poly.__eq__", defArgs s_Poly_eq, defBody s_Poly_eq, defScope s_Poly_eq, [], []⟩
def d_is_term : He.DefD := ⟨("is_term", none), "is_term", "is_term", defArgs s_is_term, defBody s_is_term, defScope s_is_term, [], []⟩
def d_is_powers : He.DefD := ⟨("is_powers", none), "is_powers", "is_powers", defArgs s_is_powers, defBody s_is_powers, defScope s_is_powers, [], []⟩
def d_law_hand : He.DefD := ⟨("_law_hand", none), "_law_hand", "_law_hand", defArgs s_law_hand, defBody s_law_hand, defScope s_law_hand, [], []⟩
def d_law_draw : He.DefD := ⟨("_law_draw", none), "_law_draw", "_law_draw", defArgs s_law_draw, defBody s_law_draw, defScope s_law_draw, [], []⟩
def d_law_any : He.DefD := ⟨("_law_any", none), "_law_any", "_law_any", defArgs s_law_any, defBody s_law_any, defScope s_law_any, [], []⟩
def d_law_deep : He.DefD := ⟨("_law_deep", none), "_law_deep", "_law_deep", defArgs s_law_deep, defBody s_law_deep, defScope s_law_deep, [], []⟩
def d_law_first_flags : He.DefD := ⟨("_law_first_flags", none), "_law_first_flags", "_law_first_flags", defArgs s_law_first_flags, defBody s_law_first_flags, defScope s_law_first_flags, [], []⟩
def d_law_flags : He.DefD := ⟨("_law_flags", none), "_law_flags", "_law_flags", defArgs s_law_flags, defBody s_law_flags, defScope s_law_flags, [], []⟩
def d_law_made : He.DefD := ⟨("_law_made", none), "_law_made", "_law_made", defArgs s_law_made, defBody s_law_made, defScope s_law_made, [], []⟩
def d_law_field : He.DefD := ⟨("_law_field", none), "_law_field", "_law_field", defArgs s_law_field, defBody s_law_field, defScope s_law_field, [], []⟩
def d_law_caught : He.DefD := ⟨("_law_caught", none), "_law_caught", "_law_caught", defArgs s_law_caught, defBody s_law_caught, defScope s_law_caught, [], []⟩
def d_law_is : He.DefD := ⟨("_law_is", none), "_law_is", "_law_is", defArgs s_law_is, defBody s_law_is, defScope s_law_is, [], []⟩
def d_law : He.DefD := ⟨("law", none), "law", "law", defArgs s_law, defBody s_law, defScope s_law, [], []⟩
def fn : List He.DefD := [d_BadPoly_init, d_BadSystem_init, d_NoCover_init, d_BadNumber_init, d_NoWish_init, d_BadText_init, d_BadLine_init, d_NoName_init, d_TooMany_init, d_is_integer, d_is_number_to, d_Poly_init, d_Poly_eq, d_is_term, d_is_powers, d_law_hand, d_law_draw, d_law_any, d_law_deep, d_law_first_flags, d_law_flags, d_law_made, d_law_field, d_law_caught, d_law_is, d_law]

abbrev FnP (K : PySem.W.Frag) (x qual : Str) (st : Stmt) (f : Addr) (fd : FuncData) : Prop := FunD K x qual (defArgs st) (defBody st) (defScope st) [] [] f fd
end K00

set_option Elab.async false
set_option linter.all false
set_option maxRecDepth 100000
set_option maxHeartbeats 4000000
/-! steps of our own: each reading's combinator with what it asks as premises -/
namespace My
open PySem PySem.Spec PyProof.Rows L2
/-- what a for over range(..), over a list asks behind its argument; what a comprehension does -/
def FR (vs : List V) (g : TG) (tb : TS) (D : Ends) (σ : L2.St) (H1 : Hp) : Prop := ∃ j : Int, vs = [.int j] ∧ -(2 ^ 62) ≤ j ∧ j < 2 ^ 62 ∧ ∃ W : Nat → Nat → L2.St → Hp → Prop, (∃ m, W 0 m σ H1) ∧ ∀ i m σ H, W i m σ H →
  ((Itr 0 j.toNat).stop i H ∧ D.nx σ H) ∨ ((Itr 0 j.toNat).go i H ∧ ∃ N : L2.St → Hp → Prop, (∀ σ' H', N σ' H' → ∃ m', m' < m ∧ W (i + 1) m' σ' H') ∧ ∀ x H', (Itr 0 j.toNat).yld i H x H' → g x σ H' fun σ2 H2 => tb { D with nx := N, ct := N, bk := D.nx } σ2 H2)
def FL (K : PySem.W.Frag) (x : V) (g : TG) (tb : TS) (D : Ends) (σ : L2.St) (H1 : Hp) : Prop := ∃ a, x = .ref a ∧ (∃ xs, SqL K H1 a xs) ∧ ∃ W : Nat → Nat → L2.St → Hp → Prop, (∃ m, W 0 m σ H1) ∧ ∀ i m σ H, W i m σ H →
  ((Itl K a).stop i H ∧ D.nx σ H) ∨ ((Itl K a).go i H ∧ ∃ N : L2.St → Hp → Prop, (∀ σ' H', N σ' H' → ∃ m', m' < m ∧ W (i + 1) m' σ' H') ∧ ∀ x H', (Itl K a).yld i H x H' → g x σ H' fun σ2 H2 => tb { D with nx := N, ct := N, bk := D.nx } σ2 H2)
/-- a comprehension over the iterator J -/
def LJ (J : It) (g : TG) (tt : TT) (te : TE) (vs : List Nat) (σ : L2.St) (Q : VK) (H1 : Hp) : Prop := ∀ D, H1 D = none → ∃ W : Nat → Nat → Hp → Prop, (∃ m, W 0 m (upd H1 D (.lst []))) ∧ ∀ i m H, W i m H →
  (J.stop i H ∧ Q (.ref D) H) ∨ (J.go i H ∧ ∃ Nx : Hp → Prop, (∀ H', Nx H' → ∃ m', m' < m ∧ W (i + 1) m' H') ∧ ∀ x H', J.yld i H x H' → g x (wipe σ vs) H' fun σ2 H2 => wipe σ2 vs = wipe σ vs ∧ tt σ2 H2 fun b H3 =>
    if b = true then te σ2 H3 fun y H4 => ∃ acc, H4 D = some (.lst acc) ∧ acc.length < sizeLine ∧ Nx (upd H4 D (.lst (acc ++ [y]))) else Nx H3)
def CR1 (us : List V) (g : TG) (tt : TT) (te : TE) (vs : List Nat) (σ : L2.St) (Q : VK) (H1 : Hp) : Prop := ∃ j : Int, us = [.int j] ∧ -(2 ^ 62) ≤ j ∧ j < 2 ^ 62 ∧ LJ (Itr 0 j.toNat) g tt te vs σ Q H1
def CL1 (K : PySem.W.Frag) (x : V) (g : TG) (tt : TT) (te : TE) (vs : List Nat) (σ : L2.St) (Q : VK) (H1 : Hp) : Prop := ∃ a, x = .ref a ∧ (∃ xs, SqL K H1 a xs) ∧ LJ (Itl K a) g tt te vs σ Q H1
def rInt1 : List V → Hp → VK → Prop := fun xs H Q => (∃ i, xs = [.int i] ∧ Q (.int i) H) ∨ ∃ k, xs = [.bl k] ∧ Q (.int (if k then 1 else 0)) H
theorem c_int1 {X : Cx} : CallR X (.type "int") rInt1 := call_int1
def rAbs1 : List V → Hp → VK → Prop := fun xs H Q => ∃ i, xs = [.int i] ∧ Q (.int (if i < 0 then -i else i)) H
theorem c_abs {X : Cx} : CallR X (.builtin "abs") rAbs1 := call_abs
def rLen1 (K : PySem.W.Frag) : List V → Hp → VK → Prop := fun xs H Q => ∃ x n, xs = [x] ∧ LenV K x H n ∧ Q (.int n) H
theorem c_len {X : Cx} : CallR X (.builtin "len") (rLen1 X.K) := call_len
section
variable {σ : L2.St} {H : Hp} {Q : VK} {QB : Bool → Hp → Prop} {QA : List V → Hp → Prop} {K : PySem.W.Frag} {te td ty tv ta tb tx : TE} {tt tu : TT} {tl tr : TA} {D : Ends} {t u : TS} {x y v z : V} {r : R2} {i j : Int} {n : Nat} {b : Bool}
theorem seq (h : t { D with nx := u D } σ H) : tSeq t u D σ H := h
theorem next (h : D.nx σ H) : tNext D σ H := h
theorem ifs (h : tt σ H fun b H1 => if b = true then t D σ H1 else u D σ H1) : tIfS tt t u D σ H := h
theorem test (h : te σ H fun x H' => ∃ k, x = .bl k ∧ QB k H') : tTest te σ H QB := h
theorem testB (h : te σ H fun x H' => ∃ k, x = .bl k ∧ QB k H') : tB te σ H QB := h
theorem and_ (h : tt σ H fun c H1 => if c = true then tu σ H1 QB else QB false H1) : tAnd tt tu σ H QB := h
theorem or_ (h : tt σ H fun c H1 => if c = true then QB true H1 else tu σ H1 QB) : tOr tt tu σ H QB := h
theorem not_ (h : tt σ H fun c H1 => QB (!c) H1) : tNot tt σ H QB := h
theorem andV (h : ta σ H fun x H1 => ∃ c, x = .bl c ∧ if c = true then tb σ H1 Q else Q (.bl false) H1) : tAndV ta tb σ H Q := h
theorem orV (h : ta σ H fun x H1 => ∃ c, x = .bl c ∧ if c = true then Q (.bl true) H1 else tb σ H1 Q) : tOrV ta tb σ H Q := h
theorem notV (h : ta σ H fun x H1 => ∃ c, x = .bl c ∧ Q (.bl (!c)) H1) : tNotV ta σ H Q := h
theorem ifV (h : tt σ H fun c H1 => if c = true then ta σ H1 Q else tb σ H1 Q) : tIf tt ta tb σ H Q := h
theorem bl {R : Bool → Prop} (q : R b) : ∃ k, V.bl b = .bl k ∧ R k := ⟨b, rfl, q⟩
theorem ite_d {p : Prop} [Decidable p] {A B : Prop} (h1 : p → A) (h2 : ¬ p → B) : if decide p = true then A else B := by
  by_cases h : p
  · rw [if_pos (decide_eq_true h)]; exact h1 h
  · rw [decide_eq_false h, if_neg Bool.false_ne_true]; exact h2 h
theorem ite_nd {p : Prop} [Decidable p] {A B : Prop} (h1 : ¬ p → A) (h2 : p → B) : if (!decide p) = true then A else B := by
  by_cases h : p
  · rw [decide_eq_true h]; exact h2 h
  · rw [decide_eq_false h]; exact h1 h
theorem ite_t {A B : Prop} (h : A) : if true = true then A else B := by rw [if_pos rfl]; exact h
theorem ite_f {A B : Prop} (h : B) : if false = true then A else B := by rw [if_neg Bool.false_ne_true]; exact h
theorem ite_nt {A B : Prop} (h : B) : if (!true) = true then A else B := by simpa using h
theorem ite_nf {A B : Prop} (h : A) : if (!false) = true then A else B := by simpa using h
theorem var (h : σ[n]? = some (some v)) (q : Q v H) : tVar n σ H Q := ⟨v, h, q⟩
theorem cst (q : Q v H) : tC v σ H Q := q
theorem op (h : ta σ H fun x H1 => tb σ H1 fun y H2 => r x y H2 Q) : tOp r ta tb σ H Q := h
theorem un {r : V → Hp → VK → Prop} (h : ta σ H fun x H1 => r x H1 Q) : tUn r ta σ H Q := h
theorem rU_ {g : Int → V} (q : Q (g i) H) : rU g (.int i) H Q := ⟨i, rfl, q⟩
theorem rI0_ {g : Int → Int → V} (q : Q (g i j) H) : rI0 g (.int i) (.int j) H Q := ⟨i, j, rfl, rfl, q⟩
theorem rI_ {C : Int → Int → Prop} {g : Int → Int → V} (c : C i j) (q : Q (g i j) H) : rI C g (.int i) (.int j) H Q := ⟨i, j, rfl, rfl, c, q⟩
theorem modA (c : 0 < j) (q : ∀ k, 0 ≤ k → k < j → Q (.int k) H) : rI (fun _ j => 0 < j) (fun i j => .int (i % j)) (.int i) (.int j) H Q := ⟨i, j, rfl, rfl, c, q _ (Int.emod_nonneg _ (by omega)) (Int.emod_lt_of_pos _ c)⟩
theorem mulR {g : Int → Int → V} (h1 : -18446744073709551616 < j) (h2 : j < 18446744073709551616) (q : Q (g i j) H) : rI CMul g (.int i) (.int j) H Q := ⟨i, j, rfl, rfl, .inr ⟨h1, h2⟩, q⟩
theorem mulL {g : Int → Int → V} (h1 : -18446744073709551616 < i) (h2 : i < 18446744073709551616) (q : Q (g i j) H) : rI CMul g (.int i) (.int j) H Q := ⟨i, j, rfl, rfl, .inl ⟨h1, h2⟩, q⟩
theorem divP {g : Int → Int → V} (h1 : 0 < j) (h2 : j < 1073741824) (q : Q (g i j) H) : rI CDiv g (.int i) (.int j) H Q := ⟨i, j, rfl, rfl, ⟨h1, h2⟩, q⟩
theorem powP {g : Int → Int → V} (c : CPow i j) (q : Q (g i j) H) : rI CPow g (.int i) (.int j) H Q := ⟨i, j, rfl, rfl, c, q⟩
theorem rEqI (q : Q (.bl (decide (i = j))) H) : rEq (.int i) (.int j) H Q := ⟨rfl, by
  have e : decide (V.int i = V.int j) = decide (i = j) := by
    by_cases h : i = j
    · rw [h]; simp
    · simp [h]
  rw [e]; exact q⟩
theorem rNeI (q : Q (.bl (!decide (i = j))) H) : rNe (.int i) (.int j) H Q := ⟨rfl, by
  have e : decide (V.int i = V.int j) = decide (i = j) := by
    by_cases h : i = j
    · rw [h]; simp
    · simp [h]
  rw [e]; exact q⟩
theorem callB {rl : List V → Hp → VK → Prop} (h : tl σ H fun vs H1 => rl vs H1 Q) : tCB rl tl σ H Q := h
theorem cons (h : te σ H fun x H1 => tl σ H1 fun xs H2 => QA (x :: xs) H2) : tCons te tl σ H QA := h
theorem nil (q : QA [] H) : tNil σ H QA := q
theorem int1 (q : Q (.int i) H) : rInt1 [.int i] H Q := .inl ⟨i, rfl, q⟩
theorem int1b (q : Q (.int (if b then 1 else 0)) H) : rInt1 [.bl b] H Q := .inr ⟨b, rfl, q⟩
theorem abs1 (q : Q (.int (if i < 0 then -i else i)) H) : rAbs1 [.int i] H Q := ⟨i, rfl, q⟩
theorem lenL {p : Addr} {xs : List V} (h : SqL K H p xs) (q : Q (.int xs.length) H) : rLen1 K [.ref p] H Q := ⟨_, _, rfl, .inl ⟨xs, h, rfl⟩, q⟩
theorem lenT {p : Addr} {xs : List V} (h : SqT K H p xs) (q : Q (.int xs.length) H) : rLen1 K [.ref p] H Q := ⟨_, _, rfl, .inr ⟨xs, h, rfl⟩, q⟩
theorem dget (h : td σ H fun x H1 => ty σ H1 fun y H2 => ∃ a v, x = .ref a ∧ DGet H2 a y (some v) ∧ Q v H2) : tDGet td ty σ H Q := h
theorem dgetS {a : Addr} {kvs : List (Key × V)} {s : Str} (h : H a = some (.dK kvs)) {R : V → Prop} (hv : valV kvs (.inr s) = some v) (q : R v) : ∃ a' v', V.ref a = .ref a' ∧ DGet H a' (.str s) (some v') ∧ R v' :=
  ⟨a, v, rfl, .inl ⟨kvs, .inr s, .inl h, rfl, hv.symm⟩, q⟩
theorem dput (h : tv σ H fun v H1 => td σ H1 fun x H2 => ty σ H2 fun y H3 => ∃ a H4, x = .ref a ∧ DPut H3 a y v H4 ∧ D.nx σ H4) : sDPut td ty tv D σ H := h
theorem dputS {a : Addr} {kvs kvs' : List (Key × V)} {s : Str} {R : Hp → Prop} (h : H a = some (.dK kvs)) (hl : kvs.length < sizeLine) (e : putK kvs (.inr s) v = kvs') (q : R (upd H a (.dK kvs'))) : ∃ a' H4, V.ref a = .ref a' ∧ DPut H a' (.str s) v H4 ∧ R H4 := by
  subst e
  exact ⟨a, _, rfl, DPut.k (k := Sum.inr s) h hl, q⟩
theorem asg {g : TG} (h : te σ H fun x H1 => g x σ H1 D.nx) : tAsg te g D σ H := h
theorem name {N : L2.St → Hp → Prop} {σ' : L2.St} (e : σ.set n (some v) = σ') (h : N σ' H) : gName n v σ H N := by subst e; exact h
theorem drop (h : te σ H fun _ H1 => D.nx σ H1) : tDrop te D σ H := h
theorem ret (h : te σ H D.rt) : tRet te D σ H := h
theorem retN (h : D.rt .non H) : tRetN D σ H := h
theorem ixL {p : Addr} {xs : List V} (h : SqL K H p xs) (e : atI xs i = some v) (q : Q v H) : rIxL K (.ref p) (.int i) H Q := ⟨p, xs, i, v, rfl, rfl, h, e, q⟩
theorem ixT {p : Addr} {xs : List V} (h : SqT K H p xs) (e : atI xs i = some v) (q : Q v H) : rIxT K (.ref p) (.int i) H Q := ⟨p, xs, i, v, rfl, rfl, h, e, q⟩
theorem call {sp : Sp} {dvs : List V} {E : XK} (h : tl σ H fun vs H1 => sp (vs ++ dvs) H1 Q E) : tCall sp dvs E tl σ H Q := h
theorem lst_ (h : tl σ H fun xs H1 => xs.length ≤ sizeLine ∧ ∀ p, H1 p = none → Q (.ref p) (upd H1 p (.lst xs))) : tLst tl σ H Q := h
theorem tup_ (h : tl σ H fun xs H1 => xs.length ≤ sizeLine ∧ ∀ p, H1 p = none → Q (.ref p) (upd H1 p (.tup xs))) : tTup tl σ H Q := h
theorem new {p : Prop} {R : Addr → Prop} (hl : p) (h : ∀ a, H a = none → R a) : p ∧ ∀ a, H a = none → R a := ⟨hl, h⟩
theorem sz {n : Nat} (h : n ≤ 1000) : n ≤ sizeLine := Nat.le_trans h (by decide)
theorem range1 {R : Int → Prop} {p1 p2 : Int → Prop} (h1 : p1 i) (h2 : p2 i) (q : R i) : ∃ j, [V.int i] = [.int j] ∧ p1 j ∧ p2 j ∧ R j := ⟨i, rfl, h1, h2, q⟩
/-- over range(j): with an invariant -/
theorem rngI {g : TG} {tb : TS} (l1 : -4611686018427387904 ≤ j) (l2 : j < 4611686018427387904) (Pv : Nat → L2.St → Hp → Prop) (h0 : Pv 0 σ H)
    (hs : ∀ i σ H, i < j.toNat → Pv i σ H → g (.int (0 + (i : Int))) σ H fun σ2 H2 => tb { D with nx := Pv (i + 1), ct := Pv (i + 1), bk := D.nx } σ2 H2) (hd : ∀ σ H, Pv j.toNat σ H → D.nx σ H) : FR [.int j] g tb D σ H := ⟨j, rfl, l1, l2, for_range (lo := 0) (n := j.toNat) Pv h0 hs hd⟩
theorem forR1 {g : TG} {tb : TS} (h : tl σ H fun vs H1 => FR vs g tb D σ H1) : tFor (iRng1 tl) g tb D σ H := h
theorem forL1 {g : TG} {tb : TS} (h : te σ H fun x H1 => FL K x g tb D σ H1) : tFor (iList K te) g tb D σ H := h
theorem lstI {g : TG} {tb : TS} {a : Addr} {xs : List V} (hl0 : SqL K H a xs) (Pv : Nat → L2.St → Hp → Prop) (h0 : Pv 0 σ H) (hl : ∀ i σ H, i ≤ xs.length → Pv i σ H → SqL K H a xs)
    (hs : ∀ i x σ H, xs[i]? = some x → Pv i σ H → g x σ H fun σ2 H2 => tb { D with nx := Pv (i + 1), ct := Pv (i + 1), bk := D.nx } σ2 H2) (hd : ∀ σ H, Pv xs.length σ H → D.nx σ H) : FL K (.ref a) g tb D σ H :=
  ⟨a, rfl, ⟨xs, hl0⟩, for_list (xs := xs) Pv h0 hl hs hd⟩
theorem lcR1 {g : TG} {vs : List Nat} (h : tl σ H fun us H1 => CR1 us g tt te vs σ Q H1) : tLc (iRng1 tl) g tt te vs σ H Q := h
theorem lcRI {g : TG} {vs : List Nat} (l1 : -4611686018427387904 ≤ j) (l2 : j < 4611686018427387904) (h : ∀ A, H A = none → ∃ Pv : Nat → Hp → Prop, Pv 0 (upd H A (.lst [])) ∧
    (∀ i H, i < j.toNat → Pv i H → g (.int (0 + (i : Int))) (wipe σ vs) H fun σ2 H2 => wipe σ2 vs = wipe σ vs ∧ tt σ2 H2 fun b H3 =>
      if b = true then te σ2 H3 fun y H4 => ∃ acc, H4 A = some (.lst acc) ∧ acc.length < sizeLine ∧ Pv (i + 1) (upd H4 A (.lst (acc ++ [y]))) else Pv (i + 1) H3) ∧ ∀ H, Pv j.toNat H → Q (.ref A) H) : CR1 [.int j] g tt te vs σ Q H := by
  refine ⟨j, rfl, l1, l2, fun A hA => ?_⟩
  obtain ⟨Pv, h0, hs, hd⟩ := h A hA
  exact lc_range (lo := 0) (n := j.toNat) Pv h0 hs hd
theorem lcL1 {g : TG} {vs : List Nat} (h : ta σ H fun x H1 => CL1 K x g tt te vs σ Q H1) : tLc (iList K ta) g tt te vs σ H Q := h
theorem lcLI {g : TG} {vs : List Nat} {a : Addr} {xs : List V} (hl0 : SqL K H a xs) (h : ∀ A, H A = none → ∃ Pv : Nat → Hp → Prop, Pv 0 (upd H A (.lst [])) ∧ (∀ i H, i ≤ xs.length → Pv i H → SqL K H a xs) ∧
    (∀ i x H, xs[i]? = some x → Pv i H → g x (wipe σ vs) H fun σ2 H2 => wipe σ2 vs = wipe σ vs ∧ tt σ2 H2 fun b H3 =>
      if b = true then te σ2 H3 fun y H4 => ∃ acc, H4 A = some (.lst acc) ∧ acc.length < sizeLine ∧ Pv (i + 1) (upd H4 A (.lst (acc ++ [y]))) else Pv (i + 1) H3) ∧ ∀ H, Pv xs.length H → Q (.ref A) H) : CL1 K (.ref a) g tt te vs σ Q H := by
  refine ⟨a, rfl, ⟨xs, hl0⟩, fun A hA => ?_⟩
  obtain ⟨Pv, h0, hl, hs, hd⟩ := h A hA
  exact lc_list (xs := xs) Pv h0 hl hs hd
theorem disp {trs : List (TE × TE)} (h : ∀ p, H p = none → tPairs trs σ (upd H p (.dK [])) fun ps H2 => H2 p = some (.dK []) ∧ ∃ kvs : List (Key × V), ps = kvs.map (fun kv => (kV kv.1, kv.2)) ∧ kvs.length ≤ 15 ∧ Q (.ref p) (upd H2 p (.dK (mergeK [] kvs)))) : tDisp trs σ H Q := h
theorem pairs {tk tv : TE} {trs : List (TE × TE)} {R : List (V × V) → Hp → Prop} (h : tk σ H fun x H1 => tv σ H1 fun y H2 => tPairs trs σ H2 fun ps H3 => R ((x, y) :: ps) H3) : tPairs ((tk, tv) :: trs) σ H R := h
theorem pairs0 {R : List (V × V) → Hp → Prop} (h : R [] H) : tPairs [] σ H R := h
theorem sl {r : V → Option Int → Option Int → Hp → VK → Prop} {t1 t2 : TO} (h : te σ H fun x H1 => t1 σ H1 fun l H2 => t2 σ H2 fun u H3 => r x l u H3 Q) : tSl r te t1 t2 σ H Q := h
theorem part {QO : Option Int → Hp → Prop} (h : te σ H fun x H1 => ∃ i, x = .int i ∧ QO (some i) H1) : tPart te σ H QO := h
theorem partI {R : Int → Prop} (q : R i) : ∃ i', V.int i = .int i' ∧ R i' := ⟨i, rfl, q⟩
theorem yes (q : QB true H) : tYes σ H QB := q
theorem noPart {QO : Option Int → Hp → Prop} (q : QO none H) : tNoPart σ H QO := q
theorem slL {a : Addr} {xs : List V} {lo hi : Option Int} (h : SqL K H a xs) (q : ∀ p, H p = none → Q (.ref p) (upd H p (.lst (cutV xs lo hi)))) : rSlL K (.ref a) lo hi H Q := ⟨a, xs, rfl, h, q⟩
theorem bm {T : String} {r : V → List V → Hp → VK → Prop} (h : te σ H fun x H1 => tyV K T x H1 ∧ tl σ H1 fun xs H2 => r x xs H2 Q) : tBM K T r te tl σ H Q := h
theorem tyL {p : Addr} {xs : List V} {R : Prop} (h : SqL K H p xs) (q : R) : tyV K "list" (.ref p) H ∧ R := ⟨.inl ⟨rfl, xs, h⟩, q⟩
theorem ext {l a : Addr} {xs zs : List V} (h1 : H l = some (.lst xs)) (h2 : H a = some (.lst zs)) (hz : xs.length + zs.length ≤ 1000) (q : Q .non (upd H l (.lst (xs ++ zs)))) : rExtend (.ref l) [.ref a] H Q := ⟨l, a, xs, zs, rfl, rfl, h1, h2, sz hz, q⟩
theorem app {l : Addr} {xs : List V} (h1 : H l = some (.lst xs)) (hz : xs.length < 1000) (q : Q .non (upd H l (.lst (xs ++ [y])))) : rAppend (.ref l) [y] H Q := ⟨l, xs, y, rfl, rfl, h1, Nat.lt_of_lt_of_le hz (by decide), q⟩
theorem inT {p : Addr} {xs : List V} (h : SqT K H p xs) (hx : flatV x = true) (ha : xs.all flatV = true) (q : Q (.bl (inV x xs)) H) : rIn K false x (.ref p) H Q := ⟨p, xs, rfl, .inr h, hx, ha, q⟩
theorem ite_ct {c : Bool} {A B : Prop} (h : c = true) (q : A) : if c = true then A else B := by rw [h, if_pos rfl]; exact q
theorem ite_cf {c : Bool} {A B : Prop} (h : c = false) (q : B) : if c = true then A else B := by rw [h, if_neg Bool.false_ne_true]; exact q
theorem make {C : Addr} {sp : Sp} {dvs : List V} {E : XK} (h : tl σ H fun vs H1 => ∀ x dx, H1 x = none → H1 dx = none → dx ≠ x → sp (.ref x :: (vs ++ dvs)) (upd (upd H1 dx (.own x)) x (.ins C dx [])) (fun v H2 => v = .non ∧ Q (.ref x) H2) E) : tMake C sp dvs E tl σ H Q := h
theorem cat {l a : Addr} {xs zs : List V} (h1 : H l = some (.lst xs)) (h2 : H a = some (.lst zs)) (hz : xs.length + zs.length ≤ 1000) (q : ∀ p, H p = none → Q (.ref p) (upd H p (.lst (xs ++ zs)))) : rCat (.ref l) (.ref a) H Q := ⟨l, a, xs, zs, rfl, rfl, h1, h2, sz hz, q⟩
theorem atI_of {α : Type} {xs : List α} {i : Int} (h0 : 0 ≤ i) (h1 : i < xs.length) : ∃ v, atI xs i = some v ∧ v ∈ xs := by
  obtain ⟨n, rfl⟩ := Int.eq_ofNat_of_zero_le h0
  have hn : n < xs.length := by omega
  exact ⟨xs[n], atI_nat (by simp [hn]), List.getElem_mem hn⟩
end
end My

set_option Elab.async false
set_option linter.all false
set_option maxRecDepth 100000
set_option maxHeartbeats 4000000
namespace K00
open PySem PySem.Spec PyProof.Rows L2

/-- the drawing hand's pairs -/
def hk (c : Addr) (a g s t : Int) : List (Key × V) := [(.inr "cells", .ref c), (.inr "at", .int a), (.inr "great", .int g), (.inr "seed", .int s), (.inr "turn", .int t)]
section
variable {c : Addr} {a g s t z : Int}
theorem hk_cells : valV (hk c a g s t) (.inr "cells") = some (.ref c) := by rfl
theorem hk_at : valV (hk c a g s t) (.inr "at") = some (.int a) := by rfl
theorem hk_great : valV (hk c a g s t) (.inr "great") = some (.int g) := by rfl
theorem hk_seed : valV (hk c a g s t) (.inr "seed") = some (.int s) := by rfl
theorem hk_turn : valV (hk c a g s t) (.inr "turn") = some (.int t) := by rfl
theorem hp_at : putK (hk c a g s t) (.inr "at") (.int z) = hk c z g s t := by rfl
theorem hp_great : putK (hk c a g s t) (.inr "great") (.int z) = hk c a z s t := by rfl
theorem hp_seed : putK (hk c a g s t) (.inr "seed") (.int z) = hk c a g z t := by rfl
theorem hp_turn : putK (hk c a g s t) (.inr "turn") (.int z) = hk c a g s z := by rfl
theorem hk_len : (hk c a g s t).length < sizeLine := by show 5 < sizeLine; decide
end
end K00
local macro_rules | `(tactic| walk_at "s") => `(tactic| first
  | with_reducible refine My.seq ?_
  | with_reducible refine My.ifs ?_
  | with_reducible refine My.test ?_
  | with_reducible refine My.testB ?_
  | with_reducible refine My.and_ ?_
  | with_reducible refine My.or_ ?_
  | with_reducible refine My.not_ ?_
  | with_reducible refine My.andV ?_
  | with_reducible refine My.orV ?_
  | with_reducible refine My.notV ?_
  | with_reducible refine My.ifV ?_
  | with_reducible refine My.cst ?_
  | with_reducible refine My.op ?_
  | with_reducible refine My.un ?_
  | with_reducible refine My.callB ?_
  | with_reducible refine My.cons ?_
  | with_reducible refine My.nil ?_
  | with_reducible refine My.dget ?_
  | with_reducible refine My.dput ?_
  | with_reducible refine My.asg ?_
  | with_reducible refine My.drop ?_
  | with_reducible refine My.ret ?_
  | with_reducible refine My.retN ?_
  | with_reducible refine My.call ?_
  | with_reducible refine My.lst_ ?_
  | with_reducible refine My.tup_ ?_
  | with_reducible refine My.next ?_
  | with_reducible refine My.forR1 ?_
  | with_reducible refine My.make ?_
  | with_reducible refine My.yes ?_
  | with_reducible refine My.part ?_
  | with_reducible refine My.partI ?_
  | with_reducible refine My.abs1 ?_
  | with_reducible refine My.sl ?_
  | with_reducible refine My.noPart ?_
  | with_reducible refine My.bm ?_
  | with_reducible refine My.pairs ?_
  | with_reducible refine My.pairs0 ?_
  | with_reducible refine My.forL1 ?_
  | with_reducible refine My.lcR1 ?_
  | with_reducible refine My.lcL1 ?_
  | ((with_reducible apply My.var); (next => exact rfl))
  | ((with_reducible apply My.name); (next => exact rfl))
  | ((with_reducible apply My.dgetS); (next => with_reducible first | exact L2.upd_same | assumption); (next => with_reducible first | exact K00.hk_great | exact K00.hk_at | exact K00.hk_seed | exact K00.hk_turn | exact K00.hk_cells))
  | ((with_reducible apply My.dputS); (next => with_reducible first | exact L2.upd_same | assumption); (next => exact K00.hk_len); (next => with_reducible first | exact K00.hp_great | exact K00.hp_at | exact K00.hp_seed | exact K00.hp_turn))
  | ((with_reducible apply My.modA); (next => omega); intro _ _ _)
  | ((with_reducible apply My.mulR); (next => omega); (next => omega))
  | ((with_reducible apply My.mulL); (next => omega); (next => omega))
  | ((with_reducible apply My.divP); (next => omega); (next => omega))
  | ((with_reducible apply My.powP); (next => exact ⟨by decide, by decide, by decide⟩))
  | ((with_reducible apply My.lenL); (next => with_reducible assumption))
  | with_reducible refine My.rEqI ?_
  | with_reducible refine My.rNeI ?_
  | with_reducible refine My.rI0_ ?_
  | with_reducible refine My.rU_ ?_
  | with_reducible refine My.int1 ?_
  | with_reducible refine My.bl ?_
  | with_reducible refine My.ite_t ?_
  | with_reducible refine My.ite_f ?_
  | with_reducible refine My.ite_nt ?_
  | with_reducible refine My.ite_nf ?_
  | dsimp only)
local macro_rules | `(tactic| walk_at "f") => `(tactic| repeat' (first | walk_at "s" | with_reducible refine My.ite_d (fun _ => ?_) (fun _ => ?_)))
local macro_rules | `(tactic| walk_at "w") => `(tactic| repeat (walk_at "s"))
namespace K00
open PySem PySem.Spec PyProof.Rows L2
/-- the drawing hand at d -/
structure Hand (K : PySem.W.Frag) (H : Hp) (d c : Addr) : Prop where
  ex : ∃ (cs : List Int) (at_ gr sd tn : Int), H d = some (.dK (hk c at_ gr sd tn)) ∧ SqL K H c (cs.map V.int) ∧ c ≠ d ∧ 0 ≤ at_
/-- all but d stands -/
def But (d : Addr) (H H' : Hp) : Prop := ∀ b o, b ≠ d → H b = some o → H' b = some o
theorem But.refl (d : Addr) (H : Hp) : But d H H := fun _ _ _ h => h
theorem But.trans {d : Addr} {H H1 H2 : Hp} (a : But d H H1) (b : But d H1 H2) : But d H H2 := fun x o n h => b x o n (a x o n h)
def spDraw (K : PySem.W.Frag) : Sp := fun vs H Q _ => ∃ (d c : Addr) (m : Int), vs = [.ref d, .int m] ∧ 0 < m ∧ m < 1073741824 ∧ Hand K H d c ∧
  ∀ (r : Int) (H' : Hp), 0 ≤ r → r < m → Hand K H' d c → But d H H' → (∀ b, H b = none → H' b = none) → Q (.int r) H'
structure Txt0 (mg : Str → Option Value) : Prop where
  len : mg "len" = none
  int : mg "int" = none
  abs : mg "abs" = none
  range : mg "range" = none
  isi : mg "isinstance" = none
  bool : mg "bool" = none
  tuple : mg "tuple" = none
  enum : mg "enumerate" = none
  verr : mg "ValueError" = none
theorem draw_end {K : PySem.W.Frag} {H : Hp} {d c : Addr} {cs : List Int} {o : HO} {a g s t : Int} (hd : H d = some o) (hc : SqL K H c (cs.map V.int)) (cd : c ≠ d) (a0 : 0 ≤ a) :
    Hand K (upd H d (.dK (hk c a g s t))) d c ∧ But d H (upd H d (.dK (hk c a g s t))) ∧ ∀ b, H b = none → upd H d (.dK (hk c a g s t)) b = none := by
  refine ⟨⟨cs, a, g, s, t, upd_same, ?_, cd, a0⟩, fun b o n e => ?_, fun b n => ?_⟩
  · rcases hc with h | h
    · refine .inl ?_
      rcases h with h | ⟨o, h⟩
      · exact .inl (by rw [upd_ne cd]; exact h)
      · exact .inr ⟨o, by rw [upd_ne cd]; exact h⟩
    · exact .inr h
  · rw [upd_ne n]; exact e
  · rw [upd_ne (fun z => by rw [z, hd] at n; cases n)]; exact n
theorem draw_q {K : PySem.W.Frag} {H : Hp} {d c : Addr} {cs : List Int} {o : HO} {a g s t m r : Int} {Q : VK} (k : ∀ (r : Int) (H' : Hp), 0 ≤ r → r < m → Hand K H' d c → But d H H' → (∀ b, H b = none → H' b = none) → Q (.int r) H') (hd : H d = some o) (hc : SqL K H c (cs.map V.int)) (cd : c ≠ d)
    (a0 : 0 ≤ a) (r0 : 0 ≤ r) (r1 : r < m) : Q (.int r) (upd H d (.dK (hk c a g s t))) := by
  obtain ⟨x1, x2, x3⟩ := draw_end (a := a) (g := g) (s := s) (t := t) hd hc cd a0
  exact k _ _ r0 r1 x1 x2 x3
section
variable {P : Program} {w : World} {K : PySem.W.Frag} {mg : Str → Option Value} {base : Heap}
abbrev nDraw : List Str := ["_law_hand_here", "_law_many", "_law_cell", "_law_digit", "_law_number"]
theorem sc_draw : FnScope nDraw ["_law_hand_here", "_law_many"] (defScope s_law_draw) := ⟨rfl, rfl, rfl, by decide +kernel, rfl, by decide +kernel, by decide +kernel⟩
theorem ok_draw {f : Addr} {fd : FuncData} (F : FnP K "_law_draw" "_law_draw" s_law_draw f fd) (T : Txt0 mg) : FnOk P w K mg base CX0 1 f fd ["_law_hand_here", "_law_many"] (spDraw K) := by
  refine F.ok sc_draw (fun vs H Q E h => ?_) (fun cdv A outer s H vs Q E hr h => ?_)
  · obtain ⟨d, c, m, rfl, _⟩ := h
    rfl
  · obtain ⟨d, c, m, rfl, m0, m1, ⟨cs, at_, gr, sd, tn, hd, hc, cd, a0⟩, k⟩ := h
    have hu := hu_of hr
    refine ⟨_, PSs.nox (pss_cons (ps_if (PW.pt (pw_and (pt_cmpR op_eq (pe_dget hu (pv 0) pe_str (fun _ _ => rfl)) pe_int (nomark _)) (pw_and1 (pt_cmpR op_lt (pe_dget hu (pv 0) pe_str (fun _ _ => rfl)) (pe_callB My.c_len (by rfl) T.len PySem.boot_len (pa_cons (pe_dget hu (pv 0) pe_str (fun _ _ => rfl)) pa_nil)) (nomark _)))))
        (pss_cons (ps_set (i := 2) sc_draw.nd rfl (Or.inl rfl) (pe_ix ix_list (pe_dget hu (pv 0) pe_str (fun _ _ => rfl)) (pe_dget hu (pv 0) pe_str (fun _ _ => rfl)) (fun _ _ => rfl)))
        (pss_cons (ps_dput hu (pv 0) pe_str (pe_op op_add (pe_dget hu (pv 0) pe_str (fun _ _ => rfl)) pe_int) rfl)
        (pss_cons (ps_dput hu (pv 0) pe_str (pe_op op_mod (pe_callTy My.c_int1 (by rfl) T.int boot_int (pa_cons (pe_op op_add (pe_op op_add (pe_op op_mul (pe_dget hu (pv 0) pe_str (fun _ _ => rfl)) pe_int) (pv 2)) pe_int) pa_nil)) pe_int) rfl)
        (pss_one (ps_if (pt_cmpR op_ge (pv 2) (pe_op op_pow pe_int pe_int) (nomark _)) (pss_one (ps_dput hu (pv 0) pe_str (pv 2) rfl)) pss_nil))))) pss_nil)
      (pss_cons (ps_if (pt_cmpR op_gt (pe_dget hu (pv 0) pe_str (fun _ _ => rfl)) pe_int (nomark _))
        (pss_cons (ps_set (i := 3) sc_draw.nd rfl (Or.inl rfl) (pe_op op_mod (pe_callTy My.c_int1 (by rfl) T.int boot_int (pa_cons (pe_dget hu (pv 0) pe_str (fun _ _ => rfl)) pa_nil)) (pv 1)))
        (pss_cons (ps_dput hu (pv 0) pe_str (pe_op op_fdiv (pe_dget hu (pv 0) pe_str (fun _ _ => rfl)) (pv 1)) rfl)
        (pss_one (ps_ret (pv 3))))) pss_nil)
      (pss_cons (ps_dput hu (pv 0) pe_str (pe_op op_add (pe_dget hu (pv 0) pe_str (fun _ _ => rfl)) pe_int) rfl)
      (pss_cons (ps_set (i := 4) sc_draw.nd rfl (Or.inl rfl) (pe_op op_mod (pe_callTy My.c_int1 (by rfl) T.int boot_int (pa_cons (pe_op op_mul (pe_callTy My.c_int1 (by rfl) T.int boot_int (pa_cons (pe_op op_add (pe_op op_add (pe_dget hu (pv 0) pe_str (fun _ _ => rfl)) pe_int) (pe_op op_mul pe_int (pe_dget hu (pv 0) pe_str (fun _ _ => rfl)))) pa_nil)) pe_int) pa_nil)) pe_int))
      (pss_cons (ps_set (i := 4) sc_draw.nd rfl (Or.inl rfl) (pe_op op_mod (pe_callTy My.c_int1 (by rfl) T.int boot_int (pa_cons (pe_op op_mul (pv 4) (pe_op op_add (pe_op op_fdiv (pv 4) pe_int) pe_int)) pa_nil)) pe_int))
      (pss_cons (ps_set (i := 4) sc_draw.nd rfl (Or.inl rfl) (pe_op op_mod (pe_callTy My.c_int1 (by rfl) T.int boot_int (pa_cons (pe_op op_mul (pv 4) (pe_op op_add (pe_op op_fdiv (pv 4) pe_int) pe_int)) pa_nil)) pe_int))
      (pss_one (ps_ret (pe_op op_mod (pe_callTy My.c_int1 (by rfl) T.int boot_int (pa_cons (pe_op op_fdiv (pv 4) pe_int) pa_nil)) (pv 1)))))))))), ?_⟩
    dsimp only [cxOf, Cx.nox, Cx.wish]
    walk_at "f"
    · rename_i h1 h2
      obtain ⟨v, e, hm⟩ := My.atI_of (xs := cs.map V.int) a0 h2
      obtain ⟨z, _, rfl⟩ := List.mem_map.mp hm
      refine My.ixL hc e ?_
      walk_at "f"
      all_goals
        simp only [upd_upd]
        exact draw_q k hd hc cd (by omega) (by assumption) (by assumption)
    all_goals exact draw_q k hd hc cd a0 (by assumption) (by assumption)
end
end K00

set_option Elab.async false
set_option linter.all false
set_option maxRecDepth 100000
set_option maxHeartbeats 4000000
/-! exceptions as values: made, asked for their class, a field read -/
namespace XV
open PySem PySem.Spec PyProof.Rows L2
/-- an exception at a, of the class at C, made by an own __init__, its one field f holding y -/
def ErrF (H : Hp) (a C : Addr) (f : Str) (y : V) : Prop := ∃ d, H a = some (exo a C (some d)) ∧ H d = some (exd d [(f, y)])
/-- an exception at a without fields -/
def ErrN (H : Hp) (a C : Addr) : Prop := H a = some (ExO (.ref C) a)
theorem exo_inst {P : Program} {w : World} {H : Hp} {h : Heap} {a C d : Addr} {f : Str} {y : V} (ok : HOk P w H h) (ha : H a = some (exo a C (some d))) (hd : H d = some (exd d [(f, y)])) :
    ∃ ox od, PySem.W.InstAt h a ox C (some od) ∧ ∃ u, PySem.W.lookIn f od = some (some u) ∧ RelV y u := by
  obtain ⟨t1, ho⟩ := exo_at ok ha
  obtain ⟨mA, hns, rel⟩ := exd_at ok hd
  obtain ⟨od, hod, hl⟩ := lookIn_ns hns
  have l : List.lookup f [(f, y)] = some y := by simp [List.lookup]
  obtain ⟨u, hu, ru⟩ := RelO.some_of (v := y) (o := mA f) (by rw [← l]; exact rel f)
  exact ⟨_, od, ⟨ho, rfl, rfl, hod⟩, u, by rw [hl, hu], ru⟩
section
variable {X : Cx} {e : Expr} {es : List Expr} {te : TE} {ta : TA} {x : Str} {p pos : Pos} {C fI : Addr} {fd : FuncData} {ps : List Str} {sp : Sp} {k : Nat} {CX : CXT}
/-- C(e, ..) -/
def tMkX (C : Addr) (sp : Sp) (ta : TA) : TE := fun σ H Q => ta σ H fun vs H1 => vs.length ≤ 1000 ∧ ∀ a, H1 a = none → sp (.ref a :: vs) (upd H1 a (exo a C none)) (fun v H2 => v = .non ∧ Q (.ref a) H2) (fun _ _ _ => False)
theorem pe_mkX (T : OexC X.K C) (iC : PySem.W.findIn X.K (.ref C) "__init__" = some (some (.ref fI))) (tI : PySem.W.typeIn X.K (.ref fI) = some (.type "function"))
    (F1 : FnOk X.prog X.w X.K X.mg X.base CX k fI fd ps sp) (hr : Room (k + 1) X.A) (hb : Binds X.K fd ps []) (hx : Passes CX X (fun _ _ _ => False)) (hg : Gl X x) (hm : X.mg x = some (.ref C)) (ha : PA X (e :: es) ta)
    (hdb : (x == ("__debug__" : Str)) = false := by decide) (he : starEach (e :: es) X.env = (false, eval e X.env) :: starEach es X.env := by rfl) (hpl : (backTo pos (starEach es X.env)).any (·.1) = false := by rfl) :
    PE X (.Call (.Name x p) (e :: es) [] pos) (tMkX C sp ta) := by
  refine ⟨fun pins s σ H Q I h => ?_⟩
  have TC := T.cls; obtain ⟨_, _, _, _, bm, _, _, _, _, _, _, _, _, _, _, hC, hbm⟩ := TC
  refine wpAny_Call_Name_kw (ld_glob I hg hm ?_ hdb)
  refine PySem.W.callWith_K (h₀ := X.base) I.ok.mod.kin T.kC (thn (ha.run pos pins s σ H _ I h) fun us s1 ⟨vs, H1, I1, r1, hz, q1⟩ => ⟨I1.kIn, ?_⟩) he hpl
  show wpAny _ _ (call (.ref C) us) _ _ _
  obtain ⟨hp, g, dr, tk, os⟩ := s1
  have hsz : hp.objs.size ≤ hp.objs.size + 1 := Nat.le_succ _
  have hn : H1 (hp.objs.size + 1) = none := I1.hok.fresh hsz
  have hq := q1 (hp.objs.size + 1) hn
  have kk : ∀ b o, hp.get? b = some o → ((hp.push (PySem.W.kdv_tup us)).push (PySem.HandSPX.excO C hp.objs.size)).get? b = some o := fun b o e => Heap.get?_push_of_some _ (Heap.get?_push_of_some _ e)
  have hget : ((hp.push (PySem.W.kdv_tup us)).push (PySem.HandSPX.excO C hp.objs.size)).get? (hp.objs.size + 1) = some (PySem.HandSPX.excO C hp.objs.size) := by heap_get
  have I2 : Inv X pins σ (upd H1 (hp.objs.size + 1) (exo (hp.objs.size + 1) C none)) ⟨(hp.push (PySem.W.kdv_tup us)).push (PySem.HandSPX.excO C hp.objs.size), g, dr, tk, os⟩ :=
    I1.laid (t' := tk) (a := hp.objs.size + 1) (o := exo (hp.objs.size + 1) C none) (h' := (hp.push (PySem.W.kdv_tup us)).push (PySem.HandSPX.excO C hp.objs.size)) kk hsz (exo_ok hget)
  have r2 : Vals (V.ref (hp.objs.size + 1) :: vs) (Value.ref (hp.objs.size + 1) :: us) := .cons rfl r1
  have hl : (Value.ref (hp.objs.size + 1) :: us ++ ([] : List Value)).length = ps.length := by
    have e := r2.length
    rw [F1.len _ _ _ _ hq] at e
    simpa using e.symm
  have hus : us.length ≤ sizeLine := by
    rw [← Paired.length r1, sizeLine_eq]
    omega
  have hb2 := hb ⟨(hp.push (PySem.W.kdv_tup us)).push (PySem.HandSPX.excO C hp.objs.size), g, dr, tk, os⟩ (Value.ref (hp.objs.size + 1) :: us) I2.kIn hl
  rw [List.append_nil] at hb2
  refine wpAny_call (PySem.HandSPX.call_own F.excBase_ValueError (fun Y => PySem.HandSPX.refsVE_contains Y bm hbm) (I1.kIn _ _ hC) (PySem.W.looks_findIn I1.kIn iC) (fun self => PySem.W.bind_fn I1.kIn self tI) hus
    (codeAny_mono (F1.run _ X.stack _ _ ⟨Value.ref (hp.objs.size + 1) :: us, []⟩ (Value.ref (hp.objs.size + 1) :: us) _ _ (fun _ _ _ => False) (hr.make C us []) (I2.env0.make C us []) hb2 r2 hq) fun r s' hq' => ?_))
  cases r with
  | error er => exact hx pins σ _ _ er s' I2 hq'
  | ok fl =>
    cases fl with
    | ret u =>
      obtain ⟨v, H', I3, rv, ev, q3⟩ := I2.after hq'
      subst ev
      exact ⟨rv, ⟨V.ref (hp.objs.size + 1), H', I3, rfl, q3⟩⟩
    | next => exact False.elim hq'
    | brk => exact False.elim hq'
    | cont => exact False.elim hq'
/-- C(), C an own exception class without own __init__ -/
def tMk0 (C : Addr) : TE := fun _ H Q => ∀ a, H a = none → Q (.ref a) (upd H a (ExO (.ref C) a))
theorem pe_mk0 {bmB : List Value} {B newId initId : String} (F : ExcBaseFacts B newId initId bmB) (q : PySem.W.excIn X.K C bmB newId = true) (gC : X.mg x = some (.ref C)) (kC : PySem.W.keepIn X.K (.ref C) = true) (hg : Gl X x)
    (hdb : (x == ("__debug__" : Str)) = false := by decide) : PE X (.Call (.Name x p) [] [] pos) (tMk0 C) := by
  refine ⟨fun pins s σ H Q I h => ?_⟩
  refine wpAny_Call_Name_kw (ld_glob I hg gC ?_ hdb)
  refine PySem.W.callWith_K0 I.kIn kC ?_
  show wpAny _ _ (call (.ref C) []) _ _ _
  obtain ⟨bm, N, nm, qn, bs, hdct, sn, sub, ab, col, dd, k0, k1, k2, k3, k5, mN, hC, hN, hni, T⟩ := exc_obj I.kIn q
  refine wpAny_call_exc_subT F T hC hN hni (fun h' a hm => ?_) (Nat.zero_le _)
  have hn : H a = none := I.hok.gone hm.new
  obtain ⟨t, ht, _, _⟩ := hm.there
  exact ⟨.ref a, upd H a (ExO (.ref C) a), I.laidN hm.keeps hm.new hn (exO_ok ht ⟨rfl, rfl⟩ rfl rfl rfl (show 4 < 6 by decide)), rfl, h a hn⟩
/-- isinstance(e, c), e an exception that is held -/
def rIsX (K : PySem.W.Frag) : List V → Hp → VK → Prop := fun xs H Q => ∃ (a C : Addr) (c : V) (cv : Value) (b : Bool), xs = [.ref a, c] ∧ ((∃ f y, ErrF H a C f y) ∨ ErrN H a C) ∧ ExcC K C ∧ (∀ u, RelV c u → u = cv) ∧ PySem.W.kitOne K (.ref C) cv = some b ∧ Q (.bl b) H
theorem call_isX : CallR X (.builtin "isinstance") (rIsX X.K) := by
  intro pins s σ H xs us Q I r h
  obtain ⟨a, C, c, cv, b, rfl, he, G, hcv, e, q⟩ := h
  cases r with
  | cons rx rr =>
    cases rr with
    | cons rt rr =>
      cases rr
      cases rx
      have ec := hcv _ rt
      subst ec
      rcases he with ⟨f, y, d, ha, hd⟩ | ha
      · obtain ⟨ox, od, J, _⟩ := exo_inst I.hok ha hd
        have hcl : (PySem.W.clsIn X.K C).isSome = true := by
          obtain ⟨z, hz, _⟩ := PySem.W.any_some G.hd
          rw [hz]; rfl
        exact PySem.W.kia_one (PySem.W.kitx_exc (ox := ox) (od := some od) hcl G.hg G.hk G.hs G.ha G.hn G.ht G.hm) I.kIn J e (fun z => nomatch z) fun tk => ⟨.bl b, H, I.kept (t' := tk) fun _ _ z => z, rfl, q⟩
      · obtain ⟨⟨oe, vs, ho, hz, hdt, _⟩, _, _⟩ := I.hok a _ ha
        have J : PySem.W.InstAt s.heap a oe C none := by
          obtain ⟨oc, od, oda, osl⟩ := oe
          obtain ⟨h1, h2⟩ := hz
          dsimp only at h1 h2 hdt
          subst h1 h2 hdt
          exact ⟨ho, rfl, rfl, trivial⟩
        exact PySem.W.kia_one (PySem.W.handS_kitx_exc G.hg G.hk G.hs G.hd G.ha G.hn G.ht G.hm) I.kIn J e (fun z => nomatch z) fun tk => ⟨.bl b, H, I.kept (t' := tk) fun _ _ z => z, rfl, q⟩
/-- e.f, e an exception that is held -/
def tFldX (K : PySem.W.Frag) (f : Str) (te : TE) : TE := fun σ H Q => te σ H fun x H1 => ∃ a C y, x = .ref a ∧ ErrF H1 a C f y ∧ ExcC K C ∧ PySem.W.findIn K (.ref C) f = some none ∧ Q y H1
theorem pe_fldX {f : Str} (he : PE X e te) (hb : attributeBase e f X.env (eval e X.env) = eval e X.env := by rfl) : PE X (.Attribute e f pos) (tFldX X.K f te) := by
  refine ⟨fun pins s σ H Q I h => ?_⟩
  refine attr_of hb (thn (he.run pins s σ H _ I h) fun u s1 hh => ?_)
  obtain ⟨x, H1, I1, rx, a, C, y, ex, ⟨d, ha, hd⟩, G, noN, q⟩ := hh
  subst ex
  obtain rfl : u = Value.ref a := rx
  obtain ⟨ox, od, J, v, hl, rv⟩ := exo_inst I1.hok ha hd
  exact HandSPX.exc_get I1.kIn J G.hg G.hk G.hs (PySem.W.findObj_own G.hd noN rfl hl) (handed_of rv) ⟨y, H1, I1.tok _, rv, q⟩

/-! ### == of a value with itself -/
theorem op_or {f : Value → Value → Sem Value} {r r' : R2} (h : OpR X f r) (h' : OpR X f r') : OpR X f (fun x y H Q => r x y H Q ∨ r' x y H Q) := by
  intro pins s σ H a b u v Q I ra rb q
  rcases q with q | q
  · exact h pins s σ H a b u v Q I ra rb q
  · exact h' pins s σ H a b u v Q I ra rb q
def DElem : Eqv := fun x y _ => x = y ∧ (flatB x = true ∨ ∃ a, x = .ref a)
theorem mon_elem : Mon DElem := fun _ _ _ _ _ d => d
theorem eqG_elem {n : Nat} : EqG X n DElem := by
  intro A pins s σ H x y u v sb I rx ry d
  obtain ⟨rfl, d⟩ := d
  rcases d with d | ⟨a, rfl⟩
  · exact eqAt_same (A := A) (s := s) rx ry d X.prog X.w X.xe _ ⟨rfl, H, I, Ext.rfl'⟩
  · cases rx
    cases ry
    exact SeqAt.EqAt.same (A := A) (s := s) (.ref a) X.prog X.w X.xe _ ⟨rfl, H, I, Ext.rfl'⟩
/-- what can be seen to be equal to itself -/
def Own (v : V) : Prop := flatB v = true ∨ ∃ a, v = .ref a
inductive SelfV (K : PySem.W.Frag) (H : Hp) (P : Addr → Hp → Prop) : V → Prop where
  | flat {v : V} (h : scal v v = true) : SelfV K H P v
  | lst {a : Addr} {xs : List V} (h : SqL K H a xs) (o : ∀ v ∈ xs, Own v) : SelfV K H P (.ref a)
  | tup {a : Addr} {xs : List V} (h : SqT K H a xs) (o : ∀ v ∈ xs, Own v) : SelfV K H P (.ref a)
  | dic {a : Addr} {ks : List (Key × V)} (h : H a = some (.dK ks)) (nd : (ks.map (·.1)).Nodup) (o : ∀ p ∈ ks, Own p.2) : SelfV K H P (.ref a)
  | ins {a : Addr} (h : P a H) : SelfV K H P (.ref a)
def rSelf (K : PySem.W.Frag) (D : Eqv) : R2 := fun x y H Q => rEq x y H Q ∨ rEqV K x y H Q ∨ rEqG (DTup K DElem) x y H Q ∨ rEqG D x y H Q
theorem op_self {n : Nat} {D : Eqv} (hr : Room (n + 1) X.A) (h : RcG X n D) : OpR X (compareOp .Eq) (rSelf X.K D) :=
  op_or op_eq (op_or (op_eqV hr.units) (op_or (op_eqG (rcG_tup mon_elem (eqG_elem (n := n))) hr) (op_eqG h (hr.mono (Nat.le_succ n)))))
theorem paired_own {F : V → V → Prop} (h : ∀ v, Own v → F v v) : ∀ {xs : List V}, (∀ v ∈ xs, Own v) → Paired F xs xs
  | [], _ => .nil
  | v :: xs, o => .cons (h v (o v List.mem_cons_self)) (paired_own h fun w hw => o w (List.mem_cons_of_mem _ hw))
theorem eqV_own {K : PySem.W.Frag} {H : Hp} {v : V} (o : Own v) : EqV K H 1 v v := by
  rcases o with o | ⟨a, rfl⟩
  · exact .inl ⟨rfl, o⟩
  · exact .inr (.inl ⟨a, rfl, rfl⟩)
theorem find_nodup {α β : Type} [DecidableEq α] : ∀ {ks : List (α × β)}, (ks.map (·.1)).Nodup → ∀ p ∈ ks, ks.find? (fun q => decide (q.1 = p.1)) = some p
  | [], _, p, hp => by cases hp
  | q :: ks, nd, p, hp => by
    rw [List.map_cons, List.nodup_cons] at nd
    by_cases e : q.1 = p.1
    · rcases List.mem_cons.mp hp with rfl | hm
      · simp
      · exact absurd (List.mem_map.mpr ⟨p, hm, e.symm⟩) nd.1
    · rw [List.find?_cons]
      have d : decide (q.1 = p.1) = false := decide_eq_false e
      rw [d]
      rcases List.mem_cons.mp hp with rfl | hm
      · exact absurd rfl e
      · exact find_nodup nd.2 p hm
theorem self_eq {K : PySem.W.Frag} {H : Hp} {v : V} {D : Eqv} {P : Addr → Hp → Prop} {Q : VK} (s : SelfV K H P v) (hP : ∀ a, P a H → D (.ref a) (.ref a) H) (q : ∀ H', Ext H H' → Q (.bl true) H') : rSelf K D v v H Q := by
  have q0 := q H Ext.rfl'
  cases s with
  | flat h => exact .inl ⟨h, by rw [decide_eq_true rfl]; exact q0⟩
  | @lst a xs h o => exact .inr (.inl ⟨1, by decide, .inl ⟨a, a, xs, xs, rfl, rfl, h, h, paired_own (fun v => eqV_own) o⟩, q0⟩)
  | @tup a xs h o => exact .inr (.inr (.inl ⟨⟨a, a, xs, xs, rfl, rfl, h, h, rfl, fun i x y e1 e2 => by
      rw [e1] at e2
      cases e2
      exact ⟨rfl, o x (List.mem_of_getElem? e1)⟩⟩, q⟩))
  | @dic a ks h nd o => exact .inr (.inl ⟨1, by decide, .inr ⟨a, a, ks, ks, rfl, rfl, h, h, rfl, fun p hp => ⟨p.2, by unfold valV; rw [find_nodup nd p hp]; rfl, eqV_own (o p hp)⟩⟩, q0⟩)
  | @ins a h => exact .inr (.inr (.inr ⟨hP a h, q⟩))

/-! ### within a suite: the exception that is held -/
/-- isinstance(e, c) -/
def rIsS (K : PySem.W.Frag) (a : Addr) (cls : Value) (d : Option Addr) : List V → Hp → VK → Prop := fun xs H Q => ∃ (D dd : Addr) (fs : List (Str × V)) (c : V) (cv : Value) (b : Bool), xs = [.ref a, c] ∧ cls = .ref D ∧ d = some dd ∧ H dd = some (.xd fs) ∧ ExcC K D ∧
  (∀ u, RelV c u → u = cv) ∧ PySem.W.kitOne K (.ref D) cv = some b ∧ Q (.bl b) H
theorem suite_inst {pins pn : List (Addr × Obj)} {σ : L2.St} {H : Hp} {s : Shared} {a D dd : Addr} {oe : Obj} {fs : List (Str × V)} (hz : Zc (.ref D) (some dd) oe) (hf : ∃ vs, oe.data = .fields vs) (I : Inv (X.suite a ((a, oe) :: pn)) pins σ H s) (hx : H dd = some (.xd fs)) :
    ∃ od, PySem.W.InstAt s.heap a oe D (some od) ∧ ∀ f y, fs.lookup f = some y → ∃ u, PySem.W.lookIn f od = some (some u) ∧ RelV y u := by
  obtain ⟨ho, _⟩ := I.pin (a, oe) (List.mem_append_left _ List.mem_cons_self)
  obtain ⟨vs, hv⟩ := hf
  have ox : ObjOk X.prog X.w H s.heap dd (.xd fs) := I.hok dd _ hx
  obtain ⟨mA, hns, rel⟩ := ox
  obtain ⟨od, hod, hl⟩ := lookIn_ns hns
  refine ⟨od, ⟨ho, hz.1, by unfold PySem.W.notCls; rw [hv] <;> rfl, by rw [hz.2]; exact hod⟩, fun f y e => ?_⟩
  obtain ⟨u, hu, ru⟩ := RelO.some_of (v := y) (o := mA f) (by rw [← e]; exact rel f)
  exact ⟨u, by rw [hl, hu], ru⟩
theorem call_isS {a : Addr} {oe : Obj} {cls : Value} {d : Option Addr} {pn : List (Addr × Obj)} (hz : Zc cls d oe) (hf : ∃ vs, oe.data = .fields vs) : CallR (X.suite a ((a, oe) :: pn)) (.builtin "isinstance") (rIsS X.K a cls d) := by
  intro pins s σ H xs us Q I r h
  obtain ⟨D, dd, fs, c, cv, b, rfl, rfl, rfl, hx, G, hcv, e, q⟩ := h
  obtain ⟨u1, u2, rfl, r1, r2⟩ := vals2 r
  cases r1
  obtain rfl := hcv _ r2
  obtain ⟨od, J, _⟩ := suite_inst hz hf I hx
  have hcl : (PySem.W.clsIn X.K D).isSome = true := by
    obtain ⟨z, hz, _⟩ := PySem.W.any_some G.hd
    rw [hz]; rfl
  exact PySem.W.kia_one (PySem.W.kitx_exc (ox := oe) (od := some od) hcl G.hg G.hk G.hs G.ha G.hn G.ht G.hm) I.kIn J e (fun z => nomatch z) fun tk => ⟨.bl b, H, I.kept (t' := tk) fun _ _ z => z, rfl, q⟩
/-- e.f -/
def tFldS (K : PySem.W.Frag) (a : Addr) (cls : Value) (d : Option Addr) (f : Str) (te : TE) : TE := fun σ H Q => te σ H fun x H1 => ∃ (D dd : Addr) (fs : List (Str × V)) (y : V), x = .ref a ∧ cls = .ref D ∧ d = some dd ∧ H1 dd = some (.xd fs) ∧ fs.lookup f = some y ∧ ExcC K D ∧
  PySem.W.findIn K (.ref D) f = some none ∧ Q y H1
theorem pe_fldS {f : Str} {a : Addr} {oe : Obj} {cls : Value} {d : Option Addr} {pn : List (Addr × Obj)} (hz : Zc cls d oe) (hf : ∃ vs, oe.data = .fields vs) (he : PE (X.suite a ((a, oe) :: pn)) e te)
    (hb : attributeBase e f X.env (eval e X.env) = eval e X.env := by rfl) : PE (X.suite a ((a, oe) :: pn)) (.Attribute e f pos) (tFldS X.K a cls d f te) := by
  refine ⟨fun pins s σ H Q I h => ?_⟩
  refine attr_of hb (thn (he.run pins s σ H _ I h) fun u s1 hh => ?_)
  obtain ⟨x, H1, I1, rx, D, dd, fs, y, rfl, rfl, rfl, hx, hy, G, noN, q⟩ := hh
  obtain rfl : u = Value.ref a := rx
  obtain ⟨od, J, hl⟩ := suite_inst hz hf I1 hx
  obtain ⟨v, hv, rv⟩ := hl f y hy
  exact HandSPX.exc_get I1.kIn J G.hg G.hk G.hs (PySem.W.findObj_own G.hd noN rfl hv) (handed_of rv) ⟨y, H1, I1.tok _, rv, q⟩
/-- xs.count(True) -/
def rCntT (K : PySem.W.Frag) : V → List V → Hp → VK → Prop := fun x xs H Q => ∃ (p : Addr) (bs : List Bool) (k : Bool), x = .ref p ∧ xs = [.bl k] ∧ SqL K H p (bs.map V.bl) ∧ Q (.int (bs.count k : Nat)) H
theorem bools_of {bs : List Bool} : ∀ {us : List Value}, Vals (bs.map V.bl) us → us = bs.map Value.bool := by
  induction bs with
  | nil => intro us h; cases h; rfl
  | cons b bs ih =>
    intro us h
    cases h with
    | cons h1 h2 =>
      rw [ih h2, show _ = Value.bool b from h1]
      rfl
theorem countP_bool {k : Bool} {e : Value → Bool} (he : ∀ b, e (Value.bool b) = (b == k)) : ∀ bs : List Bool, (bs.map Value.bool).countP e = bs.count k
  | [] => rfl
  | b :: bs => by
    rw [List.map_cons, List.countP_cons, countP_bool he bs, List.count_cons, he b]
theorem mt_countT : MtR X "list.count" (rCntT X.K) := by
  intro pins s σ H x xs v us Q I rx rs h
  obtain ⟨p, bs, k, rfl, rfl, hs, q⟩ := h
  cases rx
  obtain ⟨u, rfl, ru⟩ := rs.one
  cases ru
  obtain ⟨its, rv, ⟨⟨oc, od, dt, sl⟩, n, ho, h1, h2, h3⟩, hlen⟩ := I.list hs
  simp only at h1 h3
  subst h1 h3
  have hi := bools_of rv
  subst hi
  let e : Value → Bool := fun v => match v with
    | .bool b => b == k
    | _ => false
  have he : ∀ b, e (Value.bool b) = (b == k) := fun _ => rfl
  refine call_meets PySem.F.slot_list_count ⟨_, ho, rfl⟩ PySem.F.entry_list_count (PySem.F.args_list_count_2 _ _) (SeqAt.list_countAt p (bs.map Value.bool).toArray n od sl (.bool k) e) ⟨ho, fun y hy => ?_, ?_⟩
  · obtain ⟨b, _, rfl⟩ := List.mem_map.mp (show y ∈ bs.map Value.bool from List.mem_toArray.mp hy)
    have z := eqAt_V (A := X.A.in1) (s := s) (x := .bl k) (y := .bl b) rfl rfl rfl rfl
    exact z
  · refine ⟨.int (bs.count k : Nat), H, I.tok _, ⟨s.toks, ?_⟩, q⟩
    have ec : (bs.map Value.bool).toArray.toList.countP e = bs.count k := countP_bool he bs
    show Value.int (((bs.map Value.bool).toArray.toList.countP e : Nat) : Int) s.toks = Value.int ((bs.count k : Nat) : Int) s.toks
    rw [ec]
end
end XV

set_option Elab.async false
set_option linter.all false
set_option maxRecDepth 100000
set_option maxHeartbeats 4000000
/-! what the head must say of error classes, as booleans over the written part -/
namespace XF
open PySem PySem.Spec PyProof.Rows L2 He
/-- the class at C is an exception class over ValueError (its line of classes: own ones, then ValueError's) -/
def clsB (K : PySem.W.Frag) (C : Addr) : Bool := match K.lookup C with
  | some ⟨.type "type", _, .cls cd, sl⟩ => (match cd.mro, sl.toList with
    | .ref D :: bm, [_, _, _, _, some (.builtin n), _] => D == C && (n == "ValueError.__new__" && (!cd.hasDel && (cd.hasDict && PySem.HandSPX.refsVE bm)))
    | _, _ => false)
  | _ => false
theorem clsB_ok {K : PySem.W.Frag} {C : Addr} (h : clsB K C = true) : ∃ nm q N bs bm sn sub ab col dd k0 k1 k2 k3 k5, K.lookup C = some (excClassObj nm q C N bs bm true sn sub ab col dd k0 k1 k2 k3 k5 "ValueError.__new__") ∧ PySem.HandSPX.refsVE bm = true := by
  unfold clsB at h
  split at h
  · rename_i dd cd sl lk
    split at h
    · rename_i D bm k0 k1 k2 k3 n k5 hm hs
      simp only [Bool.and_eq_true, beq_iff_eq, Bool.not_eq_true'] at h
      obtain ⟨rfl, rfl, hdel, hdct, hb⟩ := h
      obtain ⟨nm, bs, mro, ns, qn, hd, sn, sub, ab, col, del⟩ := cd
      dsimp only at hm hdel hdct
      subst hm hdel hdct
      obtain ⟨l⟩ := sl
      dsimp only at hs
      subst hs
      exact ⟨nm, qn, ns, bs, bm, sn, sub, ab, col, dd, k0, k1, k2, k3, k5, lk, hb⟩
    · cases h
  · cases h
/-- what is asked of every error class x -/
def errB (K : PySem.W.Frag) (x : Str) : Bool :=
  eqO (PySem.W.nsIn K mainGlobals x) (some (some (.ref (ga K x)))) && (clsB K (ga K x) && (eqO (PySem.W.findIn K (.ref (ga K x)) "__setattr__") (some (some (.builtin "object.__setattr__"))) &&
  (decide (PySem.W.subIn K (.ref (ga K x)) (.type "BaseException") = some true) && (decide (PySem.W.typeIn K (.ref (ga K x)) = some (.type "type")) && (PySem.W.keepIn K (.ref (ga K x)) &&
  (eqO (PySem.W.findIn K (.ref (ga K x)) "__getattribute__") (some (some (.builtin "BaseException.__getattribute__"))) && (eqO (PySem.W.findIn K (.ref (ga K x)) "__getattr__") (some none) && (PySem.W.hasDictIn K (ga K x) &&
  (eqO (PySem.W.findIn K (.ref (ga K x)) "__class__") (some (some (.builtin "object.__class__"))) && (eqO (PySem.W.specialIn K (.builtin "object.__class__") "__get__") (some (some (.builtin "getset_descriptor.__get__"))) &&
  (decide (PySem.W.takesIn K (.builtin "object.__class__") = some true) && decide (PySem.W.mroIn K (ga K x) (.type "object") = some true))))))))))))
structure Err (K : PySem.W.Frag) (mg : Str → Option Value) (x : Str) : Prop where
  g : mg x = some (.ref (ga K x))
  ox : OexC K (ga K x)
  ex : ExcC K (ga K x)
theorem errB_ok {K : PySem.W.Frag} {h : Heap} {mg : Str → Option Value} (X : K.In h) (G : h.Ns mainGlobals mg) {x : Str} (c : errB K x = true) : Err K mg x := by
  obtain ⟨c1, c⟩ := ba c
  obtain ⟨c2, c⟩ := ba c
  obtain ⟨c3, c⟩ := ba c
  obtain ⟨c4, c⟩ := ba c
  obtain ⟨c5, c⟩ := ba c
  obtain ⟨c6, c⟩ := ba c
  obtain ⟨c7, c⟩ := ba c
  obtain ⟨c8, c⟩ := ba c
  obtain ⟨c9, c⟩ := ba c
  obtain ⟨d1, c⟩ := ba c
  obtain ⟨d2, c⟩ := ba c
  obtain ⟨d3, d4⟩ := ba c
  exact ⟨PySem.W.mg_of X G (eqO_ok c1), ⟨clsB_ok c2, eqO_ok c3, of_decide_eq_true c4, of_decide_eq_true c5, c6⟩, ⟨eqO_ok c7, eqO_ok c8, of_decide_eq_true c4, c9, eqO_ok d1, eqO_ok d2, of_decide_eq_true d3, of_decide_eq_true d4⟩⟩
/-- a class with an own __init__ that stores the field f; a class without -/
def fldB (K : PySem.W.Frag) (x f : Str) : Bool := eqO (PySem.W.findIn K (.ref (ga K x)) f) (some none) && (eqO (PySem.W.findIn K (.ref (ga K x)) "__init__") (some (some (.ref (ma K (ga K x) "__init__")))) && decide (PySem.W.typeIn K (.ref (ma K (ga K x) "__init__")) = some (.type "function")))
def plnB (K : PySem.W.Frag) (x : Str) : Bool := PySem.W.excIn K (ga K x) veBase "ValueError.__new__"
structure Fld (K : PySem.W.Frag) (x f : Str) : Prop where
  no : PySem.W.findIn K (.ref (ga K x)) f = some none
  ini : PySem.W.findIn K (.ref (ga K x)) "__init__" = some (some (.ref (ma K (ga K x) "__init__")))
  ty : PySem.W.typeIn K (.ref (ma K (ga K x) "__init__")) = some (.type "function")
theorem fldB_ok {K : PySem.W.Frag} {x f : Str} (c : fldB K x f = true) : Fld K x f := by
  obtain ⟨c1, c⟩ := ba c
  obtain ⟨c2, c3⟩ := ba c
  exact ⟨eqO_ok c1, eqO_ok c2, of_decide_eq_true c3⟩
/-- which class is which: isinstance of an instance of x and the class y -/
def isB (K : PySem.W.Frag) (x y : Str) (b : Bool) : Bool := decide (PySem.W.kitOne K (.ref (ga K x)) (.ref (ga K y)) = some b)
end XF

set_option Elab.async false
set_option linter.all false
set_option maxRecDepth 100000
set_option maxHeartbeats 4000000
namespace K00
open PySem PySem.Spec PyProof.Rows L2 XV
/-! ### heaps -/
theorem same_new {H : Hp} {p : Addr} {o : HO} (h : H p = none) : Same H (upd H p o) := fun b u e => by
  rw [upd_ne (ne_of_none e h)]; exact e
theorem Same.but {d : Addr} {H H' : Hp} (s : Same H H') : But d H H' := fun b o _ e => s b o e
theorem Hand.same {K : PySem.W.Frag} {H H' : Hp} {d c : Addr} (h : Hand K H d c) (s : Same H H') : Hand K H' d c := by
  obtain ⟨cs, a, g, sd, tn, hd, hc, cd, a0⟩ := h
  exact ⟨cs, a, g, sd, tn, s _ _ hd, s.seq hc, cd, a0⟩
theorem Hand.dk {K : PySem.W.Frag} {H : Hp} {d c : Addr} (h : Hand K H d c) : ∃ kvs, H d = some (.dK kvs) := by
  obtain ⟨cs, a, g, sd, tn, hd, _⟩ := h
  exact ⟨_, hd⟩
theorem But.list {K : PySem.W.Frag} {H H' : Hp} {d c p : Addr} {xs : List V} (b : But d H H') (h : Hand K H d c) (l : SqL K H p xs) : SqL K H' p xs := by
  obtain ⟨kvs, hd⟩ := h.dk
  have ne : ∀ o, H p = some o → (∀ ks, o ≠ .dK ks) → p ≠ d := fun o e n z => by
    rw [z, hd] at e
    exact n kvs (Option.some.inj e).symm
  rcases l with (l | ⟨o, l⟩) | l
  · exact .inl (.inl (b _ _ (ne _ l (fun ks z => by cases z)) l))
  · exact .inl (.inr ⟨o, b _ _ (ne _ l (fun ks z => by cases z)) l⟩)
  · exact .inr l
theorem But.obj {K : PySem.W.Frag} {H H' : Hp} {d c p : Addr} {o : HO} (b : But d H H') (h : Hand K H d c) (e : H p = some o) (n : ∀ ks, o ≠ .dK ks) : H' p = some o := by
  obtain ⟨kvs, hd⟩ := h.dk
  exact b _ _ (fun z => by rw [z, hd] at e; exact n kvs (Option.some.inj e).symm) e
/-! ### things of the menu -/
/-- a Poly whose terms are () -/
def Nought (C : Addr) (a : Addr) (H : Hp) : Prop := ∃ dx t, H a = some (.ins C dx [("terms", .ref t)]) ∧ H t = some (.tup [])
inductive Thing (C d : Addr) (H : Hp) : V → Prop where
  | non : Thing C d H .non
  | bl (b : Bool) : Thing C d H (.bl b)
  | int (i : Int) : Thing C d H (.int i)
  | str (s : Str) : Thing C d H (.str s)
  | lst {a : Addr} {xs : List V} (h : H a = some (.lst xs)) (o : ∀ v ∈ xs, Own v) : Thing C d H (.ref a)
  | tup {a : Addr} {xs : List V} (h : H a = some (.tup xs)) (o : ∀ v ∈ xs, Own v) : Thing C d H (.ref a)
  | dic {a : Addr} {ks : List (Key × V)} (h : H a = some (.dK ks)) (nd : (ks.map (·.1)).Nodup) (o : ∀ p ∈ ks, Own p.2) (ne : a ≠ d) : Thing C d H (.ref a)
  | pol {a : Addr} (h : Nought C a H) : Thing C d H (.ref a)
theorem Thing.own {C d : Addr} {H : Hp} {v : V} (t : Thing C d H v) : Own v := by
  cases t with
  | non => exact .inl rfl
  | bl => exact .inl rfl
  | int => exact .inl rfl
  | str => exact .inl rfl
  | lst => exact .inr ⟨_, rfl⟩
  | tup => exact .inr ⟨_, rfl⟩
  | dic => exact .inr ⟨_, rfl⟩
  | pol => exact .inr ⟨_, rfl⟩
theorem Thing.same {C d : Addr} {H H' : Hp} {v : V} (s : Same H H') (t : Thing C d H v) : Thing C d H' v := by
  cases t with
  | non => exact .non
  | bl b => exact .bl b
  | int i => exact .int i
  | str x => exact .str x
  | lst h o => exact .lst (s _ _ h) o
  | tup h o => exact .tup (s _ _ h) o
  | dic h nd o ne => exact .dic (s _ _ h) nd o ne
  | pol h =>
    obtain ⟨dx, t, h1, h2⟩ := h
    exact .pol ⟨dx, t, s _ _ h1, s _ _ h2⟩
theorem Thing.but {K : PySem.W.Frag} {C d c : Addr} {H H' : Hp} {v : V} (h : Hand K H d c) (s : But d H H') (t : Thing C d H v) : Thing C d H' v := by
  cases t with
  | non => exact .non
  | bl b => exact .bl b
  | int i => exact .int i
  | str x => exact .str x
  | lst e o => exact .lst (s.obj h e (fun _ z => by cases z)) o
  | tup e o => exact .tup (s.obj h e (fun _ z => by cases z)) o
  | dic e nd o ne => exact .dic (s _ _ ne e) nd o ne
  | pol e =>
    obtain ⟨dx, t, h1, h2⟩ := e
    exact .pol ⟨dx, t, s.obj h h1 (fun _ z => by cases z), s.obj h h2 (fun _ z => by cases z)⟩
/-! ### _law_any -/
def spAny (K : PySem.W.Frag) : Sp := fun vs H Q _ => ∃ (d c p : Addr) (xs : List V), vs = [.ref d, .ref p] ∧ Hand K H d c ∧ SqL K H p xs ∧ 0 < xs.length ∧ xs.length < 1000 ∧
  ∀ (v : V) (H' : Hp), v ∈ xs → Hand K H' d c → But d H H' → (∀ b, H b = none → H' b = none) → Q v H'
section
variable {P : Program} {w : World} {K : PySem.W.Frag} {mg : Str → Option Value} {base : Heap}
theorem sc_any : FnScope ["_law_hand_here", "_law_things"] ["_law_hand_here", "_law_things"] (defScope s_law_any) := ⟨rfl, rfl, rfl, by decide +kernel, rfl, by decide +kernel, by decide +kernel⟩
theorem ok_any {f fD : Addr} {fd fdD : FuncData} (F : FnP K "_law_any" "_law_any" s_law_any f fd) (T : Txt0 mg) (F_law_draw : FnP K "_law_draw" "_law_draw" s_law_draw fD fdD) (g_law_draw : mg "_law_draw" = some (.ref fD)) :
    FnOk P w K mg base CX0 2 f fd ["_law_hand_here", "_law_things"] (spAny K) := by
  have G_law_draw : FnOk P w K mg base CX0 1 fD fdD ["_law_hand_here", "_law_many"] (spDraw K) := ok_draw F_law_draw T
  have b_law_draw : Binds K fdD ["_law_hand_here", "_law_many"] [] := F_law_draw.bindsN fun _ _ _ _ _ _ us hl => match us, hl with | [_, _], _ => rfl
  refine F.ok sc_any (fun vs H Q E h => ?_) (fun cdv A outer s H vs Q E hr h => ?_)
  · obtain ⟨d, c, p, xs, rfl, _⟩ := h
    rfl
  · obtain ⟨d, c, p, xs, rfl, hh, hl, l0, l1, k⟩ := h
    refine ⟨_, PSs.nox (pss_one (ps_ret (pe_ix ix_list (pv 1) (pe_call G_law_draw (hr.mono (by decide)) (by rfl) g_law_draw F_law_draw.kp b_law_draw .nil pass0 (pa_cons (pv 0) (pa_cons (pe_callB My.c_len (by rfl) T.len PySem.boot_len (pa_cons (pv 1) pa_nil)) pa_nil))) (fun _ _ => rfl)))), ?_⟩
    dsimp only [cxOf, Cx.nox, Cx.wish]
    walk_at "f"
    refine ⟨d, c, xs.length, rfl, by omega, by omega, hh, fun r H' r0 r1 h1 bt fr => ?_⟩
    obtain ⟨v, e, hm⟩ := My.atI_of (xs := xs) r0 r1
    exact My.ixL (bt.list hh hl) e (k v H' hm h1 bt fr)
/-! ### _law_deep -/
def spDeep (K : PySem.W.Frag) (C : Addr) : Sp := fun vs H Q _ => ∃ (d c : Addr), vs = [.ref d] ∧ Hand K H d c ∧ ∀ (v : V) (H' : Hp), Thing C d H' v → Hand K H' d c → But d H H' → Q v H'
theorem sc_deep : FnScope ["_law_hand_here", "_law_found", "_law_turn"] ["_law_hand_here"] (defScope s_law_deep) := ⟨rfl, rfl, rfl, by decide +kernel, rfl, by decide +kernel, by decide +kernel⟩
theorem ok_deep {f fD C : Addr} {fd fdD : FuncData} (F : FnP K "_law_deep" "_law_deep" s_law_deep f fd) (T : Txt0 mg) (F_law_draw : FnP K "_law_draw" "_law_draw" s_law_draw fD fdD) (g_law_draw : mg "_law_draw" = some (.ref fD)) :
    FnOk P w K mg base CX0 2 f fd ["_law_hand_here"] (spDeep K C) := by
  have G_law_draw : FnOk P w K mg base CX0 1 fD fdD ["_law_hand_here", "_law_many"] (spDraw K) := ok_draw F_law_draw T
  have b_law_draw : Binds K fdD ["_law_hand_here", "_law_many"] [] := F_law_draw.bindsN fun _ _ _ _ _ _ us hl => match us, hl with | [_, _], _ => rfl
  refine F.ok sc_deep (fun vs H Q E h => ?_) (fun cdv A outer s H vs Q E hr h => ?_)
  · obtain ⟨d, c, rfl, _⟩ := h
    rfl
  · obtain ⟨d, c, rfl, hh, k⟩ := h
    refine ⟨_, PSs.nox (pss_cons (ps_set (i := 1) sc_deep.nd rfl (Or.inl rfl) (pe_ix ix_list (pe_lst (pa_cons pe_non (pa_cons (pe_tup pa_nil) (pa_cons pe_str pa_nil)))) (pe_call G_law_draw (hr.mono (by decide)) (by rfl) g_law_draw F_law_draw.kp b_law_draw .nil pass0 (pa_cons (pv 0) (pa_cons pe_int pa_nil))) (fun _ _ => rfl)))
      (pss_cons (ps_for PassesOwn.never rfl (pi_range1 (by rfl) T.range (pa_cons (pe_op op_add pe_int (pe_call G_law_draw (hr.mono (by decide)) (by rfl) g_law_draw F_law_draw.kp b_law_draw .nil pass0 (pa_cons (pv 0) (pa_cons pe_int pa_nil)))) pa_nil)) (pg_name (i := 2) sc_deep.nd rfl (Or.inl rfl))
       (pss_one (ps_set (i := 1) sc_deep.nd rfl (Or.inl rfl) (pe_ix ix_list (pe_lst (pa_cons (pe_lst (pa_cons (pv 1) pa_nil)) (pa_cons (pe_tup (pa_cons (pv 1) pa_nil)) (pa_cons (pe_disp (pps_cons pe_int (pv 1) pps_nil) (by rfl) (by rfl) (fun z => by cases z) (by decide)) pa_nil)))) (pe_call G_law_draw (hr.mono (by decide)) (by rfl) g_law_draw F_law_draw.kp b_law_draw .nil pass0 (pa_cons (pv 0) (pa_cons pe_int pa_nil))) (fun _ _ => rfl)))))
      (pss_one (ps_ret (pv 1))))), ?_⟩
    dsimp only [cxOf, Cx.nox, Cx.wish]
    walk_at "f"
    refine My.new (My.sz (by simp)) fun p1 n1 => ?_
    walk_at "f"
    refine My.new (My.sz (by simp)) fun p2 n2 => ?_
    walk_at "f"
    refine ⟨d, c, 3, rfl, by decide, by decide, (hh.same (same_new n1)).same (same_new n2), fun r H1 r0 r1 h1 b1 _ => ?_⟩
    have hh2 := (hh.same (same_new (o := .tup []) n1)).same (same_new (o := .lst [V.non, .ref p1, .str "x"]) n2)
    have o1 := b1.obj hh2 (same_new n2 _ _ upd_same) (fun _ z => by cases z)
    have o2 := b1.list hh2 (SqL.of upd_same)
    obtain ⟨v, e, hm⟩ := My.atI_of (xs := [V.non, .ref p1, .str "x"]) r0 (by simpa using r1)
    refine My.ixL o2 e ?_
    have tv : Thing C d H1 v := by
      simp only [List.mem_cons, List.not_mem_nil, or_false] at hm
      rcases hm with rfl | rfl | rfl
      · exact .non
      · exact .tup o1 (fun v hv => by cases hv)
      · exact .str _
    have bt : But d H H1 := (Same.but ((same_new n1).trans (same_new n2))).trans b1
    walk_at "f"
    refine ⟨d, c, 8, rfl, by decide, by decide, h1, fun m H2 m0 m1 h2 b2 _ => ?_⟩
    have bt2 := bt.trans b2
    have tv2 := tv.but h1 b2
    walk_at "f"
    refine My.rngI (by omega) (by omega) (fun _ σ H' => ∃ v u, σ = [some (.ref d), some v, u] ∧ Thing C d H' v ∧ Hand K H' d c ∧ But d H H') ⟨v, none, rfl, tv2, h2, bt2⟩ ?_ ?_
    · rintro i σ H3 hi ⟨v3, u, rfl, t3, h3, b3⟩
      walk_at "f"
      refine My.new (My.sz (by simp)) fun p1 n1 => ?_
      walk_at "f"
      refine My.new (My.sz (by simp)) fun p2 n2 => ?_
      walk_at "f"
      refine My.disp fun p3 n3 => ?_
      walk_at "f"
      refine ⟨upd_same, [(.inl 0, v3)], rfl, by simp, ?_⟩
      walk_at "f"
      refine My.new (My.sz (by simp)) fun p4 n4 => ?_
      walk_at "f"
      have em : mergeK [] [((.inl 0 : Key), v3)] = [(.inl 0, v3)] := rfl
      rw [em] at n4 ⊢
      simp only [upd_upd] at n4 ⊢
      have a1 := same_new (o := HO.lst [v3]) n1
      have a2 := same_new (o := HO.tup [v3]) n2
      have a3 := same_new (o := HO.dK [((.inl 0 : Key), v3)]) n3
      have a4 := same_new (o := HO.lst [V.ref p1, V.ref p2, V.ref p3]) n4
      have al := ((a1.trans a2).trans a3).trans a4
      have h4 := h3.same al
      have own := t3.own
      have e1 := a4 _ _ (a3 _ _ (a2 _ _ (upd_same (H := H3) (a := p1) (o := HO.lst [v3]))))
      have e2 := a4 _ _ (a3 _ _ (upd_same (H := upd H3 p1 (HO.lst [v3])) (a := p2) (o := HO.tup [v3])))
      have e3 := a4 _ _ (upd_same (H := upd (upd H3 p1 (HO.lst [v3])) p2 (HO.tup [v3])) (a := p3) (o := HO.dK [((.inl 0 : Key), v3)]))
      have ne : p3 ≠ d := fun z => by
        obtain ⟨_, hd3⟩ := ((h3.same a1).same a2).dk
        rw [z, hd3] at n3
        cases n3
      refine ⟨d, c, 3, rfl, by decide, by decide, h4, fun r H5 r0 r1 h5 b5 _ => ?_⟩
      obtain ⟨v, e, hm⟩ := My.atI_of (xs := [V.ref p1, V.ref p2, V.ref p3]) r0 (by simpa using r1)
      refine My.ixL (b5.list h4 (SqL.of upd_same)) e ?_
      walk_at "f"
      refine ⟨v, _, rfl, ?_, h5, b3.trans ((Same.but al).trans b5)⟩
      have f1 := b5.obj h4 e1 (fun _ z => by cases z)
      have f2 := b5.obj h4 e2 (fun _ z => by cases z)
      have f3 := b5 _ _ ne e3
      simp only [List.mem_cons, List.not_mem_nil, or_false] at hm
      rcases hm with rfl | rfl | rfl
      · exact .lst f1 (fun w hw => by
          rw [List.mem_singleton.mp hw]; exact own)
      · exact .tup f2 (fun w hw => by
          rw [List.mem_singleton.mp hw]; exact own)
      · exact .dic f3 (by simp) (fun q hq => by
          rw [List.mem_singleton.mp hq]; exact own) ne
    · rintro σ H3 ⟨v3, u, rfl, t3, h3, b3⟩
      walk_at "f"
      exact k v3 H3 t3 h3 b3
/-! ### _law_hand -/
def spHand (K : PySem.W.Frag) : Sp := fun vs H Q _ => ∃ (a : Addr) (ns : List Int), vs = [.ref a] ∧ SqL K H a (ns.map V.int) ∧ ns.length ≤ 63 ∧ ∀ (d c : Addr) (H' : Hp), H d = none → Same H H' → Hand K H' d c → Q (.ref d) H'
theorem sc_hand : FnScope ["_law_script", "_law_cell", "_law_cells"] ["_law_script"] (defScope s_law_hand) := ⟨rfl, rfl, rfl, by decide +kernel, rfl, by decide +kernel, by decide +kernel⟩
theorem cut_ints (ns : List Int) (lo hi : Option Int) : ∃ ms : List Int, cutV (ns.map V.int) lo hi = ms.map V.int :=
  ⟨(ns.drop _).take _, by unfold cutV; rw [← List.map_drop, ← List.map_take]⟩
theorem ok_hand {f : Addr} {fd : FuncData} (F : FnP K "_law_hand" "_law_hand" s_law_hand f fd) (T : Txt0 mg) : FnOk P w K mg base CX0 1 f fd ["_law_script"] (spHand K) := by
  refine F.ok sc_hand (fun vs H Q E h => ?_) (fun cdv A outer s H vs Q E hr h => ?_)
  · obtain ⟨a, ns, rfl, _⟩ := h
    rfl
  · obtain ⟨a, ns, rfl, hl, h63, k⟩ := h
    refine ⟨_, PSs.nox (pss_cons (ps_setLc (i := 2) (own := [("_law_cell", 1)]) (tt := tYes) (g := gName 1) (by rfl) sc_hand.nd rfl rfl (sw_true rfl rfl rfl (by decide +kernel)) (pi_list (pe_slice sl_list (pv 0) po_none (po_some pe_int))) (blkOk_by (own := [("_law_cell", 1)]) (N := ["_law_script", "_law_cell", "_law_cells"]) (sc := (defScope s_law_hand)) (by decide +kernel)) (fun _ _ _ _ _ => (pg_name (i := 1) sc_hand.nd rfl (Or.inl rfl))) (fun _ _ _ _ _ => pts_nil) (fun _ _ _ _ _ => (pe_callB My.c_abs (by rfl) T.abs (by decide +kernel) (pa_cons (pe_callTy My.c_int1 (by rfl) T.int boot_int (pa_cons (pv 1) pa_nil)) pa_nil))))
      (pss_one (ps_ret (pe_disp (pps_cons pe_str (pv 2) (pps_cons pe_str pe_int (pps_cons pe_str pe_int (pps_cons pe_str (pe_op op_add pe_int (pe_callB My.c_len (by rfl) T.len PySem.boot_len (pa_cons (pv 2) pa_nil))) (pps_cons pe_str pe_int pps_nil))))) (by rfl) (by rfl) (fun z => by cases z) (by decide))))), ?_⟩
    dsimp only [cxOf, Cx.nox, Cx.wish]
    walk_at "f"
    refine My.slL hl fun p1 n1 => ?_
    obtain ⟨ms, em⟩ := cut_ints ns none (some 63)
    have hms : ms.length ≤ 63 := by
      have z := cutV_length (ns.map V.int) none (some 63)
      rw [em, List.length_map, List.length_map] at z
      omega
    rw [em]
    refine My.lcLI (xs := ms.map V.int) (SqL.of upd_same) fun p2 n2 => ?_
    have a1 := same_new (o := HO.lst (ms.map V.int)) n1
    have a2 := same_new (o := HO.lst []) n2
    refine ⟨fun i H' => ∃ cs : List Int, H' p2 = some (.lst (cs.map V.int)) ∧ cs.length = i ∧ Same H H' ∧ H' p1 = some (.lst (ms.map V.int)), ⟨[], upd_same, rfl, a1.trans a2, a2 _ _ upd_same⟩, fun i H' hi ⟨cs, _, _, _, h1⟩ => SqL.of h1, ?_, ?_⟩
    · rintro i x H' hx ⟨cs, h2, rfl, sm, h1⟩
      obtain ⟨z, hz, rfl⟩ : ∃ z, ms[cs.length]? = some z ∧ x = V.int z := by
        rw [List.getElem?_map] at hx
        cases e : ms[cs.length]? with
        | none => rw [e] at hx; cases hx
        | some z => rw [e] at hx; exact ⟨z, rfl, (Option.some.inj hx).symm⟩
      walk_at "f"
      refine ⟨rfl, ?_⟩
      walk_at "f"
      have hlt : cs.length < ms.length := (List.getElem?_eq_some_iff.mp hz).1
      refine ⟨_, h2, by rw [List.length_map]; exact Nat.lt_of_lt_of_le (show cs.length < 1000 by omega) (by decide), cs ++ [if z < 0 then -z else z], ?_, by simp, ?_, ?_⟩
      · rw [upd_same, List.map_append]; rfl
      · exact fun b o e => by
          rw [upd_ne (ne_of_none (a1 _ _ e) n2)]
          exact sm b o e
      · rw [upd_ne (fun z => by rw [z, h2] at h1; have z3 := Option.some.inj h1; exact absurd (ne_of_none (upd_same (H := H) (a := p1) (o := HO.lst (ms.map V.int))) n2) (fun w => w z))]
        exact h1
    · rintro H' ⟨cs, h2, hl2, sm, h1⟩
      walk_at "f"
      refine My.disp fun p3 n3 => ?_
      walk_at "f"
      refine My.lenL (SqL.of (same_new n3 _ _ h2)) ?_
      walk_at "f"
      refine ⟨upd_same, hk p2 0 0 (977 + ((cs.map V.int).length : Int)) 0, rfl, by show 5 ≤ 15; decide, ?_⟩
      have em2 : mergeK [] (hk p2 0 0 (977 + ((cs.map V.int).length : Int)) 0) = hk p2 0 0 (977 + ((cs.map V.int).length : Int)) 0 := rfl
      rw [em2, upd_upd]
      have a3 := same_new (o := HO.dK (hk p2 0 0 (977 + ((cs.map V.int).length : Int)) 0)) n3
      exact k p3 p2 _ (sm.free n3) (sm.trans a3) ⟨cs, 0, 0, _, 0, upd_same, SqL.of (a3 _ _ h2), (fun z => by rw [z] at h2; rw [h2] at n3; cases n3), Int.le_refl 0⟩
end
end K00

set_option Elab.async false
set_option linter.all false
set_option maxRecDepth 100000
set_option maxHeartbeats 4000000
namespace K00
open PySem PySem.Spec PyProof.Rows L2 XV XF He
/-! ### the error classes: nine with a field, eighteen without -/
def nmF : List (Str × Str) := [("BadPoly", "index"), ("BadSystem", "part"), ("NoCover", "number"), ("BadNumber", "part"), ("NoWish", "index"), ("BadText", "at"), ("BadLine", "number"), ("NoName", "name"), ("TooMany", "most")]
def nmA : List Str := ["BadPoly", "BadSystem", "NoCover", "BadNumber", "NoWish", "BadText", "BadLine", "NoName", "TooMany"]
def nmB : List Str := ["NoInteger", "NoUnknown", "NoNumber", "NoPoint", "NoDivisor", "NoChain", "NoPolynomial", "Unlike", "NoBox"]
def nmC : List Str := ["Double", "NoBoxing", "NoFraction", "NoWidth", "ByNought", "Below", "Endless", "NoLine", "NoPower"]
def nm : List Str := nmA ++ (nmB ++ nmC)
theorem m_BadPoly : ("BadPoly" : Str) ∈ nm := List.mem_of_getElem? (i := 0) rfl
theorem m_BadSystem : ("BadSystem" : Str) ∈ nm := List.mem_of_getElem? (i := 1) rfl
theorem m_NoCover : ("NoCover" : Str) ∈ nm := List.mem_of_getElem? (i := 2) rfl
theorem m_BadNumber : ("BadNumber" : Str) ∈ nm := List.mem_of_getElem? (i := 3) rfl
theorem m_NoWish : ("NoWish" : Str) ∈ nm := List.mem_of_getElem? (i := 4) rfl
theorem m_BadText : ("BadText" : Str) ∈ nm := List.mem_of_getElem? (i := 5) rfl
theorem m_BadLine : ("BadLine" : Str) ∈ nm := List.mem_of_getElem? (i := 6) rfl
theorem m_NoName : ("NoName" : Str) ∈ nm := List.mem_of_getElem? (i := 7) rfl
theorem m_TooMany : ("TooMany" : Str) ∈ nm := List.mem_of_getElem? (i := 8) rfl
theorem m_NoInteger : ("NoInteger" : Str) ∈ nm := List.mem_of_getElem? (i := 9) rfl
theorem m_NoUnknown : ("NoUnknown" : Str) ∈ nm := List.mem_of_getElem? (i := 10) rfl
theorem m_NoNumber : ("NoNumber" : Str) ∈ nm := List.mem_of_getElem? (i := 11) rfl
theorem m_NoPoint : ("NoPoint" : Str) ∈ nm := List.mem_of_getElem? (i := 12) rfl
theorem m_NoDivisor : ("NoDivisor" : Str) ∈ nm := List.mem_of_getElem? (i := 13) rfl
theorem m_NoChain : ("NoChain" : Str) ∈ nm := List.mem_of_getElem? (i := 14) rfl
theorem m_NoPolynomial : ("NoPolynomial" : Str) ∈ nm := List.mem_of_getElem? (i := 15) rfl
theorem m_Unlike : ("Unlike" : Str) ∈ nm := List.mem_of_getElem? (i := 16) rfl
theorem m_NoBox : ("NoBox" : Str) ∈ nm := List.mem_of_getElem? (i := 17) rfl
theorem m_Double : ("Double" : Str) ∈ nm := List.mem_of_getElem? (i := 18) rfl
theorem m_NoBoxing : ("NoBoxing" : Str) ∈ nm := List.mem_of_getElem? (i := 19) rfl
theorem m_NoFraction : ("NoFraction" : Str) ∈ nm := List.mem_of_getElem? (i := 20) rfl
theorem m_NoWidth : ("NoWidth" : Str) ∈ nm := List.mem_of_getElem? (i := 21) rfl
theorem m_ByNought : ("ByNought" : Str) ∈ nm := List.mem_of_getElem? (i := 22) rfl
theorem m_Below : ("Below" : Str) ∈ nm := List.mem_of_getElem? (i := 23) rfl
theorem m_Endless : ("Endless" : Str) ∈ nm := List.mem_of_getElem? (i := 24) rfl
theorem m_NoLine : ("NoLine" : Str) ∈ nm := List.mem_of_getElem? (i := 25) rfl
theorem m_NoPower : ("NoPower" : Str) ∈ nm := List.mem_of_getElem? (i := 26) rfl

/-- __init__ of a class with the field f -/
def spInitX (C : Addr) (f : Str) : Sp := fun vs H Q _ => ∃ (a : Addr) (y : V), vs = [.ref a, y] ∧ H a = some (exo a C none) ∧ ∀ dx, H dx = none → dx ≠ a → Q .non (upd (upd H dx (exd dx [(f, y)])) a (exo a C (some dx)))
section
variable {P : Program} {w : World} {K : PySem.W.Frag} {mg : Str → Option Value} {base : Heap}
theorem init_read {C a : Addr} {f : Str} {y : V} {H : Hp} {Q : VK} (OX : OexC K C) (no : PySem.W.findIn K (.ref C) f = some none) (ha : H a = some (exo a C none)) (k : ∀ dx, H dx = none → dx ≠ a → Q .non (upd (upd H dx (exd dx [(f, y)])) a (exo a C (some dx)))) :
    tOst K f (tVar 0) (tVar 1) { nx := fun _ H' => Q .non H', rt := Q } [some (.ref a), some y] H :=
  ⟨y, rfl, .ref a, rfl, a, C, rfl, OX, no, .inl ⟨ha, k⟩⟩
theorem sc_BadPoly : FnScope ["self", "index"] ["self", "index"] (defScope s_BadPoly_init) := ⟨rfl, rfl, rfl, by decide +kernel, rfl, by decide +kernel, by decide +kernel⟩
theorem ok_BadPoly {f : Addr} {fd : FuncData} (F : FnP K "__init__" "BadPoly.__init__" s_BadPoly_init f fd) (OX : OexC K (ga K "BadPoly")) (no : PySem.W.findIn K (.ref (ga K "BadPoly")) "index" = some none) : FnOk P w K mg base CX0 1 f fd ["self", "index"] (spInitX (ga K "BadPoly") "index") := by
  refine F.ok sc_BadPoly (fun vs H Q E h => ?_) (fun cdv A outer s H vs Q E hr h => ?_)
  · obtain ⟨a, y, rfl, _⟩ := h
    rfl
  · obtain ⟨a, y, rfl, ha, k⟩ := h
    exact ⟨_, PSs.nox (pss_one (ps_ost (pv 0) (pv 1))), init_read OX no ha k⟩
theorem sc_BadSystem : FnScope ["self", "part"] ["self", "part"] (defScope s_BadSystem_init) := ⟨rfl, rfl, rfl, by decide +kernel, rfl, by decide +kernel, by decide +kernel⟩
theorem ok_BadSystem {f : Addr} {fd : FuncData} (F : FnP K "__init__" "BadSystem.__init__" s_BadSystem_init f fd) (OX : OexC K (ga K "BadSystem")) (no : PySem.W.findIn K (.ref (ga K "BadSystem")) "part" = some none) : FnOk P w K mg base CX0 1 f fd ["self", "part"] (spInitX (ga K "BadSystem") "part") := by
  refine F.ok sc_BadSystem (fun vs H Q E h => ?_) (fun cdv A outer s H vs Q E hr h => ?_)
  · obtain ⟨a, y, rfl, _⟩ := h
    rfl
  · obtain ⟨a, y, rfl, ha, k⟩ := h
    exact ⟨_, PSs.nox (pss_one (ps_ost (pv 0) (pv 1))), init_read OX no ha k⟩
theorem sc_NoCover : FnScope ["self", "number"] ["self", "number"] (defScope s_NoCover_init) := ⟨rfl, rfl, rfl, by decide +kernel, rfl, by decide +kernel, by decide +kernel⟩
theorem ok_NoCover {f : Addr} {fd : FuncData} (F : FnP K "__init__" "NoCover.__init__" s_NoCover_init f fd) (OX : OexC K (ga K "NoCover")) (no : PySem.W.findIn K (.ref (ga K "NoCover")) "number" = some none) : FnOk P w K mg base CX0 1 f fd ["self", "number"] (spInitX (ga K "NoCover") "number") := by
  refine F.ok sc_NoCover (fun vs H Q E h => ?_) (fun cdv A outer s H vs Q E hr h => ?_)
  · obtain ⟨a, y, rfl, _⟩ := h
    rfl
  · obtain ⟨a, y, rfl, ha, k⟩ := h
    exact ⟨_, PSs.nox (pss_one (ps_ost (pv 0) (pv 1))), init_read OX no ha k⟩
theorem sc_BadNumber : FnScope ["self", "part"] ["self", "part"] (defScope s_BadNumber_init) := ⟨rfl, rfl, rfl, by decide +kernel, rfl, by decide +kernel, by decide +kernel⟩
theorem ok_BadNumber {f : Addr} {fd : FuncData} (F : FnP K "__init__" "BadNumber.__init__" s_BadNumber_init f fd) (OX : OexC K (ga K "BadNumber")) (no : PySem.W.findIn K (.ref (ga K "BadNumber")) "part" = some none) : FnOk P w K mg base CX0 1 f fd ["self", "part"] (spInitX (ga K "BadNumber") "part") := by
  refine F.ok sc_BadNumber (fun vs H Q E h => ?_) (fun cdv A outer s H vs Q E hr h => ?_)
  · obtain ⟨a, y, rfl, _⟩ := h
    rfl
  · obtain ⟨a, y, rfl, ha, k⟩ := h
    exact ⟨_, PSs.nox (pss_one (ps_ost (pv 0) (pv 1))), init_read OX no ha k⟩
theorem sc_NoWish : FnScope ["self", "index"] ["self", "index"] (defScope s_NoWish_init) := ⟨rfl, rfl, rfl, by decide +kernel, rfl, by decide +kernel, by decide +kernel⟩
theorem ok_NoWish {f : Addr} {fd : FuncData} (F : FnP K "__init__" "NoWish.__init__" s_NoWish_init f fd) (OX : OexC K (ga K "NoWish")) (no : PySem.W.findIn K (.ref (ga K "NoWish")) "index" = some none) : FnOk P w K mg base CX0 1 f fd ["self", "index"] (spInitX (ga K "NoWish") "index") := by
  refine F.ok sc_NoWish (fun vs H Q E h => ?_) (fun cdv A outer s H vs Q E hr h => ?_)
  · obtain ⟨a, y, rfl, _⟩ := h
    rfl
  · obtain ⟨a, y, rfl, ha, k⟩ := h
    exact ⟨_, PSs.nox (pss_one (ps_ost (pv 0) (pv 1))), init_read OX no ha k⟩
theorem sc_BadText : FnScope ["self", "at"] ["self", "at"] (defScope s_BadText_init) := ⟨rfl, rfl, rfl, by decide +kernel, rfl, by decide +kernel, by decide +kernel⟩
theorem ok_BadText {f : Addr} {fd : FuncData} (F : FnP K "__init__" "BadText.__init__" s_BadText_init f fd) (OX : OexC K (ga K "BadText")) (no : PySem.W.findIn K (.ref (ga K "BadText")) "at" = some none) : FnOk P w K mg base CX0 1 f fd ["self", "at"] (spInitX (ga K "BadText") "at") := by
  refine F.ok sc_BadText (fun vs H Q E h => ?_) (fun cdv A outer s H vs Q E hr h => ?_)
  · obtain ⟨a, y, rfl, _⟩ := h
    rfl
  · obtain ⟨a, y, rfl, ha, k⟩ := h
    exact ⟨_, PSs.nox (pss_one (ps_ost (pv 0) (pv 1))), init_read OX no ha k⟩
theorem sc_BadLine : FnScope ["self", "number"] ["self", "number"] (defScope s_BadLine_init) := ⟨rfl, rfl, rfl, by decide +kernel, rfl, by decide +kernel, by decide +kernel⟩
theorem ok_BadLine {f : Addr} {fd : FuncData} (F : FnP K "__init__" "BadLine.__init__" s_BadLine_init f fd) (OX : OexC K (ga K "BadLine")) (no : PySem.W.findIn K (.ref (ga K "BadLine")) "number" = some none) : FnOk P w K mg base CX0 1 f fd ["self", "number"] (spInitX (ga K "BadLine") "number") := by
  refine F.ok sc_BadLine (fun vs H Q E h => ?_) (fun cdv A outer s H vs Q E hr h => ?_)
  · obtain ⟨a, y, rfl, _⟩ := h
    rfl
  · obtain ⟨a, y, rfl, ha, k⟩ := h
    exact ⟨_, PSs.nox (pss_one (ps_ost (pv 0) (pv 1))), init_read OX no ha k⟩
theorem sc_NoName : FnScope ["self", "name"] ["self", "name"] (defScope s_NoName_init) := ⟨rfl, rfl, rfl, by decide +kernel, rfl, by decide +kernel, by decide +kernel⟩
theorem ok_NoName {f : Addr} {fd : FuncData} (F : FnP K "__init__" "NoName.__init__" s_NoName_init f fd) (OX : OexC K (ga K "NoName")) (no : PySem.W.findIn K (.ref (ga K "NoName")) "name" = some none) : FnOk P w K mg base CX0 1 f fd ["self", "name"] (spInitX (ga K "NoName") "name") := by
  refine F.ok sc_NoName (fun vs H Q E h => ?_) (fun cdv A outer s H vs Q E hr h => ?_)
  · obtain ⟨a, y, rfl, _⟩ := h
    rfl
  · obtain ⟨a, y, rfl, ha, k⟩ := h
    exact ⟨_, PSs.nox (pss_one (ps_ost (pv 0) (pv 1))), init_read OX no ha k⟩
theorem sc_TooMany : FnScope ["self", "most"] ["self", "most"] (defScope s_TooMany_init) := ⟨rfl, rfl, rfl, by decide +kernel, rfl, by decide +kernel, by decide +kernel⟩
theorem ok_TooMany {f : Addr} {fd : FuncData} (F : FnP K "__init__" "TooMany.__init__" s_TooMany_init f fd) (OX : OexC K (ga K "TooMany")) (no : PySem.W.findIn K (.ref (ga K "TooMany")) "most" = some none) : FnOk P w K mg base CX0 1 f fd ["self", "most"] (spInitX (ga K "TooMany") "most") := by
  refine F.ok sc_TooMany (fun vs H Q E h => ?_) (fun cdv A outer s H vs Q E hr h => ?_)
  · obtain ⟨a, y, rfl, _⟩ := h
    rfl
  · obtain ⟨a, y, rfl, ha, k⟩ := h
    exact ⟨_, PSs.nox (pss_one (ps_ost (pv 0) (pv 1))), init_read OX no ha k⟩
end
end K00

set_option Elab.async false
set_option linter.all false
set_option maxRecDepth 100000
set_option maxHeartbeats 4000000
namespace K00
open PySem PySem.Spec PyProof.Rows L2 XV XF He
/-- a class, and the field that it is made with (by its place among the things) -/
abbrev Mkd := Str × Option (Str × Nat)
/-- an exception at a as one of these is made -/
def Er (K : PySem.W.Frag) (H : Hp) (ths : List V) (p : Mkd) (a : Addr) : Prop := match p.2 with
  | some (f, i) => ∃ y, ths[i]? = some y ∧ ErrF H a (ga K p.1) f y
  | none => ErrN H a (ga K p.1)
theorem Er.same {K : PySem.W.Frag} {H H' : Hp} {ths : List V} {p : Mkd} {a : Addr} (s : Same H H') (e : Er K H ths p a) : Er K H' ths p a := by
  obtain ⟨x, o⟩ := p
  cases o with
  | none => exact s _ _ (show H a = some (ExO (.ref (ga K x)) a) from e)
  | some q =>
    obtain ⟨y, hy, d, h1, h2⟩ := (show ∃ y, ths[q.2]? = some y ∧ ErrF H a (ga K x) q.1 y from e)
    exact ⟨y, hy, d, s _ _ h1, s _ _ h2⟩
def Errs (K : PySem.W.Frag) (H : Hp) (ths : List V) (ps : List Mkd) (vs : List V) : Prop := vs.length = ps.length ∧ ∀ (i : Nat) p, ps[i]? = some p → ∃ a, vs[i]? = some (.ref a) ∧ Er K H ths p a
theorem Errs.same {K : PySem.W.Frag} {H H' : Hp} {ths : List V} {ps : List Mkd} {vs : List V} (s : Same H H') (e : Errs K H ths ps vs) : Errs K H' ths ps vs := ⟨e.1, fun i p h => by
  obtain ⟨a, h1, h2⟩ := e.2 i p h
  exact ⟨a, h1, h2.same s⟩⟩
theorem Errs.nil {K : PySem.W.Frag} {H : Hp} {ths : List V} : Errs K H ths [] [] := ⟨rfl, fun i p h => by simp at h⟩
theorem Errs.cons {K : PySem.W.Frag} {H : Hp} {ths : List V} {p : Mkd} {ps : List Mkd} {a : Addr} {vs : List V} (e : Er K H ths p a) (es : Errs K H ths ps vs) : Errs K H ths (p :: ps) (.ref a :: vs) := by
  refine ⟨by simp [es.1], fun i q h => ?_⟩
  cases i with
  | zero =>
    cases (show p = q from by simpa using h)
    exact ⟨a, rfl, e⟩
  | succ i => exact es.2 i q (by simpa using h)
theorem Errs.append {K : PySem.W.Frag} {H : Hp} {ths : List V} {ps qs : List Mkd} {vs us : List V} (e : Errs K H ths ps vs) (e' : Errs K H ths qs us) : Errs K H ths (ps ++ qs) (vs ++ us) := by
  refine ⟨by simp [e.1, e'.1], fun i q h => ?_⟩
  by_cases hi : i < ps.length
  · rw [List.getElem?_append_left hi] at h
    obtain ⟨a, h1, h2⟩ := e.2 i q h
    exact ⟨a, by rw [List.getElem?_append_left (by rw [e.1]; exact hi)]; exact h1, h2⟩
  · rw [List.getElem?_append_right (by omega)] at h
    obtain ⟨a, h1, h2⟩ := e'.2 _ q h
    exact ⟨a, by rw [List.getElem?_append_right (by rw [e.1]; omega), e.1]; exact h1, h2⟩
/-- the making of many, as a reading -/
def tErr (K : PySem.W.Frag) : Mkd → TE
  | (x, some (f, i)) => tMkX (ga K x) (spInitX (ga K x) f) (tCons (tOp (rIxL K) (tVar 0) (tC (.int (i : Int)))) tNil)
  | (x, none) => tMk0 (ga K x)
def tErrs (K : PySem.W.Frag) : List Mkd → TA
  | [] => tNil
  | p :: r => tCons (tErr K p) (tErrs K r)
theorem tErr_q {K : PySem.W.Frag} {σ : L2.St} {H : Hp} {q : Addr} {ths : List V} {p : Mkd} {Q : VK} (hσ : σ[0]? = some (some (.ref q))) (hl : SqL K H q ths) (hi : ∀ f i, p.2 = some (f, i) → i < ths.length) (k : ∀ a H', Same H H' → Er K H' ths p a → Q (.ref a) H') : tErr K p σ H Q := by
  obtain ⟨x, o⟩ := p
  cases o with
  | none => exact fun a n => k a _ (same_new n) upd_same
  | some fi =>
    obtain ⟨f, i⟩ := fi
    have hlt := hi f i rfl
    have hy : ths[i]? = some ths[i] := by simp [hlt]
    show tMkX (ga K x) (spInitX (ga K x) f) (tCons (tOp (rIxL K) (tVar 0) (tC (.int (i : Int)))) tNil) σ H Q
    refine ⟨_, hσ, q, ths, (i : Int), ths[i], rfl, rfl, hl, atI_nat hy, (by decide : 1 ≤ 1000), fun a n => ⟨a, ths[i], rfl, upd_same, fun dx nx ne => ⟨rfl, ?_⟩⟩⟩
    have nd : dx ≠ a := ne
    have nx' : H dx = none := by rw [upd_ne nd] at nx; exact nx
    refine k a _ (fun b o e => ?_) ⟨ths[i], hy, dx, upd_same, by rw [upd_ne nd, upd_same]⟩
    rw [upd_ne (ne_of_none e n), upd_ne (ne_of_none e nx'), upd_ne (ne_of_none e n)]
    exact e
theorem tErrs_q {K : PySem.W.Frag} {σ : L2.St} {q : Addr} {ths : List V} (hσ : σ[0]? = some (some (.ref q))) : ∀ (ps : List Mkd) {H : Hp} {QA : List V → Hp → Prop}, SqL K H q ths → (∀ p ∈ ps, ∀ f i, p.2 = some (f, i) → i < ths.length) →
    (∀ vs H', Same H H' → Errs K H' ths ps vs → QA vs H') → tErrs K ps σ H QA
  | [], H, QA, _, _, k => k [] H (Same.refl H) .nil
  | p :: ps, H, QA, hl, hi, k => by
    refine tErr_q (p := p) hσ hl (hi p List.mem_cons_self) fun a H1 s1 e1 => ?_
    refine tErrs_q hσ ps (s1.seq hl) (fun p' hp => hi p' (List.mem_cons_of_mem _ hp)) fun vs H2 s2 es => ?_
    exact k _ H2 (s1.trans s2) (.cons (e1.same s2) es)
end K00

set_option Elab.async false
set_option linter.all false
set_option maxRecDepth 100000
set_option maxHeartbeats 4000000
namespace K00
open PySem PySem.Spec PyProof.Rows L2 XV XF He
def ps0 : List Mkd := [("BadPoly", some ("index", 0)), ("BadSystem", some ("part", 1)), ("NoCover", some ("number", 2)), ("BadNumber", some ("part", 3))]
def ps1 : List Mkd := [("NoWish", some ("index", 4)), ("BadText", some ("at", 5)), ("BadLine", some ("number", 6)), ("NoName", some ("name", 7))]
def ps2 : List Mkd := [("TooMany", some ("most", 8))]
def ps3 : List Mkd := [("NoInteger", none), ("NoUnknown", none), ("NoNumber", none), ("NoPoint", none), ("NoDivisor", none), ("NoChain", none)]
def ps4 : List Mkd := [("NoPolynomial", none), ("Unlike", none), ("NoBox", none), ("Double", none), ("NoBoxing", none), ("NoFraction", none)]
def ps5 : List Mkd := [("NoWidth", none), ("ByNought", none), ("Below", none), ("Endless", none), ("NoLine", none), ("NoPower", none)]
def psAll : List Mkd := ps0 ++ ps1 ++ ps2 ++ ps3 ++ ps4 ++ ps5
theorem Er.but {K : PySem.W.Frag} {H H' : Hp} {ths : List V} {p : Mkd} {a l : Addr} {xs : List V} (hl : H l = some (.lst xs)) (s : But l H H') (e : Er K H ths p a) : Er K H' ths p a := by
  have ne : ∀ {b : Addr} {φ : Heap → Prop}, H b = some (.ext φ) → b ≠ l := fun {b φ} h z => by
    rw [z, hl] at h
    cases h
  obtain ⟨x, o⟩ := p
  cases o with
  | none =>
    have h : H a = some (ExO (.ref (ga K x)) a) := e
    exact s _ _ (ne h) h
  | some q =>
    obtain ⟨y, hy, d, h1, h2⟩ := (show ∃ y, ths[q.2]? = some y ∧ ErrF H a (ga K x) q.1 y from e)
    exact ⟨y, hy, d, s _ _ (ne h1) h1, s _ _ (ne h2) h2⟩
theorem Errs.but {K : PySem.W.Frag} {H H' : Hp} {ths : List V} {ps : List Mkd} {vs xs : List V} {l : Addr} (hl : H l = some (.lst xs)) (s : But l H H') (e : Errs K H ths ps vs) : Errs K H' ths ps vs := ⟨e.1, fun i p h => by
  obtain ⟨a, h1, h2⟩ := e.2 i p h
  exact ⟨a, h1, h2.but hl s⟩⟩
theorem but_upd {H : Hp} {l : Addr} {o : HO} : But l H (upd H l o) := fun b u n e => by rw [upd_ne n]; exact e
/-- found.extend([..]): found holds what is made, one behind the other -/
theorem ext_step {K : PySem.W.Frag} {σ : L2.St} {H0 H : Hp} {q l : Addr} {ths us : List V} {ps qs : List Mkd} {Q : VK} (hσ : σ[0]? = some (some (.ref q))) (hl : SqL K H0 q ths) (n0 : H0 l = none) (s0 : Same H0 H) (hf : H l = some (.lst us)) (es : Errs K H ths ps us)
    (hz : ps.length + qs.length ≤ 1000) (hi : ∀ p ∈ qs, ∀ f i, p.2 = some (f, i) → i < ths.length) (k : ∀ us' H', Same H0 H' → H' l = some (.lst us') → Errs K H' ths (ps ++ qs) us' → Q .non H') :
    tyV K "list" (.ref l) H ∧ tCons (tLst (tErrs K qs)) tNil σ H (fun xs H2 => rExtend (.ref l) xs H2 Q) := by
  refine ⟨.inl ⟨rfl, _, SqL.of hf⟩, ?_⟩
  refine tErrs_q hσ qs (s0.seq hl) hi fun vs H1 s1 e1 => ⟨My.sz (by rw [e1.1]; omega), fun b n => ?_⟩
  have sn := same_new (o := HO.lst vs) n
  have hf2 := sn _ _ (s1 _ _ hf)
  refine My.ext hf2 upd_same (by rw [es.1, e1.1]; exact hz) ?_
  refine k (us ++ vs) _ (fun c o e => ?_) upd_same (.append ((es.same (s1.trans sn)).but hf2 but_upd) ((e1.same sn).but hf2 but_upd))
  rw [upd_ne (ne_of_none e n0)]
  exact sn _ _ (s1 _ _ (s0 _ _ e))
/-- what the head says of the error classes -/
structure TE0 (K : PySem.W.Frag) (mg : Str → Option Value) : Prop where
  err : ∀ {x : Str}, x ∈ nm → Err K mg x
  fld : ∀ {p : Str × Str}, p ∈ nmF → Fld K p.1 p.2
  pln : ∀ {x : Str}, x ∈ nmB ++ nmC → PySem.W.excIn K (ga K x) veBase "ValueError.__new__" = true
theorem f_BadPoly : (("BadPoly" : Str), ("index" : Str)) ∈ nmF := List.mem_of_getElem? (i := 0) rfl
theorem f_BadSystem : (("BadSystem" : Str), ("part" : Str)) ∈ nmF := List.mem_of_getElem? (i := 1) rfl
theorem f_NoCover : (("NoCover" : Str), ("number" : Str)) ∈ nmF := List.mem_of_getElem? (i := 2) rfl
theorem f_BadNumber : (("BadNumber" : Str), ("part" : Str)) ∈ nmF := List.mem_of_getElem? (i := 3) rfl
theorem f_NoWish : (("NoWish" : Str), ("index" : Str)) ∈ nmF := List.mem_of_getElem? (i := 4) rfl
theorem f_BadText : (("BadText" : Str), ("at" : Str)) ∈ nmF := List.mem_of_getElem? (i := 5) rfl
theorem f_BadLine : (("BadLine" : Str), ("number" : Str)) ∈ nmF := List.mem_of_getElem? (i := 6) rfl
theorem f_NoName : (("NoName" : Str), ("name" : Str)) ∈ nmF := List.mem_of_getElem? (i := 7) rfl
theorem f_TooMany : (("TooMany" : Str), ("most" : Str)) ∈ nmF := List.mem_of_getElem? (i := 8) rfl
theorem p_NoInteger : ("NoInteger" : Str) ∈ nmB ++ nmC := List.mem_of_getElem? (i := 0) rfl
theorem p_NoUnknown : ("NoUnknown" : Str) ∈ nmB ++ nmC := List.mem_of_getElem? (i := 1) rfl
theorem p_NoNumber : ("NoNumber" : Str) ∈ nmB ++ nmC := List.mem_of_getElem? (i := 2) rfl
theorem p_NoPoint : ("NoPoint" : Str) ∈ nmB ++ nmC := List.mem_of_getElem? (i := 3) rfl
theorem p_NoDivisor : ("NoDivisor" : Str) ∈ nmB ++ nmC := List.mem_of_getElem? (i := 4) rfl
theorem p_NoChain : ("NoChain" : Str) ∈ nmB ++ nmC := List.mem_of_getElem? (i := 5) rfl
theorem p_NoPolynomial : ("NoPolynomial" : Str) ∈ nmB ++ nmC := List.mem_of_getElem? (i := 6) rfl
theorem p_Unlike : ("Unlike" : Str) ∈ nmB ++ nmC := List.mem_of_getElem? (i := 7) rfl
theorem p_NoBox : ("NoBox" : Str) ∈ nmB ++ nmC := List.mem_of_getElem? (i := 8) rfl
theorem p_Double : ("Double" : Str) ∈ nmB ++ nmC := List.mem_of_getElem? (i := 9) rfl
theorem p_NoBoxing : ("NoBoxing" : Str) ∈ nmB ++ nmC := List.mem_of_getElem? (i := 10) rfl
theorem p_NoFraction : ("NoFraction" : Str) ∈ nmB ++ nmC := List.mem_of_getElem? (i := 11) rfl
theorem p_NoWidth : ("NoWidth" : Str) ∈ nmB ++ nmC := List.mem_of_getElem? (i := 12) rfl
theorem p_ByNought : ("ByNought" : Str) ∈ nmB ++ nmC := List.mem_of_getElem? (i := 13) rfl
theorem p_Below : ("Below" : Str) ∈ nmB ++ nmC := List.mem_of_getElem? (i := 14) rfl
theorem p_Endless : ("Endless" : Str) ∈ nmB ++ nmC := List.mem_of_getElem? (i := 15) rfl
theorem p_NoLine : ("NoLine" : Str) ∈ nmB ++ nmC := List.mem_of_getElem? (i := 16) rfl
theorem p_NoPower : ("NoPower" : Str) ∈ nmB ++ nmC := List.mem_of_getElem? (i := 17) rfl
/-- the nine __init__, as they stand -/
structure Inits (K : PySem.W.Frag) (i_BadPoly : FuncData) (i_BadSystem : FuncData) (i_NoCover : FuncData) (i_BadNumber : FuncData) (i_NoWish : FuncData) (i_BadText : FuncData) (i_BadLine : FuncData) (i_NoName : FuncData) (i_TooMany : FuncData) : Prop where
  F_BadPoly : FnP K "__init__" "BadPoly.__init__" s_BadPoly_init (ma K (ga K "BadPoly") "__init__") i_BadPoly
  F_BadSystem : FnP K "__init__" "BadSystem.__init__" s_BadSystem_init (ma K (ga K "BadSystem") "__init__") i_BadSystem
  F_NoCover : FnP K "__init__" "NoCover.__init__" s_NoCover_init (ma K (ga K "NoCover") "__init__") i_NoCover
  F_BadNumber : FnP K "__init__" "BadNumber.__init__" s_BadNumber_init (ma K (ga K "BadNumber") "__init__") i_BadNumber
  F_NoWish : FnP K "__init__" "NoWish.__init__" s_NoWish_init (ma K (ga K "NoWish") "__init__") i_NoWish
  F_BadText : FnP K "__init__" "BadText.__init__" s_BadText_init (ma K (ga K "BadText") "__init__") i_BadText
  F_BadLine : FnP K "__init__" "BadLine.__init__" s_BadLine_init (ma K (ga K "BadLine") "__init__") i_BadLine
  F_NoName : FnP K "__init__" "NoName.__init__" s_NoName_init (ma K (ga K "NoName") "__init__") i_NoName
  F_TooMany : FnP K "__init__" "TooMany.__init__" s_TooMany_init (ma K (ga K "TooMany") "__init__") i_TooMany

def spMade (K : PySem.W.Frag) : Sp := fun vs H Q _ => ∃ (q : Addr) (ths : List V), vs = [.ref q] ∧ SqL K H q ths ∧ ths.length = 9 ∧ ∀ (l : Addr) (us : List V) (H' : Hp), H l = none → Same H H' → H' l = some (.lst us) → Errs K H' ths psAll us → Q (.ref l) H'
section
variable {P : Program} {w : World} {K : PySem.W.Frag} {mg : Str → Option Value} {base : Heap} {i_BadPoly : FuncData} {i_BadSystem : FuncData} {i_NoCover : FuncData} {i_BadNumber : FuncData} {i_NoWish : FuncData} {i_BadText : FuncData} {i_BadLine : FuncData} {i_NoName : FuncData} {i_TooMany : FuncData}
theorem sc_made : FnScope ["_law_things", "_law_found"] ["_law_things"] (defScope s_law_made) := ⟨rfl, rfl, rfl, by decide +kernel, rfl, by decide +kernel, by decide +kernel⟩
theorem ok_made {f : Addr} {fd : FuncData} (F : FnP K "_law_made" "_law_made" s_law_made f fd) (T : TE0 K mg) (I : Inits K i_BadPoly i_BadSystem i_NoCover i_BadNumber i_NoWish i_BadText i_BadLine i_NoName i_TooMany) : FnOk P w K mg base CX0 3 f fd ["_law_things"] (spMade K) := by
  have B_BadPoly : Binds K i_BadPoly ["self", "index"] [] := I.F_BadPoly.bindsN fun _ _ _ _ _ _ us hl => match us, hl with | [_, _], _ => rfl
  have B_BadSystem : Binds K i_BadSystem ["self", "part"] [] := I.F_BadSystem.bindsN fun _ _ _ _ _ _ us hl => match us, hl with | [_, _], _ => rfl
  have B_NoCover : Binds K i_NoCover ["self", "number"] [] := I.F_NoCover.bindsN fun _ _ _ _ _ _ us hl => match us, hl with | [_, _], _ => rfl
  have B_BadNumber : Binds K i_BadNumber ["self", "part"] [] := I.F_BadNumber.bindsN fun _ _ _ _ _ _ us hl => match us, hl with | [_, _], _ => rfl
  have B_NoWish : Binds K i_NoWish ["self", "index"] [] := I.F_NoWish.bindsN fun _ _ _ _ _ _ us hl => match us, hl with | [_, _], _ => rfl
  have B_BadText : Binds K i_BadText ["self", "at"] [] := I.F_BadText.bindsN fun _ _ _ _ _ _ us hl => match us, hl with | [_, _], _ => rfl
  have B_BadLine : Binds K i_BadLine ["self", "number"] [] := I.F_BadLine.bindsN fun _ _ _ _ _ _ us hl => match us, hl with | [_, _], _ => rfl
  have B_NoName : Binds K i_NoName ["self", "name"] [] := I.F_NoName.bindsN fun _ _ _ _ _ _ us hl => match us, hl with | [_, _], _ => rfl
  have B_TooMany : Binds K i_TooMany ["self", "most"] [] := I.F_TooMany.bindsN fun _ _ _ _ _ _ us hl => match us, hl with | [_, _], _ => rfl
  refine F.ok sc_made (fun vs H Q E h => ?_) (fun cdv A outer s H vs Q E hr h => ?_)
  · obtain ⟨a, y, rfl, _⟩ := h
    rfl
  · obtain ⟨q, ths, rfl, hl, h9, k⟩ := h
    refine ⟨_, PSs.nox (pss_cons (ps_set (i := 1) sc_made.nd rfl (Or.inl rfl) (pe_lst pa_nil))
      (pss_cons (ps_expr (pe_bm PySem.F.plainAttrs_list PySem.F.slot_list_extend PySem.F.type_list_extend mt_extend (pv 1) (pa_cons (pe_lst (pa_cons (XV.pe_mkX (T.err m_BadPoly).ox (T.fld f_BadPoly).ini (T.fld f_BadPoly).ty (ok_BadPoly I.F_BadPoly (T.err m_BadPoly).ox (T.fld f_BadPoly).no) (hr.mono (by decide)) B_BadPoly pass0 (by rfl) (T.err m_BadPoly).g (pa_cons (pe_ix ix_list (pv 0) pe_int (fun _ _ => rfl)) pa_nil)) (pa_cons (XV.pe_mkX (T.err m_BadSystem).ox (T.fld f_BadSystem).ini (T.fld f_BadSystem).ty (ok_BadSystem I.F_BadSystem (T.err m_BadSystem).ox (T.fld f_BadSystem).no) (hr.mono (by decide)) B_BadSystem pass0 (by rfl) (T.err m_BadSystem).g (pa_cons (pe_ix ix_list (pv 0) pe_int (fun _ _ => rfl)) pa_nil)) (pa_cons (XV.pe_mkX (T.err m_NoCover).ox (T.fld f_NoCover).ini (T.fld f_NoCover).ty (ok_NoCover I.F_NoCover (T.err m_NoCover).ox (T.fld f_NoCover).no) (hr.mono (by decide)) B_NoCover pass0 (by rfl) (T.err m_NoCover).g (pa_cons (pe_ix ix_list (pv 0) pe_int (fun _ _ => rfl)) pa_nil)) (pa_cons (XV.pe_mkX (T.err m_BadNumber).ox (T.fld f_BadNumber).ini (T.fld f_BadNumber).ty (ok_BadNumber I.F_BadNumber (T.err m_BadNumber).ox (T.fld f_BadNumber).no) (hr.mono (by decide)) B_BadNumber pass0 (by rfl) (T.err m_BadNumber).g (pa_cons (pe_ix ix_list (pv 0) pe_int (fun _ _ => rfl)) pa_nil)) pa_nil))))) pa_nil)))
      (pss_cons (ps_expr (pe_bm PySem.F.plainAttrs_list PySem.F.slot_list_extend PySem.F.type_list_extend mt_extend (pv 1) (pa_cons (pe_lst (pa_cons (XV.pe_mkX (T.err m_NoWish).ox (T.fld f_NoWish).ini (T.fld f_NoWish).ty (ok_NoWish I.F_NoWish (T.err m_NoWish).ox (T.fld f_NoWish).no) (hr.mono (by decide)) B_NoWish pass0 (by rfl) (T.err m_NoWish).g (pa_cons (pe_ix ix_list (pv 0) pe_int (fun _ _ => rfl)) pa_nil)) (pa_cons (XV.pe_mkX (T.err m_BadText).ox (T.fld f_BadText).ini (T.fld f_BadText).ty (ok_BadText I.F_BadText (T.err m_BadText).ox (T.fld f_BadText).no) (hr.mono (by decide)) B_BadText pass0 (by rfl) (T.err m_BadText).g (pa_cons (pe_ix ix_list (pv 0) pe_int (fun _ _ => rfl)) pa_nil)) (pa_cons (XV.pe_mkX (T.err m_BadLine).ox (T.fld f_BadLine).ini (T.fld f_BadLine).ty (ok_BadLine I.F_BadLine (T.err m_BadLine).ox (T.fld f_BadLine).no) (hr.mono (by decide)) B_BadLine pass0 (by rfl) (T.err m_BadLine).g (pa_cons (pe_ix ix_list (pv 0) pe_int (fun _ _ => rfl)) pa_nil)) (pa_cons (XV.pe_mkX (T.err m_NoName).ox (T.fld f_NoName).ini (T.fld f_NoName).ty (ok_NoName I.F_NoName (T.err m_NoName).ox (T.fld f_NoName).no) (hr.mono (by decide)) B_NoName pass0 (by rfl) (T.err m_NoName).g (pa_cons (pe_ix ix_list (pv 0) pe_int (fun _ _ => rfl)) pa_nil)) pa_nil))))) pa_nil)))
      (pss_cons (ps_expr (pe_bm PySem.F.plainAttrs_list PySem.F.slot_list_extend PySem.F.type_list_extend mt_extend (pv 1) (pa_cons (pe_lst (pa_cons (XV.pe_mkX (T.err m_TooMany).ox (T.fld f_TooMany).ini (T.fld f_TooMany).ty (ok_TooMany I.F_TooMany (T.err m_TooMany).ox (T.fld f_TooMany).no) (hr.mono (by decide)) B_TooMany pass0 (by rfl) (T.err m_TooMany).g (pa_cons (pe_ix ix_list (pv 0) pe_int (fun _ _ => rfl)) pa_nil)) pa_nil)) pa_nil)))
      (pss_cons (ps_expr (pe_bm PySem.F.plainAttrs_list PySem.F.slot_list_extend PySem.F.type_list_extend mt_extend (pv 1) (pa_cons (pe_lst (pa_cons (XV.pe_mk0 PySem.F.excBase_ValueError (T.pln p_NoInteger) (T.err m_NoInteger).g (T.err m_NoInteger).ox.kC (by rfl)) (pa_cons (XV.pe_mk0 PySem.F.excBase_ValueError (T.pln p_NoUnknown) (T.err m_NoUnknown).g (T.err m_NoUnknown).ox.kC (by rfl)) (pa_cons (XV.pe_mk0 PySem.F.excBase_ValueError (T.pln p_NoNumber) (T.err m_NoNumber).g (T.err m_NoNumber).ox.kC (by rfl)) (pa_cons (XV.pe_mk0 PySem.F.excBase_ValueError (T.pln p_NoPoint) (T.err m_NoPoint).g (T.err m_NoPoint).ox.kC (by rfl)) (pa_cons (XV.pe_mk0 PySem.F.excBase_ValueError (T.pln p_NoDivisor) (T.err m_NoDivisor).g (T.err m_NoDivisor).ox.kC (by rfl)) (pa_cons (XV.pe_mk0 PySem.F.excBase_ValueError (T.pln p_NoChain) (T.err m_NoChain).g (T.err m_NoChain).ox.kC (by rfl)) pa_nil))))))) pa_nil)))
      (pss_cons (ps_expr (pe_bm PySem.F.plainAttrs_list PySem.F.slot_list_extend PySem.F.type_list_extend mt_extend (pv 1) (pa_cons (pe_lst (pa_cons (XV.pe_mk0 PySem.F.excBase_ValueError (T.pln p_NoPolynomial) (T.err m_NoPolynomial).g (T.err m_NoPolynomial).ox.kC (by rfl)) (pa_cons (XV.pe_mk0 PySem.F.excBase_ValueError (T.pln p_Unlike) (T.err m_Unlike).g (T.err m_Unlike).ox.kC (by rfl)) (pa_cons (XV.pe_mk0 PySem.F.excBase_ValueError (T.pln p_NoBox) (T.err m_NoBox).g (T.err m_NoBox).ox.kC (by rfl)) (pa_cons (XV.pe_mk0 PySem.F.excBase_ValueError (T.pln p_Double) (T.err m_Double).g (T.err m_Double).ox.kC (by rfl)) (pa_cons (XV.pe_mk0 PySem.F.excBase_ValueError (T.pln p_NoBoxing) (T.err m_NoBoxing).g (T.err m_NoBoxing).ox.kC (by rfl)) (pa_cons (XV.pe_mk0 PySem.F.excBase_ValueError (T.pln p_NoFraction) (T.err m_NoFraction).g (T.err m_NoFraction).ox.kC (by rfl)) pa_nil))))))) pa_nil)))
      (pss_cons (ps_expr (pe_bm PySem.F.plainAttrs_list PySem.F.slot_list_extend PySem.F.type_list_extend mt_extend (pv 1) (pa_cons (pe_lst (pa_cons (XV.pe_mk0 PySem.F.excBase_ValueError (T.pln p_NoWidth) (T.err m_NoWidth).g (T.err m_NoWidth).ox.kC (by rfl)) (pa_cons (XV.pe_mk0 PySem.F.excBase_ValueError (T.pln p_ByNought) (T.err m_ByNought).g (T.err m_ByNought).ox.kC (by rfl)) (pa_cons (XV.pe_mk0 PySem.F.excBase_ValueError (T.pln p_Below) (T.err m_Below).g (T.err m_Below).ox.kC (by rfl)) (pa_cons (XV.pe_mk0 PySem.F.excBase_ValueError (T.pln p_Endless) (T.err m_Endless).g (T.err m_Endless).ox.kC (by rfl)) (pa_cons (XV.pe_mk0 PySem.F.excBase_ValueError (T.pln p_NoLine) (T.err m_NoLine).g (T.err m_NoLine).ox.kC (by rfl)) (pa_cons (XV.pe_mk0 PySem.F.excBase_ValueError (T.pln p_NoPower) (T.err m_NoPower).g (T.err m_NoPower).ox.kC (by rfl)) pa_nil))))))) pa_nil)))
      (pss_one (ps_ret (pv 1)))))))))), ?_⟩
    dsimp only [cxOf, Cx.nox, Cx.wish]
    have hi : ∀ ps : List Mkd, (ps.all fun p => match p.2 with | some (_, i) => decide (i < 9) | none => true) = true → ∀ p ∈ ps, ∀ f i, p.2 = some (f, i) → i < ths.length := fun ps hp p hm f i e => by
      have z := List.all_eq_true.mp hp p hm
      rw [e] at z
      rw [h9]
      exact of_decide_eq_true z
    walk_at "f"
    refine My.new (My.sz (by simp)) fun l n0 => ?_
    walk_at "f"
    refine ext_step (qs := ps0) (ps := []) (us := []) rfl hl n0 (same_new n0) upd_same .nil (by decide) (hi ps0 rfl) fun us H1 s1 l1 e1 => ?_
    walk_at "f"
    refine ext_step (qs := ps1) rfl hl n0 s1 l1 e1 (by decide) (hi ps1 rfl) fun us H1 s1 l1 e1 => ?_
    walk_at "f"
    refine ext_step (qs := ps2) rfl hl n0 s1 l1 e1 (by decide) (hi ps2 rfl) fun us H1 s1 l1 e1 => ?_
    walk_at "f"
    refine ext_step (qs := ps3) rfl hl n0 s1 l1 e1 (by decide) (hi ps3 rfl) fun us H1 s1 l1 e1 => ?_
    walk_at "f"
    refine ext_step (qs := ps4) rfl hl n0 s1 l1 e1 (by decide) (hi ps4 rfl) fun us H1 s1 l1 e1 => ?_
    walk_at "f"
    refine ext_step (qs := ps5) rfl hl n0 s1 l1 e1 (by decide) (hi ps5 rfl) fun us H1 s1 l1 e1 => ?_
    walk_at "f"
    exact k l us H1 n0 s1 l1 e1
end
end K00

set_option Elab.async false
set_option linter.all false
set_option maxRecDepth 100000
set_option maxHeartbeats 4000000
/-! for i, x in enumerate(t), t a tuple -/
namespace PySem
open AutoSeq1 (wpAny_loadPart')
namespace EnT
def itO (t : Addr) : Obj := { cls := .type "tuple_iterator", data := .fields #[.ref t, .int 0 0] }
def enO (it : Addr) : Obj := { cls := .type "enumerate", data := .fields #[.none, .bool false, .ref it, rawInt 0, .none, .none] }
theorem meets_enT (t : Addr) (items : Array Value) :
    Meets (Builtin.«enumerate.__new__» ⟨[.type "enumerate", .ref t], []⟩) (fun _ R s => s.heap.IsTuple t items ∧ R (.ok (.ret (.ref (s.heap.push (itO t)).objs.size))) { s with heap := (s.heap.push (itO t)).push (enO s.heap.objs.size) }) :=
  .of_wp fun prog w A R s h => by
    obtain ⟨hp, g, d, tk, os⟩ := s
    obtain ⟨hl, h⟩ := h
    have hsub := sub_enumerate
    have hL : Heap.IsTuple (Shared.heap ⟨hp, g, d, tk, os⟩) t items := hl
    wp_walk
    refine wpAny_stack_any fun st => wpAny_pure ?_
    split
    · rename_i c _ _ _ _ _
      cases (c == Value.type "enumerate")
      · wp_walk using wpAny_pyIter_tuple hL
        exact ⟨_, rfl, h⟩
      · wp_walk using wpAny_pyIter_tuple hL
        exact ⟨_, rfl, h⟩
    · wp_walk using wpAny_pyIter_tuple hL
      exact ⟨_, rfl, h⟩
theorem call_enT {prog : Program} {w : World} {A : Around} {E : Value → Shared → Prop} {s : Shared} {t : Addr} {items : Array Value} {Q : Value → Shared → Prop} (hl : s.heap.IsTuple t items)
    (k : ∀ h', IsEnum h' (s.heap.objs.size + 1) s.heap.objs.size 0 .none → h'.IsTupleIter s.heap.objs.size t 0 → (∀ b o, s.heap.get? b = some o → h'.get? b = some o) → Q (.ref (s.heap.objs.size + 1)) { s with heap := h' }) :
    wpAny (model prog w) A (call (.type "enumerate") [.ref t]) Q E s := by
  refine callType_new F.called_enumerate (by decide) (F.typeCall_enumerate_1 _) (F.newCall_enumerate_1 _) (fun obj => F.args_object_init_2 obj _) F.entry_enumerate_new (meets_enT t items) ⟨hl, ?_⟩
  have sz : (s.heap.push (itO t)).objs.size = s.heap.objs.size + 1 := Heap.size_push ..
  show _ ∧ _
  rw [sz]
  have e1 : IsEnum ((s.heap.push (itO t)).push (enO s.heap.objs.size)) (s.heap.objs.size + 1) s.heap.objs.size 0 .none := by
    have z := Heap.get?_push_size (s.heap.push (itO t)) (o := enO s.heap.objs.size) rfl
    rw [sz] at z
    exact z
  exact ⟨⟨_, e1, rfl⟩, k _ e1 ⟨_, Heap.get?_push_of_some _ (Heap.get?_push_size _ rfl), rfl, rfl⟩ fun b o x => Heap.get?_push_of_some _ (Heap.get?_push_of_some _ x)⟩
end EnT
end PySem
namespace EnT
open PySem PySem.Spec PyProof.Rows L2
/-- the tuple at a, each item in a new pair -/
def It (K : PySem.W.Frag) (a : Addr) : L2.It :=
  ⟨fun i H => ∃ (xs : List V) (x : V), SqT K H a xs ∧ xs[i]? = some x, fun i H v H' => ∃ T x, v = .ref T ∧ H T = none ∧ H' = upd H T (.tup [.int (i : Nat), x]) ∧ ∀ xs, SqT K H a xs → xs[i]? = some x, fun i H => ∃ xs : List V, SqT K H a xs ∧ xs.length = i⟩
theorem turn {P : Program} {w : World} {K : PySem.W.Frag} {elts : List Expr} {kk : Nat} {tpos : Pos} (a e it : Addr) :
    Turn P w K (.Tuple elts kk tpos) (It K a) [e, it] e (fun i h => (∃ old, IsEnum h e it ((i : Nat) : Int) old) ∧ h.IsTupleIter it a i ∧ e ≠ it) where
  mem := List.mem_cons_self
  obj := fun i h st b hb => by
    obtain ⟨⟨old, he⟩, ⟨o, ho, hc, hd⟩, _⟩ := st
    rcases (show b = e ∨ b = it by simpa using hb) with rfl | rfl
    · exact ⟨_, he, fun v q => nomatch q⟩
    · exact ⟨o, ho, fun v q => by rw [hd] at q; cases q⟩
  keep := fun i h h' st k => by
    obtain ⟨⟨old, he⟩, hi, hne⟩ := st
    exact ⟨⟨old, k e (by simp) _ he⟩, hi.at fun o q => k it (by simp) o q, hne⟩
  item := by
    intro X hP hw hK hc i pins s σ H E I hf st hg
    subst hP hw hK
    obtain ⟨⟨old, he⟩, hit, hne⟩ := st
    obtain ⟨xs, x, hq, hx⟩ := hg
    obtain ⟨its, rv, p, _⟩ := I.tuple hq
    obtain ⟨u, hu, ru⟩ := rv.get hx
    have le : e < s.heap.objs.size := Heap.lt_size he
    have li : it < s.heap.objs.size := by obtain ⟨_, q, _⟩ := hit; exact Heap.lt_size q
    have nai : a ≠ it := fun z => by
      obtain ⟨o1, q1, c1, _⟩ := p
      obtain ⟨o2, q2, c2, _⟩ := hit
      rw [z, q2] at q1
      rw [← Option.some.inj q1, c2] at c1
      simp at c1
    have nae : e ∉ [it, a] := fun z => by
      rcases (show e = it ∨ e = a by simpa using z) with z | z
      · exact hne z
      · obtain ⟨o1, q1, c1, _⟩ := p
        rw [← z, he] at q1
        rw [← Option.some.inj q1] at c1
        simp at c1
    have hi : i < its.toArray.size := by
      have z := (List.getElem?_eq_some_iff.mp hu).1
      simpa using z
    refine wpAny_pyNext_enum_itemD (PySem.Draws.tuple (A := X.A.in1) (show X.A.in1.handled = none from I.ok.hd hc) it a nai its.toArray) he ⟨hit, p⟩ hi hne nae fun y h1 tk py ho st1 hT _ hk => ?_
    have ey : y = u := by
      rw [show its.toArray[i]? = some u by simpa using hu] at py
      exact (Option.some.inj py).symm
    subst ey
    refine ⟨_, rfl, wpAny_letOwnedTupleGo_enum (s := { s with heap := h1, toks := tk + 1 }) ho fun h2 he2 sb => ?_⟩
    have hT2 : h2.get? s.heap.objs.size = some { cls := .type "tuple", data := .seq #[.int i tk, y] } := (sb.2 _ (Nat.ne_of_gt le)).trans hT
    have new : ObjOk X.prog X.w (upd H s.heap.objs.size (.tup [.int (i : Nat), x])) h2 s.heap.objs.size (.tup [.int (i : Nat), x]) :=
      ⟨My.sz (by simp), [.int i tk, y], .cons ⟨_, rfl⟩ (.cons ru .nil), ⟨_, hT2, rfl, _, rfl⟩⟩
    have J : Inv X pins σ (upd H s.heap.objs.size (.tup [.int (i : Nat), x])) { s with heap := h2, toks := tk + 1 } :=
      I.turnedNew (ch := [e, it]) (fun b ob hb q => (sb.2 b (fun z => hb (by simp [z]))).trans (hk b ob (fun z => hb (by simp [z])) (fun z => hb (by simp [z])) q)) hf (Nat.le_refl _) new
    refine ⟨.ref s.heap.objs.size, _, J, rfl, ⟨_, x, rfl, I.hok.fresh (Nat.le_refl _), rfl, fun ys hy => by rw [I.tuple_inj hy hq]; exact hx⟩, ⟨⟨y, ?_⟩, st1.1.at fun o q => (sb.2 it (Ne.symm hne)).trans q, hne⟩, fun b hb => ?_⟩
    · rw [show ((i + 1 : Nat) : Int) = (i : Int) + 1 by omega]
      exact he2
    · have lb : b < s.heap.objs.size := by
        rcases (show b = e ∨ b = it by simpa using hb) with rfl | rfl
        · exact le
        · exact li
      rw [upd_ne (Nat.ne_of_lt lb)]
      exact (hf b hb).1
  done := by
    intro X hP hw hK hc i pins s σ H E I hf st hg
    subst hP hw hK
    obtain ⟨⟨old, he⟩, hit, hne⟩ := st
    obtain ⟨xs, hq, rfl⟩ := hg
    obtain ⟨its, rv, p, _⟩ := I.tuple hq
    obtain ⟨f0, f1, f2, f3, f4, f5⟩ := hf it (by simp)
    have nai : a ≠ it := fun z => by
      obtain ⟨o1, q1, c1, _⟩ := p
      obtain ⟨o2, q2, c2, _⟩ := hit
      rw [z, q2] at q1
      rw [← Option.some.inj q1, c2] at c1
      simp at c1
    have sz : its.toArray.size = xs.length := by rw [List.size_toArray, rv.length]
    have hit' : s.heap.IsTupleIter it a its.toArray.size := by rw [sz]; exact hit
    exact wpAny_pyNext_enum_endD (PySem.Draws.tuple (A := X.A.in1) (show X.A.in1.handled = none from I.ok.hd hc) it a nai its.toArray) he ⟨hit', p⟩ fun h' eb => ⟨rfl, I.turned (t' := s.toks) (fun b o hb q => eb b o hb q) f0 f1 f3 f4 f5⟩
  self := fun A i s Q E st h => let ⟨⟨_, he⟩, _⟩ := st; wpAny_pyIter_enum he h
def iEnT (K : PySem.W.Frag) (ta : TA) : TI := fun σ H R => ta σ H fun vs H1 => ∃ a xs, vs = [.ref a] ∧ SqT K H1 a xs ∧ R (It K a) H1
theorem pi_enumT {X : Cx} {e : Expr} {ta : TA} {p pos tpos : Pos} {elts : List Expr} {kk : Nat} (hg : Gl X "enumerate") (hm : X.mg "enumerate" = none) (ha : PA X [e] ta) (hs : starEach [e] X.env = [(false, eval e X.env)] := by rfl) :
    PI X (.Tuple elts kk tpos) (.Call (.Name "enumerate" p) [e] [] pos) (iEnT X.K ta) := by
  refine ⟨fun pins s σ H R I h => ?_⟩
  refine Call_ (ld_blt I hg hm boot_enumerate (PyProof.Rows.callWith_type1 (thn (ha.run pos pins s σ H _ I h) fun us s1 z => ?_) hs rfl))
  obtain ⟨vs, H1, I1, r1, a, xs, rfl, hq, q⟩ := z
  obtain ⟨u, rfl, ru⟩ := r1.one
  cases ru
  obtain ⟨its, rv, p', _⟩ := I1.tuple hq
  refine PySem.EnT.call_enT p' fun h' he hit hk => wpAny_pyIter_enum he ?_
  have J : Inv X pins σ H1 { s1 with heap := h' } := I1.kept (t' := s1.toks) hk
  refine ⟨s1.heap.objs.size + 1, [s1.heap.objs.size + 1, s1.heap.objs.size], _, _, H1, rfl, J, turn a (s1.heap.objs.size + 1) s1.heap.objs.size, ⟨⟨.none, he⟩, hit, Nat.succ_ne_self _⟩, fun b hb => ?_, q⟩
  have lb : s1.heap.objs.size ≤ b := by
    rcases (show b = s1.heap.objs.size + 1 ∨ b = s1.heap.objs.size by simpa using hb) with rfl | rfl
    · exact Nat.le_succ _
    · exact Nat.le_refl _
  exact I1.fpOk lb (I1.hok.fresh lb)
theorem walk_enT {K : PySem.W.Frag} {a : Addr} {xs : List V} : Walk (It K a) xs.length (fun H => SqT K H a xs) (YPair (fun i => some (.int (i : Nat))) (fun i => xs[i]?)) := by
  refine ⟨fun i _ hi q => ⟨xs, xs[i], q, by simp [hi]⟩, fun _ q => ⟨xs, q, rfl⟩, fun i H v H' _ q y => ?_⟩
  obtain ⟨T, x, h1, h2, h3, h4⟩ := y
  exact ⟨T, .int (i : Nat), x, h1, h2, h3, rfl, h4 xs q⟩
/-- what a for over enumerate(t) asks behind its argument -/
def FT (K : PySem.W.Frag) (vs : List V) (g : TG) (tb : TS) (D : Ends) (σ : L2.St) (H1 : Hp) : Prop := ∃ a xs, vs = [.ref a] ∧ SqT K H1 a xs ∧ ∃ W : Nat → Nat → L2.St → Hp → Prop, (∃ m, W 0 m σ H1) ∧ ∀ i m σ H, W i m σ H →
  ((It K a).stop i H ∧ D.nx σ H) ∨ ((It K a).go i H ∧ ∃ N : L2.St → Hp → Prop, (∀ σ' H', N σ' H' → ∃ m', m' < m ∧ W (i + 1) m' σ' H') ∧ ∀ x H', (It K a).yld i H x H' → g x σ H' fun σ2 H2 => tb { D with nx := N, ct := N, bk := D.nx } σ2 H2)
theorem forT1 {K : PySem.W.Frag} {tl : TA} {g : TG} {tb : TS} {D : Ends} {σ : L2.St} {H : Hp} (h : tl σ H fun vs H1 => FT K vs g tb D σ H1) : tFor (iEnT K tl) g tb D σ H := h
theorem forT {K : PySem.W.Frag} {g : TG} {tb : TS} {D : Ends} {σ : L2.St} {H : Hp} {a : Addr} {xs : List V} (hl : SqT K H a xs) (Pv : Nat → L2.St → Hp → Prop) (h0 : Pv 0 σ H) (hG : ∀ i σ H, i ≤ xs.length → Pv i σ H → SqT K H a xs)
    (hs : ∀ i x T σ H, xs[i]? = some x → Pv i σ H → H T = none → g (.ref T) σ (upd H T (.tup [.int (i : Nat), x])) fun σ2 H2 => tb { D with nx := Pv (i + 1), ct := Pv (i + 1), bk := D.nx } σ2 H2) (hd : ∀ σ H, Pv xs.length σ H → D.nx σ H) : FT K [.ref a] g tb D σ H :=
  ⟨a, xs, rfl, hl, for_it walk_enT Pv h0 hG (fun i v σ H H' hi p y => by
    obtain ⟨T, x, z, rfl, hT, rfl, ex, ez⟩ := y
    cases ex
    exact hs i z T σ H ez p hT) hd⟩
end EnT

set_option Elab.async false
set_option linter.all false
set_option maxRecDepth 100000
set_option maxHeartbeats 4000000
namespace K00
open PySem PySem.Spec PyProof.Rows L2 XV XF He
/-- what the head says of Poly -/
structure PolT (K : PySem.W.Frag) (mg : Str → Option Value) (C fI fE : Addr) : Prop where
  g : mg "Poly" = some (.ref C)
  cl : Cls K C
  nt : NoAttr K C "terms"
  mkr : Mk K C fI
  eq : Meth K C "__eq__" fE
  ha : PySem.W.findIn K (.ref C) "__class__" = some (some (.builtin "object.__class__"))
  hn : PySem.W.specialIn K (.builtin "object.__class__") "__get__" = some (some (.builtin "getset_descriptor.__get__"))
  ht : PySem.W.takesIn K (.builtin "object.__class__") = some true
  hm : PySem.W.mroIn K C (.type "object") = some true
  kb : PySem.W.kitOne K (.ref C) (.type "bool") = some false
  kp : PySem.W.kitOne K (.ref C) (.ref C) = some true
  most : ∃ t, mg "MOST_TERMS" = some (.int 300 t)
theorem isi {K : PySem.W.Frag} {H : Hp} {x c : V} {t u : Value} {b : Bool} {Q : VK} (k : ClsV c u) (hx : TyX K H x t) (e : PySem.W.kitOne K t u = some b) (q : Q (.bl b) H) : rIsi K [x, c] H Q := ⟨x, c, t, u, b, rfl, k, hx, e, q⟩
def spPoly0 (C : Addr) : Sp := fun vs H Q _ => ∃ (p dx t : Addr), vs = [.ref p, .ref t] ∧ H p = some (.ins C dx []) ∧ H t = some (.tup []) ∧ Q .non (upd H p (.ins C dx [("terms", .ref t)]))
/-- the relation of an own == that is asked -/
def REq (C : Addr) (a b : Addr) (H : Hp) : Prop := a = b ∧ Nought C a H
section
variable {P : Program} {w : World} {K : PySem.W.Frag} {mg : Str → Option Value} {base : Heap}
theorem sc_pini : FnScope ["self", "terms", "index", "term"] ["self", "terms"] (defScope s_Poly_init) := ⟨rfl, rfl, rfl, by decide +kernel, rfl, by decide +kernel, by decide +kernel⟩
theorem ok_pini {f C fI fE : Addr} {fd : FuncData} (F : FnP K "__init__" "Poly.__init__" s_Poly_init f fd) (T : Txt0 mg) (PT : PolT K mg C fI fE) : FnOk P w K mg base CX0 1 f fd ["self", "terms"] (spPoly0 C) := by
  obtain ⟨tm, hMT⟩ := PT.most
  refine F.ok sc_pini (fun vs H Q E h => ?_) (fun cdv A outer s H vs Q E hr h => ?_)
  · obtain ⟨p, dx, t, rfl, _⟩ := h
    rfl
  · obtain ⟨p, dx, t, rfl, hp, ht, k⟩ := h
    refine ⟨_, PSs.nox (pss_cons (ps_if (PW.pt (pw_or (pt_not (pt_val (pe_callB call_isi (by rfl) T.isi (by decide +kernel) (pa_cons (pv 1) (pa_cons (pe_bltn (v := .ty "tuple") (u := .type "tuple") (by rfl) T.tuple (by decide +kernel) rfl) pa_nil))))) (pw_or1 (pt_cmpR op_gt (pe_callB My.c_len (by rfl) T.len PySem.boot_len (pa_cons (pv 1) pa_nil)) (pe_glob (v := .int 300) (by rfl) hMT ⟨_, rfl⟩) (nomark _))))) (pss_one ps_never) pss_nil)
      (pss_cons (ps_for PassesOwn.never rfl (EnT.pi_enumT (by rfl) T.enum (pa_cons (pv 1) pa_nil)) (pg_tup (by rfl) (pgs_cons (pg_name (i := 2) sc_pini.nd rfl (Or.inl rfl)) (pgs_cons (pg_name (i := 3) sc_pini.nd rfl (Or.inl rfl)) pgs_nil))) (pss_one ps_never))
      (pss_one (ps_fld (pv 0) (pv 1) rfl)))), ?_⟩
    dsimp only [cxOf, Cx.nox, Cx.wish]
    walk_at "f"
    refine isi (.ty _) (.base (.tup ht)) (kit_ty (r := true) (by decide +kernel)) ?_
    walk_at "f"
    refine My.lenT (SqT.of ht) ?_
    walk_at "f"
    · rename_i z
      simp at z
    · refine EnT.forT1 ?_
      walk_at "f"
      refine EnT.forT (SqT.of ht) (fun _ σ' H' => σ' = L2.start ["self", "terms", "index", "term"] [V.ref p, V.ref t] ∧ H' = H) ⟨rfl, rfl⟩ (fun _ _ _ _ z => by rw [z.2]; exact SqT.of ht) (fun i x T σ' H' hx => by simp at hx) ?_
      rintro σ' H' ⟨rfl, rfl⟩
      exact ⟨_, rfl, _, rfl, p, C, dx, [], rfl, hp, PT.cl, PT.nt, by show 0 < 1000; decide, k⟩
theorem sc_peq : FnScope ["self", "other"] ["self", "other"] (defScope s_Poly_eq) := ⟨rfl, rfl, rfl, by decide +kernel, rfl, by decide +kernel, by decide +kernel⟩
theorem ok_peq {f C fI fE : Addr} {fd : FuncData} (F : FnP K "__eq__" "Poly.__eq__" s_Poly_eq f fd) (T : Txt0 mg) (PT : PolT K mg C fI fE) : FnOk P w K mg base CX0 4 f fd ["self", "other"] (L2.spEq (REq C)) := by
  have gP := PT.g
  refine F.ok sc_peq (fun vs H Q E h => ?_) (fun cdv A outer s H vs Q E hr h => ?_)
  · obtain ⟨a, b, rfl, _⟩ := h
    rfl
  · obtain ⟨a, b, rfl, ⟨rfl, dx, t, ha, ht⟩, k⟩ := h
    refine ⟨_, PSs.nox (pss_one (ps_ret (pe_and (pe_callB call_isi (by rfl) T.isi (by decide +kernel) (pa_cons (pv 1) (pa_cons (pe_glob (v := .ref C) (by rfl) gP rfl) pa_nil))) (pe_one (pe_cmpR (op_eqG (rcG_tup mon_elem (eqG_elem (n := 1))) (hr.mono (by decide))) (pe_fld (pv 0) rfl) (pe_fld (pv 1) rfl) (nomark _)))))), ?_⟩
    dsimp only [cxOf, Cx.nox, Cx.wish]
    walk_at "f"
    refine isi (.own _) (.base (.ins ha PT.cl PT.ha PT.hn PT.ht PT.hm)) PT.kp ?_
    walk_at "f"
    have lk : ([("terms", V.ref t)] : List (Str × V)).lookup ("terms" : Str) = some (.ref t) := by simp [List.lookup]
    exact ⟨_, rfl, a, C, dx, _, .ref t, rfl, ha, PT.cl, PT.nt, lk, _, rfl, a, C, dx, _, .ref t, rfl, ha, PT.cl, PT.nt, lk, ⟨t, t, [], [], rfl, rfl, SqT.of ht, SqT.of ht, Prs.nil⟩, k⟩
/-! ### _law_is -/
def spIs (C : Addr) : Sp := fun vs H Q _ => ∃ (d : Addr) (v : V), vs = [v, v] ∧ Thing C d H v ∧ ∀ H', Same H H' → Q (.bl true) H'
theorem thing_isi {C d fI fE : Addr} {H : Hp} {v : V} (PT : PolT K mg C fI fE) (t : Thing C d H v) : ∃ (u : Value) (b : Bool), TyX K H v u ∧ PySem.W.kitOne K u (.type "bool") = some b := by
  cases t with
  | non => exact ⟨_, false, .base .non, kit_ty (by decide +kernel)⟩
  | bl b => exact ⟨_, true, .base (.bl b), kit_ty (by decide +kernel)⟩
  | int i => exact ⟨_, false, .base (.int i), kit_ty (by decide +kernel)⟩
  | str x => exact ⟨_, false, .base (.str x), kit_ty (by decide +kernel)⟩
  | lst h o => exact ⟨_, false, .base (.lst h), kit_ty (by decide +kernel)⟩
  | tup h o => exact ⟨_, false, .base (.tup h), kit_ty (by decide +kernel)⟩
  | dic h nd o ne => exact ⟨_, false, .base (.dK h), kit_ty (by decide +kernel)⟩
  | pol h =>
    obtain ⟨dx, t, h1, h2⟩ := h
    exact ⟨_, false, .base (.ins h1 PT.cl PT.ha PT.hn PT.ht PT.hm), PT.kb⟩
theorem thing_self {C d : Addr} {H : Hp} {v : V} (t : Thing C d H v) : SelfV K H (Nought C) v := by
  cases t with
  | non => exact .flat rfl
  | bl b => exact .flat rfl
  | int i => exact .flat rfl
  | str x => exact .flat rfl
  | lst h o => exact .lst (SqL.of h) o
  | tup h o => exact .tup (SqT.of h) o
  | dic h nd o ne => exact .dic h nd o
  | pol h => exact .ins h
theorem sc_is : FnScope ["_law_told", "_law_due"] ["_law_told", "_law_due"] (defScope s_law_is) := ⟨rfl, rfl, rfl, by decide +kernel, rfl, by decide +kernel, by decide +kernel⟩
theorem ok_is {f C fI fE : Addr} {fd fdE : FuncData} (F : FnP K "_law_is" "_law_is" s_law_is f fd) (FE : FnP K "__eq__" "Poly.__eq__" s_Poly_eq fE fdE) (T : Txt0 mg) (PT : PolT K mg C fI fE) : FnOk P w K mg base CX0 6 f fd ["_law_told", "_law_due"] (spIs C) := by
  have GE : FnOk P w K mg base CX0 4 fE fdE ["self", "other"] (L2.spEq (REq C)) := ok_peq FE T PT
  have bE : Binds K fdE ["self", "other"] [] := FE.bindsN fun _ _ _ _ _ _ us hl => match us, hl with | [_, _], _ => rfl
  refine F.ok sc_is (fun vs H Q E h => ?_) (fun cdv A outer s H vs Q E hr h => ?_)
  · obtain ⟨d, v, rfl, _⟩ := h
    rfl
  · obtain ⟨d, v, rfl, t, k⟩ := h
    have RG : RcG (cxOf CX0 P w K mg base ["_law_told", "_law_due"] "_law_is" (defScope s_law_is) f cdv A outer s H E).nox 4 (DIns C (REq C)) := rcG_ins GE PT.eq.1 PT.eq.2 bE pass0
    refine ⟨_, PSs.nox (pss_one (ps_ret (pe_and (pe_cmpR (op_self (n := 4) (hr.mono (by decide)) RG) (pv 0) (pv 1) (nomark _)) (pe_one (pe_cmpR op_eq (pe_callB call_isi (by rfl) T.isi (by decide +kernel) (pa_cons (pv 0) (pa_cons (pe_bltn (v := .ty "bool") (u := .type "bool") (by rfl) T.bool (by decide +kernel) rfl) pa_nil))) (pe_callB call_isi (by rfl) T.isi (by decide +kernel) (pa_cons (pv 1) (pa_cons (pe_bltn (v := .ty "bool") (u := .type "bool") (by rfl) T.bool (by decide +kernel) rfl) pa_nil))) (nomark _)))))), ?_⟩
    dsimp only [cxOf, Cx.nox, Cx.wish]
    walk_at "f"
    refine self_eq (thing_self t) (fun a ⟨dx, t, h1, h2⟩ => ⟨a, a, dx, dx, _, _, rfl, rfl, h1, h1, rfl, dx, t, h1, h2⟩) fun H1 e1 => ?_
    walk_at "f"
    have tH := t.same e1
    obtain ⟨u, b, ty, kk⟩ := thing_isi PT tH
    refine isi (.ty _) ty kk ?_
    walk_at "f"
    refine isi (.ty _) ty kk ?_
    walk_at "f"
    refine ⟨by cases b <;> rfl, ?_⟩
    rw [decide_eq_true rfl]
    exact k H1 e1
end
end K00

set_option Elab.async false
set_option linter.all false
set_option maxRecDepth 100000
set_option maxHeartbeats 4000000
namespace K00
open PySem PySem.Spec PyProof.Rows L2 XV XF He
/-- an exception of the class y stands at a -/
def IsEr (K : PySem.W.Frag) (H : Hp) (a : Addr) (y : Str) : Prop := (∃ f z, ErrF H a (ga K y) f z) ∨ ErrN H a (ga K y)
theorem IsEr.same {K : PySem.W.Frag} {H H' : Hp} {a : Addr} {y : Str} (s : Same H H') (e : IsEr K H a y) : IsEr K H' a y := by
  rcases e with ⟨f, z, d, h1, h2⟩ | h
  · exact .inl ⟨f, z, d, s _ _ h1, s _ _ h2⟩
  · exact .inr (s _ _ (show H a = some (ExO (.ref (ga K y)) a) from h))
theorem IsEr.but {K : PySem.W.Frag} {H H' : Hp} {a l : Addr} {y : Str} {xs : List V} (hl : H l = some (.lst xs)) (s : But l H H') (e : IsEr K H a y) : IsEr K H' a y := by
  have ne : ∀ {b : Addr} {φ : Heap → Prop}, H b = some (.ext φ) → b ≠ l := fun {b φ} h z => by
    rw [z, hl] at h
    cases h
  rcases e with ⟨f, z, d, h1, h2⟩ | h
  · exact .inl ⟨f, z, d, s _ _ (ne h1) h1, s _ _ (ne h2) h2⟩
  · have h' : H a = some (ExO (.ref (ga K y)) a) := h
    exact .inr (s _ _ (ne h') h')
def tIss (K : PySem.W.Frag) : List Str → TA
  | [] => tNil
  | x :: r => tCons (tCB (rIsX K) (tCons (tVar 0) (tCons (tC (.ref (ga K x))) tNil))) (tIss K r)
abbrev flags (y : Str) (xs : List Str) : List V := xs.map fun x => .bl (decide (y = x))
/-- which class is which -/
def Which (K : PySem.W.Frag) : Prop := ∀ y ∈ nm, ∀ x ∈ nm, PySem.W.kitOne K (.ref (ga K y)) (.ref (ga K x)) = some (decide (y = x))
theorem tIss_q {K : PySem.W.Frag} {mg : Str → Option Value} {σ : L2.St} {H : Hp} {a : Addr} {y : Str} (E0 : TE0 K mg) (W : Which K) (hσ : σ[0]? = some (some (.ref a))) (hy : y ∈ nm) (er : IsEr K H a y) :
    ∀ (xs : List Str) {QA : List V → Hp → Prop}, (∀ x ∈ xs, x ∈ nm) → QA (flags y xs) H → tIss K xs σ H QA
  | [], QA, _, k => k
  | x :: xs, QA, hx, k => by
    refine ⟨_, hσ, a, ga K y, .ref (ga K x), .ref (ga K x), decide (y = x), rfl, er, (E0.err hy).ex, fun u r => r, W y hy x (hx x List.mem_cons_self), ?_⟩
    exact tIss_q E0 W hσ hy er xs (fun z hz => hx z (List.mem_cons_of_mem _ hz)) k
/-- found.extend([isinstance(..), ..]) -/
theorem flag_step {K : PySem.W.Frag} {mg : Str → Option Value} {σ : L2.St} {H : Hp} {a l : Addr} {y : Str} {us : List V} {Q : VK} (E0 : TE0 K mg) (W : Which K) (hσ : σ[0]? = some (some (.ref a))) (hy : y ∈ nm) (er : IsEr K H a y) (hf : H l = some (.lst us)) (xs : List Str) (hx : ∀ x ∈ xs, x ∈ nm)
    (hz : us.length + xs.length ≤ 1000) (k : ∀ b, H b = none → Q .non (upd (upd H b (.lst (flags y xs))) l (.lst (us ++ flags y xs)))) :
    tyV K "list" (.ref l) H ∧ tCons (tLst (tIss K xs)) tNil σ H (fun xs H2 => rExtend (.ref l) xs H2 Q) := by
  refine ⟨.inl ⟨rfl, _, SqL.of hf⟩, ?_⟩
  refine tIss_q E0 W hσ hy er xs hx ⟨My.sz (by rw [List.length_map]; omega), fun b n => ?_⟩
  exact My.ext (same_new n _ _ hf) upd_same (by rw [List.length_map]; exact hz) (k b n)
/-- the state between two of these -/
structure FlS (K : PySem.W.Frag) (H0 H : Hp) (l a : Addr) (y : Str) (us : List V) : Prop where
  s : Same H0 H
  f : H l = some (.lst us)
theorem FlS.next {K : PySem.W.Frag} {H0 H : Hp} {l a b : Addr} {y : Str} {us xs : List V} {o : HO} (n0 : H0 l = none) (z : FlS K H0 H l a y us) (n : H b = none) : FlS K H0 (upd (upd H b o) l (.lst xs)) l a y xs :=
  ⟨fun c u e => by
    rw [upd_ne (ne_of_none e n0)]
    exact same_new n _ _ (z.s _ _ e), upd_same⟩
def spFF (K : PySem.W.Frag) (xs : List Str) : Sp := fun vs H Q _ => ∃ (a : Addr) (y : Str), vs = [.ref a] ∧ y ∈ nm ∧ IsEr K H a y ∧ ∀ (l : Addr) (H' : Hp), H l = none → Same H H' → H' l = some (.lst (flags y xs)) → Q (.ref l) H'
section
variable {P : Program} {w : World} {K : PySem.W.Frag} {mg : Str → Option Value} {base : Heap}
theorem sub_of {xs : List Str} (i : Nat) (h : (nm.drop i).take xs.length = xs) : ∀ x ∈ xs, x ∈ nm := fun x hx => by
  rw [← h] at hx
  exact List.mem_of_mem_drop (List.mem_of_mem_take hx)
theorem sc_ff : FnScope ["_law_error", "_law_found"] ["_law_error"] (defScope s_law_first_flags) := ⟨rfl, rfl, rfl, by decide +kernel, rfl, by decide +kernel, by decide +kernel⟩
theorem ok_ff {f : Addr} {fd : FuncData} (F : FnP K "_law_first_flags" "_law_first_flags" s_law_first_flags f fd) (T : Txt0 mg) (E0 : TE0 K mg) (W : Which K) : FnOk P w K mg base CX0 1 f fd ["_law_error"] (spFF K nmA) := by
  refine F.ok sc_ff (fun vs H Q E h => ?_) (fun cdv A outer s H vs Q E hr h => ?_)
  · obtain ⟨a, y, rfl, _⟩ := h
    rfl
  · obtain ⟨a, y, rfl, hy, er, k⟩ := h
    refine ⟨_, PSs.nox (pss_cons (ps_set (i := 1) sc_ff.nd rfl (Or.inl rfl) (pe_lst pa_nil))
      (pss_cons (ps_expr (pe_bm PySem.F.plainAttrs_list PySem.F.slot_list_extend PySem.F.type_list_extend mt_extend (pv 1) (pa_cons (pe_lst (pa_cons (pe_callB XV.call_isX (by rfl) T.isi (by decide +kernel) (pa_cons (pv 0) (pa_cons (pe_glob (v := .ref (ga K "BadPoly")) (by rfl) (E0.err m_BadPoly).g rfl) pa_nil))) (pa_cons (pe_callB XV.call_isX (by rfl) T.isi (by decide +kernel) (pa_cons (pv 0) (pa_cons (pe_glob (v := .ref (ga K "BadSystem")) (by rfl) (E0.err m_BadSystem).g rfl) pa_nil))) (pa_cons (pe_callB XV.call_isX (by rfl) T.isi (by decide +kernel) (pa_cons (pv 0) (pa_cons (pe_glob (v := .ref (ga K "NoCover")) (by rfl) (E0.err m_NoCover).g rfl) pa_nil))) pa_nil)))) pa_nil)))
      (pss_cons (ps_expr (pe_bm PySem.F.plainAttrs_list PySem.F.slot_list_extend PySem.F.type_list_extend mt_extend (pv 1) (pa_cons (pe_lst (pa_cons (pe_callB XV.call_isX (by rfl) T.isi (by decide +kernel) (pa_cons (pv 0) (pa_cons (pe_glob (v := .ref (ga K "BadNumber")) (by rfl) (E0.err m_BadNumber).g rfl) pa_nil))) (pa_cons (pe_callB XV.call_isX (by rfl) T.isi (by decide +kernel) (pa_cons (pv 0) (pa_cons (pe_glob (v := .ref (ga K "NoWish")) (by rfl) (E0.err m_NoWish).g rfl) pa_nil))) (pa_cons (pe_callB XV.call_isX (by rfl) T.isi (by decide +kernel) (pa_cons (pv 0) (pa_cons (pe_glob (v := .ref (ga K "BadText")) (by rfl) (E0.err m_BadText).g rfl) pa_nil))) pa_nil)))) pa_nil)))
      (pss_cons (ps_expr (pe_bm PySem.F.plainAttrs_list PySem.F.slot_list_extend PySem.F.type_list_extend mt_extend (pv 1) (pa_cons (pe_lst (pa_cons (pe_callB XV.call_isX (by rfl) T.isi (by decide +kernel) (pa_cons (pv 0) (pa_cons (pe_glob (v := .ref (ga K "BadLine")) (by rfl) (E0.err m_BadLine).g rfl) pa_nil))) (pa_cons (pe_callB XV.call_isX (by rfl) T.isi (by decide +kernel) (pa_cons (pv 0) (pa_cons (pe_glob (v := .ref (ga K "NoName")) (by rfl) (E0.err m_NoName).g rfl) pa_nil))) (pa_cons (pe_callB XV.call_isX (by rfl) T.isi (by decide +kernel) (pa_cons (pv 0) (pa_cons (pe_glob (v := .ref (ga K "TooMany")) (by rfl) (E0.err m_TooMany).g rfl) pa_nil))) pa_nil)))) pa_nil)))
      (pss_one (ps_ret (pv 1))))))), ?_⟩
    dsimp only [cxOf, Cx.nox, Cx.wish]
    walk_at "f"
    refine My.new (My.sz (by simp)) fun l n0 => ?_
    have z0 : FlS K H (upd H l (.lst [])) l a y [] := ⟨same_new n0, upd_same⟩
    walk_at "f"
    refine flag_step E0 W rfl hy (er.same z0.s) z0.f ["BadPoly", "BadSystem", "NoCover"] (sub_of 0 rfl) (by simp) fun b nb => ?_
    have z1 := z0.next (o := .lst (flags y ["BadPoly", "BadSystem", "NoCover"])) (xs := [] ++ flags y ["BadPoly", "BadSystem", "NoCover"]) n0 nb
    walk_at "f"
    refine flag_step E0 W rfl hy (er.same z1.s) z1.f ["BadNumber", "NoWish", "BadText"] (sub_of 3 rfl) (by simp) fun b nb => ?_
    have z2 := z1.next (o := .lst (flags y ["BadNumber", "NoWish", "BadText"])) (xs := [] ++ flags y ["BadPoly", "BadSystem", "NoCover"] ++ flags y ["BadNumber", "NoWish", "BadText"]) n0 nb
    walk_at "f"
    refine flag_step E0 W rfl hy (er.same z2.s) z2.f ["BadLine", "NoName", "TooMany"] (sub_of 6 rfl) (by simp) fun b nb => ?_
    have z3 := z2.next (o := .lst (flags y ["BadLine", "NoName", "TooMany"])) (xs := [] ++ flags y ["BadPoly", "BadSystem", "NoCover"] ++ flags y ["BadNumber", "NoWish", "BadText"] ++ flags y ["BadLine", "NoName", "TooMany"]) n0 nb
    walk_at "f"
    exact k l _ n0 z3.s z3.f
theorem sc_fl : FnScope ["_law_error", "_law_found"] ["_law_error"] (defScope s_law_flags) := ⟨rfl, rfl, rfl, by decide +kernel, rfl, by decide +kernel, by decide +kernel⟩
theorem ok_fl {f fF : Addr} {fd fdF : FuncData} (F : FnP K "_law_flags" "_law_flags" s_law_flags f fd) (F_law_first_flags : FnP K "_law_first_flags" "_law_first_flags" s_law_first_flags fF fdF) (g_ff : mg "_law_first_flags" = some (.ref fF)) (T : Txt0 mg) (E0 : TE0 K mg) (W : Which K) :
    FnOk P w K mg base CX0 2 f fd ["_law_error"] (spFF K nm) := by
  have G_law_first_flags : FnOk P w K mg base CX0 1 fF fdF ["_law_error"] (spFF K nmA) := ok_ff F_law_first_flags T E0 W
  have b_law_first_flags : Binds K fdF ["_law_error"] [] := F_law_first_flags.bindsN fun _ _ _ _ _ _ us hl => match us, hl with | [_], _ => rfl
  refine F.ok sc_fl (fun vs H Q E h => ?_) (fun cdv A outer s H vs Q E hr h => ?_)
  · obtain ⟨a, y, rfl, _⟩ := h
    rfl
  · obtain ⟨a, y, rfl, hy, er, k⟩ := h
    refine ⟨_, PSs.nox (pss_cons (ps_set (i := 1) sc_fl.nd rfl (Or.inl rfl) (pe_call G_law_first_flags (hr.mono (by decide)) (by rfl) g_ff F_law_first_flags.kp b_law_first_flags .nil pass0 (pa_cons (pv 0) pa_nil)))
      (pss_cons (ps_expr (pe_bm PySem.F.plainAttrs_list PySem.F.slot_list_extend PySem.F.type_list_extend mt_extend (pv 1) (pa_cons (pe_lst (pa_cons (pe_callB XV.call_isX (by rfl) T.isi (by decide +kernel) (pa_cons (pv 0) (pa_cons (pe_glob (v := .ref (ga K "NoInteger")) (by rfl) (E0.err m_NoInteger).g rfl) pa_nil))) (pa_cons (pe_callB XV.call_isX (by rfl) T.isi (by decide +kernel) (pa_cons (pv 0) (pa_cons (pe_glob (v := .ref (ga K "NoUnknown")) (by rfl) (E0.err m_NoUnknown).g rfl) pa_nil))) (pa_cons (pe_callB XV.call_isX (by rfl) T.isi (by decide +kernel) (pa_cons (pv 0) (pa_cons (pe_glob (v := .ref (ga K "NoNumber")) (by rfl) (E0.err m_NoNumber).g rfl) pa_nil))) pa_nil)))) pa_nil)))
      (pss_cons (ps_expr (pe_bm PySem.F.plainAttrs_list PySem.F.slot_list_extend PySem.F.type_list_extend mt_extend (pv 1) (pa_cons (pe_lst (pa_cons (pe_callB XV.call_isX (by rfl) T.isi (by decide +kernel) (pa_cons (pv 0) (pa_cons (pe_glob (v := .ref (ga K "NoPoint")) (by rfl) (E0.err m_NoPoint).g rfl) pa_nil))) (pa_cons (pe_callB XV.call_isX (by rfl) T.isi (by decide +kernel) (pa_cons (pv 0) (pa_cons (pe_glob (v := .ref (ga K "NoDivisor")) (by rfl) (E0.err m_NoDivisor).g rfl) pa_nil))) (pa_cons (pe_callB XV.call_isX (by rfl) T.isi (by decide +kernel) (pa_cons (pv 0) (pa_cons (pe_glob (v := .ref (ga K "NoChain")) (by rfl) (E0.err m_NoChain).g rfl) pa_nil))) pa_nil)))) pa_nil)))
      (pss_cons (ps_expr (pe_bm PySem.F.plainAttrs_list PySem.F.slot_list_extend PySem.F.type_list_extend mt_extend (pv 1) (pa_cons (pe_lst (pa_cons (pe_callB XV.call_isX (by rfl) T.isi (by decide +kernel) (pa_cons (pv 0) (pa_cons (pe_glob (v := .ref (ga K "NoPolynomial")) (by rfl) (E0.err m_NoPolynomial).g rfl) pa_nil))) (pa_cons (pe_callB XV.call_isX (by rfl) T.isi (by decide +kernel) (pa_cons (pv 0) (pa_cons (pe_glob (v := .ref (ga K "Unlike")) (by rfl) (E0.err m_Unlike).g rfl) pa_nil))) (pa_cons (pe_callB XV.call_isX (by rfl) T.isi (by decide +kernel) (pa_cons (pv 0) (pa_cons (pe_glob (v := .ref (ga K "NoBox")) (by rfl) (E0.err m_NoBox).g rfl) pa_nil))) pa_nil)))) pa_nil)))
      (pss_cons (ps_expr (pe_bm PySem.F.plainAttrs_list PySem.F.slot_list_extend PySem.F.type_list_extend mt_extend (pv 1) (pa_cons (pe_lst (pa_cons (pe_callB XV.call_isX (by rfl) T.isi (by decide +kernel) (pa_cons (pv 0) (pa_cons (pe_glob (v := .ref (ga K "Double")) (by rfl) (E0.err m_Double).g rfl) pa_nil))) (pa_cons (pe_callB XV.call_isX (by rfl) T.isi (by decide +kernel) (pa_cons (pv 0) (pa_cons (pe_glob (v := .ref (ga K "NoBoxing")) (by rfl) (E0.err m_NoBoxing).g rfl) pa_nil))) (pa_cons (pe_callB XV.call_isX (by rfl) T.isi (by decide +kernel) (pa_cons (pv 0) (pa_cons (pe_glob (v := .ref (ga K "NoFraction")) (by rfl) (E0.err m_NoFraction).g rfl) pa_nil))) pa_nil)))) pa_nil)))
      (pss_cons (ps_expr (pe_bm PySem.F.plainAttrs_list PySem.F.slot_list_extend PySem.F.type_list_extend mt_extend (pv 1) (pa_cons (pe_lst (pa_cons (pe_callB XV.call_isX (by rfl) T.isi (by decide +kernel) (pa_cons (pv 0) (pa_cons (pe_glob (v := .ref (ga K "NoWidth")) (by rfl) (E0.err m_NoWidth).g rfl) pa_nil))) (pa_cons (pe_callB XV.call_isX (by rfl) T.isi (by decide +kernel) (pa_cons (pv 0) (pa_cons (pe_glob (v := .ref (ga K "ByNought")) (by rfl) (E0.err m_ByNought).g rfl) pa_nil))) (pa_cons (pe_callB XV.call_isX (by rfl) T.isi (by decide +kernel) (pa_cons (pv 0) (pa_cons (pe_glob (v := .ref (ga K "Below")) (by rfl) (E0.err m_Below).g rfl) pa_nil))) pa_nil)))) pa_nil)))
      (pss_cons (ps_expr (pe_bm PySem.F.plainAttrs_list PySem.F.slot_list_extend PySem.F.type_list_extend mt_extend (pv 1) (pa_cons (pe_lst (pa_cons (pe_callB XV.call_isX (by rfl) T.isi (by decide +kernel) (pa_cons (pv 0) (pa_cons (pe_glob (v := .ref (ga K "Endless")) (by rfl) (E0.err m_Endless).g rfl) pa_nil))) (pa_cons (pe_callB XV.call_isX (by rfl) T.isi (by decide +kernel) (pa_cons (pv 0) (pa_cons (pe_glob (v := .ref (ga K "NoLine")) (by rfl) (E0.err m_NoLine).g rfl) pa_nil))) (pa_cons (pe_callB XV.call_isX (by rfl) T.isi (by decide +kernel) (pa_cons (pv 0) (pa_cons (pe_glob (v := .ref (ga K "NoPower")) (by rfl) (E0.err m_NoPower).g rfl) pa_nil))) pa_nil)))) pa_nil)))
      (pss_one (ps_ret (pv 1)))))))))), ?_⟩
    dsimp only [cxOf, Cx.nox, Cx.wish]
    walk_at "f"
    refine ⟨a, y, rfl, hy, er, fun l H0 n0 s0 f0 => ?_⟩
    have z0 : FlS K H H0 l a y (flags y nmA) := ⟨s0, f0⟩
    walk_at "f"
    refine flag_step E0 W rfl hy (er.same z0.s) z0.f ["NoInteger", "NoUnknown", "NoNumber"] (sub_of 9 rfl) (by simp [nmA]) fun b nb => ?_
    have z1 := z0.next (o := .lst (flags y ["NoInteger", "NoUnknown", "NoNumber"])) (xs := flags y nmA ++ flags y ["NoInteger", "NoUnknown", "NoNumber"]) n0 nb
    walk_at "f"
    refine flag_step E0 W rfl hy (er.same z1.s) z1.f ["NoPoint", "NoDivisor", "NoChain"] (sub_of 12 rfl) (by simp [nmA]) fun b nb => ?_
    have z2 := z1.next (o := .lst (flags y ["NoPoint", "NoDivisor", "NoChain"])) (xs := flags y nmA ++ flags y ["NoInteger", "NoUnknown", "NoNumber"] ++ flags y ["NoPoint", "NoDivisor", "NoChain"]) n0 nb
    walk_at "f"
    refine flag_step E0 W rfl hy (er.same z2.s) z2.f ["NoPolynomial", "Unlike", "NoBox"] (sub_of 15 rfl) (by simp [nmA]) fun b nb => ?_
    have z3 := z2.next (o := .lst (flags y ["NoPolynomial", "Unlike", "NoBox"])) (xs := flags y nmA ++ flags y ["NoInteger", "NoUnknown", "NoNumber"] ++ flags y ["NoPoint", "NoDivisor", "NoChain"] ++ flags y ["NoPolynomial", "Unlike", "NoBox"]) n0 nb
    walk_at "f"
    refine flag_step E0 W rfl hy (er.same z3.s) z3.f ["Double", "NoBoxing", "NoFraction"] (sub_of 18 rfl) (by simp [nmA]) fun b nb => ?_
    have z4 := z3.next (o := .lst (flags y ["Double", "NoBoxing", "NoFraction"])) (xs := flags y nmA ++ flags y ["NoInteger", "NoUnknown", "NoNumber"] ++ flags y ["NoPoint", "NoDivisor", "NoChain"] ++ flags y ["NoPolynomial", "Unlike", "NoBox"] ++ flags y ["Double", "NoBoxing", "NoFraction"]) n0 nb
    walk_at "f"
    refine flag_step E0 W rfl hy (er.same z4.s) z4.f ["NoWidth", "ByNought", "Below"] (sub_of 21 rfl) (by simp [nmA]) fun b nb => ?_
    have z5 := z4.next (o := .lst (flags y ["NoWidth", "ByNought", "Below"])) (xs := flags y nmA ++ flags y ["NoInteger", "NoUnknown", "NoNumber"] ++ flags y ["NoPoint", "NoDivisor", "NoChain"] ++ flags y ["NoPolynomial", "Unlike", "NoBox"] ++ flags y ["Double", "NoBoxing", "NoFraction"] ++ flags y ["NoWidth", "ByNought", "Below"]) n0 nb
    walk_at "f"
    refine flag_step E0 W rfl hy (er.same z5.s) z5.f ["Endless", "NoLine", "NoPower"] (sub_of 24 rfl) (by simp [nmA]) fun b nb => ?_
    have z6 := z5.next (o := .lst (flags y ["Endless", "NoLine", "NoPower"])) (xs := flags y nmA ++ flags y ["NoInteger", "NoUnknown", "NoNumber"] ++ flags y ["NoPoint", "NoDivisor", "NoChain"] ++ flags y ["NoPolynomial", "Unlike", "NoBox"] ++ flags y ["Double", "NoBoxing", "NoFraction"] ++ flags y ["NoWidth", "ByNought", "Below"] ++ flags y ["Endless", "NoLine", "NoPower"]) n0 nb
    walk_at "f"
    exact k l _ n0 z6.s z6.f
end
end K00

set_option Elab.async false
set_option linter.all false
set_option maxRecDepth 100000
set_option maxHeartbeats 4000000
namespace K00
open PySem PySem.Spec PyProof.Rows L2 XV XF He
local macro_rules | `(tactic| walk_at "c") => `(tactic| repeat' (first | walk_at "s" | (with_reducible refine My.new (My.sz (by simp)) (fun _ _ => ?_)) | (with_reducible refine My.inT (SqT.of upd_same) rfl rfl ?_) | (with_reducible refine My.ite_ct (by decide) ?_) | (with_reducible refine My.ite_cf (by decide) ?_)))
local macro_rules | `(tactic| walk_at "same") => `(tactic| first | exact Same.refl _ | (refine Same.trans ?_ (same_new (by assumption)); walk_at "same"))
def spField (K : PySem.W.Frag) : Sp := fun vs H Q _ => ∃ (a : Addr) (i : Nat) (p : Str × Str) (y : V), vs = [.ref a, .int (i : Int)] ∧ nmF[i]? = some p ∧ ErrF H a (ga K p.1) p.2 y ∧ ∀ H', Same H H' → Q y H'
theorem ErrF.same {H H' : Hp} {a C : Addr} {f : Str} {y : V} (s : Same H H') (e : ErrF H a C f y) : ErrF H' a C f y := by
  obtain ⟨d, h1, h2⟩ := e
  exact ⟨d, s _ _ h1, s _ _ h2⟩
section
variable {P : Program} {w : World} {K : PySem.W.Frag} {mg : Str → Option Value} {base : Heap}
theorem nmF_at {i : Nat} {p : Str × Str} (h : nmF[i]? = some p) : (i = 0 ∧ p = (("BadPoly" : Str), ("index" : Str))) ∨ (i = 1 ∧ p = (("BadSystem" : Str), ("part" : Str))) ∨ (i = 2 ∧ p = (("NoCover" : Str), ("number" : Str))) ∨ (i = 3 ∧ p = (("BadNumber" : Str), ("part" : Str))) ∨ (i = 4 ∧ p = (("NoWish" : Str), ("index" : Str))) ∨ (i = 5 ∧ p = (("BadText" : Str), ("at" : Str))) ∨ (i = 6 ∧ p = (("BadLine" : Str), ("number" : Str))) ∨ (i = 7 ∧ p = (("NoName" : Str), ("name" : Str))) ∨ (i = 8 ∧ p = (("TooMany" : Str), ("most" : Str))) := by
  match i, h with
  | 0, h => exact Or.inl ⟨rfl, (Option.some.inj h).symm⟩
  | 1, h => exact Or.inr (Or.inl ⟨rfl, (Option.some.inj h).symm⟩)
  | 2, h => exact Or.inr (Or.inr (Or.inl ⟨rfl, (Option.some.inj h).symm⟩))
  | 3, h => exact Or.inr (Or.inr (Or.inr (Or.inl ⟨rfl, (Option.some.inj h).symm⟩)))
  | 4, h => exact Or.inr (Or.inr (Or.inr (Or.inr (Or.inl ⟨rfl, (Option.some.inj h).symm⟩))))
  | 5, h => exact Or.inr (Or.inr (Or.inr (Or.inr (Or.inr (Or.inl ⟨rfl, (Option.some.inj h).symm⟩)))))
  | 6, h => exact Or.inr (Or.inr (Or.inr (Or.inr (Or.inr (Or.inr (Or.inl ⟨rfl, (Option.some.inj h).symm⟩))))))
  | 7, h => exact Or.inr (Or.inr (Or.inr (Or.inr (Or.inr (Or.inr (Or.inr (Or.inl ⟨rfl, (Option.some.inj h).symm⟩)))))))
  | 8, h => exact Or.inr (Or.inr (Or.inr (Or.inr (Or.inr (Or.inr (Or.inr (Or.inr (⟨rfl, (Option.some.inj h).symm⟩))))))))
  | n + 9, h => simp [nmF] at h
theorem sc_field : FnScope ["_law_error", "_law_number"] ["_law_error", "_law_number"] (defScope s_law_field) := ⟨rfl, rfl, rfl, by decide +kernel, rfl, by decide +kernel, by decide +kernel⟩
theorem ok_field {f : Addr} {fd : FuncData} (F : FnP K "_law_field" "_law_field" s_law_field f fd) (E0 : TE0 K mg) : FnOk P w K mg base CX0 1 f fd ["_law_error", "_law_number"] (spField K) := by
  refine F.ok sc_field (fun vs H Q E h => ?_) (fun cdv A outer s H vs Q E hr h => ?_)
  · obtain ⟨a, i, p, y, rfl, _⟩ := h
    rfl
  · obtain ⟨a, i, p, y, rfl, hp, er, k⟩ := h
    refine ⟨_, PSs.nox (pss_cons (ps_if (pt_cmpR op_in_seq (pv 1) (pe_tup (pa_cons pe_int (pa_cons pe_int pa_nil))) rfl)
       (pss_one (ps_ret (XV.pe_fldX (pv 0))))
       pss_nil)
      (pss_cons (ps_if (pt_cmpR op_in_seq (pv 1) (pe_tup (pa_cons pe_int (pa_cons pe_int pa_nil))) rfl)
       (pss_one (ps_ret (XV.pe_fldX (pv 0))))
       pss_nil)
      (pss_cons (ps_if (pt_cmpR op_in_seq (pv 1) (pe_tup (pa_cons pe_int (pa_cons pe_int pa_nil))) rfl)
       (pss_one (ps_ret (XV.pe_fldX (pv 0))))
       pss_nil)
      (pss_cons (ps_if (pt_cmpR op_eq (pv 1) pe_int (nomark _))
       (pss_one (ps_ret (XV.pe_fldX (pv 0))))
       pss_nil)
      (pss_cons (ps_if (pt_cmpR op_eq (pv 1) pe_int (nomark _))
       (pss_one (ps_ret (XV.pe_fldX (pv 0))))
       pss_nil)
      (pss_cons (ps_if (pt_cmpR op_eq (pv 1) pe_int (nomark _))
       (pss_one (ps_ret (XV.pe_fldX (pv 0))))
       pss_nil)
      (pss_one (ps_ret pe_non)))))))), ?_⟩
    dsimp only [cxOf, Cx.nox, Cx.wish]
    rcases nmF_at hp with ⟨rfl, rfl⟩ | ⟨rfl, rfl⟩ | ⟨rfl, rfl⟩ | ⟨rfl, rfl⟩ | ⟨rfl, rfl⟩ | ⟨rfl, rfl⟩ | ⟨rfl, rfl⟩ | ⟨rfl, rfl⟩ | ⟨rfl, rfl⟩
    · walk_at "c"
      refine ⟨_, rfl, a, ga K "BadPoly", y, rfl, K00.ErrF.same ?_ er, (E0.err m_BadPoly).ex, (E0.fld f_BadPoly).no, k _ ?_⟩
      all_goals walk_at "same"
    · walk_at "c"
      refine ⟨_, rfl, a, ga K "BadSystem", y, rfl, K00.ErrF.same ?_ er, (E0.err m_BadSystem).ex, (E0.fld f_BadSystem).no, k _ ?_⟩
      all_goals walk_at "same"
    · walk_at "c"
      refine ⟨_, rfl, a, ga K "NoCover", y, rfl, K00.ErrF.same ?_ er, (E0.err m_NoCover).ex, (E0.fld f_NoCover).no, k _ ?_⟩
      all_goals walk_at "same"
    · walk_at "c"
      refine ⟨_, rfl, a, ga K "BadNumber", y, rfl, K00.ErrF.same ?_ er, (E0.err m_BadNumber).ex, (E0.fld f_BadNumber).no, k _ ?_⟩
      all_goals walk_at "same"
    · walk_at "c"
      refine ⟨_, rfl, a, ga K "NoWish", y, rfl, K00.ErrF.same ?_ er, (E0.err m_NoWish).ex, (E0.fld f_NoWish).no, k _ ?_⟩
      all_goals walk_at "same"
    · walk_at "c"
      refine ⟨_, rfl, a, ga K "BadText", y, rfl, K00.ErrF.same ?_ er, (E0.err m_BadText).ex, (E0.fld f_BadText).no, k _ ?_⟩
      all_goals walk_at "same"
    · walk_at "c"
      refine ⟨_, rfl, a, ga K "BadLine", y, rfl, K00.ErrF.same ?_ er, (E0.err m_BadLine).ex, (E0.fld f_BadLine).no, k _ ?_⟩
      all_goals walk_at "same"
    · walk_at "c"
      refine ⟨_, rfl, a, ga K "NoName", y, rfl, K00.ErrF.same ?_ er, (E0.err m_NoName).ex, (E0.fld f_NoName).no, k _ ?_⟩
      all_goals walk_at "same"
    · walk_at "c"
      refine ⟨_, rfl, a, ga K "TooMany", y, rfl, K00.ErrF.same ?_ er, (E0.err m_TooMany).ex, (E0.fld f_TooMany).no, k _ ?_⟩
      all_goals walk_at "same"

/-! ### _law_caught -/
def t_rs (K : PySem.W.Frag) (x f : Str) (W : WX) : TS := fun _ σ H => tMkO (ga K x) (spInitX (ga K x) f) [] (tCons (tVar 1) tNil) σ H fun cls d H' => W cls d σ H'
def t_try (K : PySem.W.Frag) (W : WX) : TS :=
  tSeq (tIfS (tTest (tOp rEq (tVar 0) (tC (.int 0)))) (t_rs K "BadPoly" "index" W) tNext) (tSeq (tIfS (tTest (tOp rEq (tVar 0) (tC (.int 1)))) (t_rs K "BadSystem" "part" W) tNext)
    (tSeq (tIfS (tTest (tOp rEq (tVar 0) (tC (.int 2)))) (t_rs K "NoCover" "number" W) tNext) (t_rs K "TooMany" "most" W)))
def t_isS (K : PySem.W.Frag) (x : Str) (a : Addr) (cls : Value) (d : Option Addr) : TT := tB (tCB (rIsS K a cls d) (tCons (tVar 2) (tCons (tC (.ref (ga K x))) tNil)))
def t_suite (K : PySem.W.Frag) (a : Addr) (cls : Value) (d : Option Addr) : TS :=
  tSeq (tIfS (t_isS K "BadPoly" a cls d) (tRet (tFldS K a cls d "index" (tVar 2))) tNext) (tSeq (tIfS (t_isS K "BadSystem" a cls d) (tRet (tFldS K a cls d "part" (tVar 2))) tNext)
    (tRet (tIf (t_isS K "NoCover" a cls d) (tFldS K a cls d "number" (tVar 2)) (tFldS K a cls d "most" (tVar 2)))))
/-- RootError is what the clause names -/
structure RootT (K : PySem.W.Frag) (mg : Str → Option Value) : Prop where
  g : mg "RootError" = some (.ref (ga K "RootError"))
  ex : ∀ x ∈ nmA, PySem.W.exmOne K (.ref (ga K x)) (.ref (ga K "RootError")) = some true
def spCaught : Sp := fun vs H Q _ => ∃ (i : Int) (v : V), vs = [.int i, v] ∧ ∀ H', Same H H' → Q v H'
theorem sc_caught : FnScope ["_law_which", "_law_thing", "e"] ["_law_which", "_law_thing"] (defScope s_law_caught) := ⟨rfl, rfl, rfl, by decide +kernel, rfl, by decide +kernel, by decide +kernel⟩
theorem raise_q {x f : Str} {σ : L2.St} {H : Hp} {v : V} {W : WX} {D : Ends} (hσ : σ[1]? = some (some v)) (k : ∀ d H', Same H H' → H' d = some (.xd [(f, v)]) → W (.ref (ga K x)) (some d) σ H') : t_rs K x f W D σ H := by
  refine ⟨v, hσ, (by decide : 1 ≤ 1000), fun a n => ⟨a, v, rfl, upd_same, fun dx nx ne => ⟨rfl, dx, [(f, v)], upd_same, ?_, ?_, ?_⟩⟩⟩
  · rw [upd_ne ne, upd_same]
  · rw [upd_ne ne] at nx
    exact nx
  · rw [upd_ne ne] at nx
    refine k dx _ (fun b o e => ?_) upd_same
    rw [upd_ne (ne_of_none e nx), del_ne (ne_of_none e n), upd_ne (ne_of_none e n), upd_ne (ne_of_none e nx), upd_ne (ne_of_none e n)]
    exact e
theorem isS_q {x y : Str} {a d : Addr} {fs : List (Str × V)} {σ : L2.St} {H : Hp} {QB : Bool → Hp → Prop} (E0 : TE0 K mg) (Wh : Which K) (hσ : σ[2]? = some (some (.ref a))) (hy : y ∈ nm) (hx : x ∈ nm) (hd : H d = some (.xd fs)) (k : QB (decide (y = x)) H) : t_isS K x a (.ref (ga K y)) (some d) σ H QB :=
  ⟨_, hσ, ga K y, d, fs, .ref (ga K x), .ref (ga K x), decide (y = x), rfl, rfl, rfl, hd, (E0.err hy).ex, fun _ r => r, Wh y hy x hx, _, rfl, k⟩
theorem fldS_q {y f : Str} {a d : Addr} {v : V} {σ : L2.St} {H : Hp} {Q : VK} (E0 : TE0 K mg) (hσ : σ[2]? = some (some (.ref a))) (hy : y ∈ nm) (hf : (y, f) ∈ nmF) (hd : H d = some (.xd [(f, v)])) (k : Q v H) : tFldS K a (.ref (ga K y)) (some d) f (tVar 2) σ H Q :=
  ⟨_, hσ, ga K y, d, _, v, rfl, rfl, rfl, hd, by simp [List.lookup], (E0.err hy).ex, (E0.fld hf).no, k⟩
theorem ok_caught {i_BadPoly : FuncData} {i_BadSystem : FuncData} {i_NoCover : FuncData} {i_BadNumber : FuncData} {i_NoWish : FuncData} {i_BadText : FuncData} {i_BadLine : FuncData} {i_NoName : FuncData} {i_TooMany : FuncData} {f : Addr} {fd : FuncData} (F : FnP K "_law_caught" "_law_caught" s_law_caught f fd) (T : Txt0 mg) (E0 : TE0 K mg) (Wh : Which K) (RT : RootT K mg) (I : Inits K i_BadPoly i_BadSystem i_NoCover i_BadNumber i_NoWish i_BadText i_BadLine i_NoName i_TooMany) : FnOk P w K mg base CX0 3 f fd ["_law_which", "_law_thing"] spCaught := by
  have B_BadPoly : Binds K i_BadPoly ["self", "index"] [] := I.F_BadPoly.bindsN fun _ _ _ _ _ _ us hl => match us, hl with | [_, _], _ => rfl
  have B_BadSystem : Binds K i_BadSystem ["self", "part"] [] := I.F_BadSystem.bindsN fun _ _ _ _ _ _ us hl => match us, hl with | [_, _], _ => rfl
  have B_NoCover : Binds K i_NoCover ["self", "number"] [] := I.F_NoCover.bindsN fun _ _ _ _ _ _ us hl => match us, hl with | [_, _], _ => rfl
  have B_TooMany : Binds K i_TooMany ["self", "most"] [] := I.F_TooMany.bindsN fun _ _ _ _ _ _ us hl => match us, hl with | [_, _], _ => rfl
  refine F.ok sc_caught (fun vs H Q E h => ?_) (fun cdv A outer s H vs Q E hr h => ?_)
  · obtain ⟨i, v, rfl, _⟩ := h
    rfl
  · obtain ⟨i, v, rfl, k⟩ := h
    refine ⟨_, PSs.nox (pss_one (ps_try_as (i := 2) (tb := t_try K) (ts := t_suite K) (Wout := fun _ _ _ _ => False) rfl rfl sc_caught.nd rfl rfl ⟨rfl, by decide, Or.inl RT.g⟩ takes0
      (fun W pn xe tk _ => (pss_cons (ps_if (pt_cmpR op_eq (pv 0) pe_int (nomark _)) (pss_one (ps_raise (by rfl) tk (pmk_oex (E0.err m_BadPoly).ox (E0.fld f_BadPoly).ini (E0.fld f_BadPoly).ty (ok_BadPoly I.F_BadPoly (E0.err m_BadPoly).ox (E0.fld f_BadPoly).no) (hr.mono (by decide)) B_BadPoly .nil pass0 (by rfl) (E0.err m_BadPoly).g (by exact (pa_cons (pv 1) pa_nil))))) pss_nil)
        (pss_cons (ps_if (pt_cmpR op_eq (pv 0) pe_int (nomark _)) (pss_one (ps_raise (by rfl) tk (pmk_oex (E0.err m_BadSystem).ox (E0.fld f_BadSystem).ini (E0.fld f_BadSystem).ty (ok_BadSystem I.F_BadSystem (E0.err m_BadSystem).ox (E0.fld f_BadSystem).no) (hr.mono (by decide)) B_BadSystem .nil pass0 (by rfl) (E0.err m_BadSystem).g (by exact (pa_cons (pv 1) pa_nil))))) pss_nil)
        (pss_cons (ps_if (pt_cmpR op_eq (pv 0) pe_int (nomark _)) (pss_one (ps_raise (by rfl) tk (pmk_oex (E0.err m_NoCover).ox (E0.fld f_NoCover).ini (E0.fld f_NoCover).ty (ok_NoCover I.F_NoCover (E0.err m_NoCover).ox (E0.fld f_NoCover).no) (hr.mono (by decide)) B_NoCover .nil pass0 (by rfl) (E0.err m_NoCover).g (by exact (pa_cons (pv 1) pa_nil))))) pss_nil)
        (pss_one (ps_raise (by rfl) tk (pmk_oex (E0.err m_TooMany).ox (E0.fld f_TooMany).ini (E0.fld f_TooMany).ty (ok_TooMany I.F_TooMany (E0.err m_TooMany).ox (E0.fld f_TooMany).no) (hr.mono (by decide)) B_TooMany .nil pass0 (by rfl) (E0.err m_TooMany).g (by exact (pa_cons (pv 1) pa_nil)))))))))
      (fun a oe cls d pn hz hf => (pss_cons (ps_if (pt_val (pe_callB (XV.call_isS hz hf) (by rfl) T.isi (by decide +kernel) (by exact (pa_cons (pv 2) (pa_cons (pe_glob (v := .ref (ga K "BadPoly")) (by rfl) (E0.err m_BadPoly).g rfl) pa_nil))))) (pss_one (ps_ret (XV.pe_fldS hz hf (pv 2)))) pss_nil)
        (pss_cons (ps_if (pt_val (pe_callB (XV.call_isS hz hf) (by rfl) T.isi (by decide +kernel) (by exact (pa_cons (pv 2) (pa_cons (pe_glob (v := .ref (ga K "BadSystem")) (by rfl) (E0.err m_BadSystem).g rfl) pa_nil))))) (pss_one (ps_ret (XV.pe_fldS hz hf (pv 2)))) pss_nil)
        (pss_one (ps_ret (pe_ifExp (pt_val (pe_callB (XV.call_isS hz hf) (by rfl) T.isi (by decide +kernel) (by exact (pa_cons (pv 2) (pa_cons (pe_glob (v := .ref (ga K "NoCover")) (by rfl) (E0.err m_NoCover).g rfl) pa_nil))))) (XV.pe_fldS hz hf (pv 2)) (XV.pe_fldS hz hf (pv 2)))))))))), ?_⟩
    have st : ∀ (y f : Str) (hy : y ∈ nm) (hA : y ∈ nmA) (hf : (y, f) ∈ nmF) (d : Addr) (H' : Hp), Same H H' → H' d = some (.xd [(f, v)]) → (y = "BadPoly" ∧ f = "index" ∨ y = "BadSystem" ∧ f = "part" ∨ y = "NoCover" ∧ f = "number" ∨ y = "TooMany" ∧ f = "most") →
        wAs K (.ref (ga K "RootError")) 2 (t_suite K) (fun _ _ _ _ => False) { nx := fun _ H' => Q .non H', rt := Q } (.ref (ga K y)) (some d) [some (.int i), some v, none] H' := by
      intro y f hy hA hf d H' s1 hd alt
      refine ⟨true, RT.ex y hA, fun _ a na => ?_, fun z => Bool.noConfusion z⟩
      have hv := k H' s1
      unfold t_suite
      rcases alt with ⟨rfl, rfl⟩ | ⟨rfl, rfl⟩ | ⟨rfl, rfl⟩ | ⟨rfl, rfl⟩
      all_goals
        refine My.seq (My.ifs (isS_q E0 Wh rfl hy m_BadPoly hd ?_))
        first
          | exact My.ite_ct (by decide) (My.ret (fldS_q E0 rfl hy hf hd hv))
          | (refine My.ite_cf (by decide) (My.next (My.seq (My.ifs (isS_q E0 Wh rfl hy m_BadSystem hd ?_))))
             first
               | exact My.ite_ct (by decide) (My.ret (fldS_q E0 rfl hy hf hd hv))
               | (refine My.ite_cf (by decide) (My.next (My.ret (My.ifV (isS_q E0 Wh rfl hy m_NoCover hd ?_))))
                  first
                    | exact My.ite_ct (by decide) (fldS_q E0 rfl hy hf hd hv)
                    | exact My.ite_cf (by decide) (fldS_q E0 rfl hy hf hd hv)))
    show t_try K _ _ _ _
    unfold t_try
    walk_at "f"
    · exact raise_q rfl fun d H' s1 hd => st "BadPoly" "index" m_BadPoly (List.mem_of_getElem? (i := 0) rfl) f_BadPoly d H' s1 hd (.inl ⟨rfl, rfl⟩)
    · exact raise_q rfl fun d H' s1 hd => st "BadSystem" "part" m_BadSystem (List.mem_of_getElem? (i := 1) rfl) f_BadSystem d H' s1 hd (.inr (.inl ⟨rfl, rfl⟩))
    · exact raise_q rfl fun d H' s1 hd => st "NoCover" "number" m_NoCover (List.mem_of_getElem? (i := 2) rfl) f_NoCover d H' s1 hd (.inr (.inr (.inl ⟨rfl, rfl⟩)))
    · exact raise_q rfl fun d H' s1 hd => st "TooMany" "most" m_TooMany (List.mem_of_getElem? (i := 8) rfl) f_TooMany d H' s1 hd (.inr (.inr (.inr ⟨rfl, rfl⟩)))
end
end K00

set_option Elab.async false
set_option linter.all false
set_option maxRecDepth 100000
set_option maxHeartbeats 4000000
namespace K00
open PySem PySem.Spec PyProof.Rows L2 XV XF He
local macro_rules | `(tactic| walk_at "same") => `(tactic| first | exact Same.refl _ | (refine Same.trans ?_ (same_new (by assumption)); walk_at "same"))
def spLaw (K : PySem.W.Frag) : Sp := fun vs H Q _ => ∃ (a : Addr) (ns : List Int), vs = [.ref a] ∧ SqL K H a (ns.map V.int) ∧ ns.length ≤ 63 ∧ ∀ H', Q (.bl true) H'
/-- more that the head says of which class is which -/
structure Tops (K : PySem.W.Frag) : Prop where
  root : ∀ y ∈ nm, PySem.W.kitOne K (.ref (ga K y)) (.ref (ga K "RootError")) = some true
  verr : ∀ y ∈ nm, PySem.W.kitOne K (.ref (ga K y)) (.type "ValueError") = some true
theorem psAll_nm : psAll.map (·.1) = nm := rfl
theorem psAll_at {i : Nat} {p : Mkd} (h : psAll[i]? = some p) : nm[i]? = some p.1 ∧ p.1 ∈ nm := by
  have e : nm[i]? = some p.1 := by rw [← psAll_nm, List.getElem?_map, h]; rfl
  exact ⟨e, List.mem_of_getElem? e⟩
theorem psAll_f : ∀ {i : Nat} {p : Mkd}, psAll[i]? = some p → i < 9 → ∃ f, p.2 = some (f, i) ∧ nmF[i]? = some (p.1, f)
  | 0, _, h, _ => by cases (Option.some.inj h); exact ⟨"index", rfl, rfl⟩
  | 1, _, h, _ => by cases (Option.some.inj h); exact ⟨"part", rfl, rfl⟩
  | 2, _, h, _ => by cases (Option.some.inj h); exact ⟨"number", rfl, rfl⟩
  | 3, _, h, _ => by cases (Option.some.inj h); exact ⟨"part", rfl, rfl⟩
  | 4, _, h, _ => by cases (Option.some.inj h); exact ⟨"index", rfl, rfl⟩
  | 5, _, h, _ => by cases (Option.some.inj h); exact ⟨"at", rfl, rfl⟩
  | 6, _, h, _ => by cases (Option.some.inj h); exact ⟨"number", rfl, rfl⟩
  | 7, _, h, _ => by cases (Option.some.inj h); exact ⟨"name", rfl, rfl⟩
  | 8, _, h, _ => by cases (Option.some.inj h); exact ⟨"most", rfl, rfl⟩
  | n + 9, _, _, l => absurd l (by omega)
theorem Er.is {K : PySem.W.Frag} {H : Hp} {ths : List V} {p : Mkd} {a : Addr} (e : Er K H ths p a) : IsEr K H a p.1 := by
  obtain ⟨x, o⟩ := p
  cases o with
  | none => exact .inr e
  | some q =>
    obtain ⟨y, _, z⟩ := (show ∃ y, ths[q.2]? = some y ∧ ErrF H a (ga K x) q.1 y from e)
    exact .inl ⟨_, _, z⟩
theorem one_flag {y : Str} (h : y ∈ nm) : (nm.map fun x => decide (y = x)).count true = 1 := by
  have z : (nm.all fun y => decide ((nm.map fun x => decide (y = x)).count true = 1)) = true := by decide +kernel
  exact of_decide_eq_true (List.all_eq_true.mp z y h)
theorem but_at {d D : Addr} {H0 H' : Hp} {o : HO} (b : But d H0 H') (nD : H0 D = none) : But d H0 (upd H' D o) := fun x u nx e => by
  rw [upd_ne (ne_of_none e nD)]
  exact b x u nx e
theorem Hand.at {K : PySem.W.Frag} {d c D : Addr} {H0 H' : Hp} {o : HO} (h0 : Hand K H0 d c) (b : But d H0 H') (h : Hand K H' d c) (nD : H0 D = none) : Hand K (upd H' D o) d c := by
  have ne : d ≠ D := fun z => by
    obtain ⟨_, hd⟩ := h0.dk
    rw [z, nD] at hd
    cases hd
  have b2 := but_at (o := o) b nD
  obtain ⟨cs, _, _, _, _, _, hc, _, _⟩ := id h0
  obtain ⟨_, a, g, sd, tn, hd, _, cd, a0⟩ := h
  exact ⟨cs, a, g, sd, tn, by rw [upd_ne ne]; exact hd, b2.list h0 hc, cd, a0⟩
section
variable {P : Program} {w : World} {K : PySem.W.Frag} {mg : Str → Option Value} {base : Heap} {i_BadPoly : FuncData} {i_BadSystem : FuncData} {i_NoCover : FuncData} {i_BadNumber : FuncData} {i_NoWish : FuncData} {i_BadText : FuncData} {i_BadLine : FuncData} {i_NoName : FuncData} {i_TooMany : FuncData}
theorem sc_law : FnScope ["_law_script", "_law_hand_here", "_law_menu", "_law_number", "_law_things", "_law_errors", "_law_error", "_law_flags_here", "_law_which"] ["_law_script"] (defScope s_law) := ⟨rfl, rfl, rfl, by decide +kernel, rfl, by decide +kernel, by decide +kernel⟩
theorem ok_law {f C fI fE f_is f_ff : Addr} {fd fdI fdE fd_is fd_ff : FuncData} {f_law_hand : Addr} {fd_law_hand : FuncData} {f_law_draw : Addr} {fd_law_draw : FuncData} {f_law_any : Addr} {fd_law_any : FuncData} {f_law_deep : Addr} {fd_law_deep : FuncData} {f_law_made : Addr} {fd_law_made : FuncData} {f_law_flags : Addr} {fd_law_flags : FuncData} {f_law_field : Addr} {fd_law_field : FuncData} {f_law_caught : Addr} {fd_law_caught : FuncData} (F : FnP K "law" "law" s_law f fd) (T : Txt0 mg) (E0 : TE0 K mg) (Wh : Which K) (TT : Tops K) (RT : RootT K mg) (PT : PolT K mg C fI fE) (I : Inits K i_BadPoly i_BadSystem i_NoCover i_BadNumber i_NoWish i_BadText i_BadLine i_NoName i_TooMany)
    (FI : FnP K "__init__" "Poly.__init__" s_Poly_init fI fdI) (FE : FnP K "__eq__" "Poly.__eq__" s_Poly_eq fE fdE) (F_law_first_flags : FnP K "_law_first_flags" "_law_first_flags" s_law_first_flags f_ff fd_ff) (g_ff : mg "_law_first_flags" = some (.ref f_ff))
    (F_law_is : FnP K "_law_is" "_law_is" s_law_is f_is fd_is) (g_law_is : mg "_law_is" = some (.ref f_is))
    (F_law_hand : FnP K "_law_hand" "_law_hand" s_law_hand f_law_hand fd_law_hand) (g_law_hand : mg "_law_hand" = some (.ref f_law_hand))
    (F_law_draw : FnP K "_law_draw" "_law_draw" s_law_draw f_law_draw fd_law_draw) (g_law_draw : mg "_law_draw" = some (.ref f_law_draw))
    (F_law_any : FnP K "_law_any" "_law_any" s_law_any f_law_any fd_law_any) (g_law_any : mg "_law_any" = some (.ref f_law_any))
    (F_law_deep : FnP K "_law_deep" "_law_deep" s_law_deep f_law_deep fd_law_deep) (g_law_deep : mg "_law_deep" = some (.ref f_law_deep))
    (F_law_made : FnP K "_law_made" "_law_made" s_law_made f_law_made fd_law_made) (g_law_made : mg "_law_made" = some (.ref f_law_made))
    (F_law_flags : FnP K "_law_flags" "_law_flags" s_law_flags f_law_flags fd_law_flags) (g_law_flags : mg "_law_flags" = some (.ref f_law_flags))
    (F_law_field : FnP K "_law_field" "_law_field" s_law_field f_law_field fd_law_field) (g_law_field : mg "_law_field" = some (.ref f_law_field))
    (F_law_caught : FnP K "_law_caught" "_law_caught" s_law_caught f_law_caught fd_law_caught) (g_law_caught : mg "_law_caught" = some (.ref f_law_caught))
    : FnOk P w K mg base CX0 7 f fd ["_law_script"] (spLaw K) := by
  have G_pini : FnOk P w K mg base CX0 1 fI fdI ["self", "terms"] (spPoly0 C) := ok_pini FI T PT
  have b_pini : Binds K fdI ["self", "terms"] [] := FI.bindsN fun _ _ _ _ _ _ us hl => match us, hl with | [_, _], _ => rfl
  have b_law_is : Binds K fd_is ["_law_told", "_law_due"] [] := F_law_is.bindsN fun _ _ _ _ _ _ us hl => match us, hl with | [_, _], _ => rfl
  have G_law_hand : FnOk P w K mg base CX0 1 f_law_hand fd_law_hand ["_law_script"] (spHand K) := ok_hand F_law_hand T
  have b_law_hand : Binds K fd_law_hand ["_law_script"] [] := F_law_hand.bindsN fun _ _ _ _ _ _ us hl => match us, hl with | [_], _ => rfl
  have G_law_draw : FnOk P w K mg base CX0 1 f_law_draw fd_law_draw ["_law_hand_here", "_law_many"] (spDraw K) := ok_draw F_law_draw T
  have b_law_draw : Binds K fd_law_draw ["_law_hand_here", "_law_many"] [] := F_law_draw.bindsN fun _ _ _ _ _ _ us hl => match us, hl with | [_, _], _ => rfl
  have G_law_any : FnOk P w K mg base CX0 2 f_law_any fd_law_any ["_law_hand_here", "_law_things"] (spAny K) := ok_any F_law_any T F_law_draw g_law_draw
  have b_law_any : Binds K fd_law_any ["_law_hand_here", "_law_things"] [] := F_law_any.bindsN fun _ _ _ _ _ _ us hl => match us, hl with | [_, _], _ => rfl
  have G_law_deep : FnOk P w K mg base CX0 2 f_law_deep fd_law_deep ["_law_hand_here"] (spDeep K C) := ok_deep F_law_deep T F_law_draw g_law_draw
  have b_law_deep : Binds K fd_law_deep ["_law_hand_here"] [] := F_law_deep.bindsN fun _ _ _ _ _ _ us hl => match us, hl with | [_], _ => rfl
  have G_law_made : FnOk P w K mg base CX0 3 f_law_made fd_law_made ["_law_things"] (spMade K) := ok_made F_law_made E0 I
  have b_law_made : Binds K fd_law_made ["_law_things"] [] := F_law_made.bindsN fun _ _ _ _ _ _ us hl => match us, hl with | [_], _ => rfl
  have G_law_flags : FnOk P w K mg base CX0 2 f_law_flags fd_law_flags ["_law_error"] (spFF K nm) := ok_fl F_law_flags F_law_first_flags g_ff T E0 Wh
  have b_law_flags : Binds K fd_law_flags ["_law_error"] [] := F_law_flags.bindsN fun _ _ _ _ _ _ us hl => match us, hl with | [_], _ => rfl
  have G_law_field : FnOk P w K mg base CX0 1 f_law_field fd_law_field ["_law_error", "_law_number"] (spField K) := ok_field F_law_field E0
  have b_law_field : Binds K fd_law_field ["_law_error", "_law_number"] [] := F_law_field.bindsN fun _ _ _ _ _ _ us hl => match us, hl with | [_, _], _ => rfl
  have G_law_caught : FnOk P w K mg base CX0 3 f_law_caught fd_law_caught ["_law_which", "_law_thing"] (spCaught) := ok_caught F_law_caught T E0 Wh RT I
  have b_law_caught : Binds K fd_law_caught ["_law_which", "_law_thing"] [] := F_law_caught.bindsN fun _ _ _ _ _ _ us hl => match us, hl with | [_, _], _ => rfl
  have G_law_is : FnOk P w K mg base CX0 6 f_is fd_is ["_law_told", "_law_due"] (spIs C) := ok_is F_law_is FE T PT
  refine F.ok sc_law (fun vs H Q E h => ?_) (fun cdv A outer s H vs Q E hr h => ?_)
  · obtain ⟨a, ns, rfl, _⟩ := h
    rfl
  · obtain ⟨a, ns, rfl, hl, h63, k⟩ := h
    refine ⟨_, PSs.nox (pss_cons (ps_set (i := 1) sc_law.nd rfl (Or.inr rfl) (pe_call G_law_hand (hr.mono (by decide)) (by rfl) g_law_hand F_law_hand.kp b_law_hand .nil pass0 (pa_cons (pv 0) pa_nil)))
      (pss_cons (ps_set (i := 2) sc_law.nd rfl (Or.inr rfl) (pe_lst (pa_cons pe_str (pa_cons pe_int (pa_cons pe_int (pa_cons (pe_un un_neg pe_int) (pa_cons pe_non (pa_cons pe_bl (pa_cons (pe_tup (pa_cons pe_str (pa_cons pe_int pa_nil))) (pa_cons (pe_tup pa_nil) (pa_cons (pe_lst (pa_cons pe_int (pa_cons (pe_lst (pa_cons pe_int pa_nil)) pa_nil))) (pa_cons (pe_disp (pps_cons pe_str pe_int pps_nil) (by rfl) (by rfl) (fun z => by cases z) (by decide)) (pa_cons (pe_op op_pow pe_int pe_int) (pa_cons pe_str (pa_cons (pe_tup (pa_cons (pe_tup (pa_cons pe_int (pa_cons pe_int pa_nil))) pa_nil)) pa_nil)))))))))))))))
      (pss_cons (ps_set (i := 2) sc_law.nd rfl (Or.inr rfl) (pe_op op_cat (pv 2) (pe_lst (pa_cons (pe_call G_law_deep (hr.mono (by decide)) (by rfl) g_law_deep F_law_deep.kp b_law_deep .nil pass0 (pa_cons (pv 1) pa_nil)) (pa_cons (pe_make PT.mkr G_pini (hr.mono (by decide)) (by rfl) PT.g b_pini .nil pass0 (pa_cons (pe_tup pa_nil) pa_nil)) pa_nil)))))
      (pss_cons (ps_setLc (i := 4) (own := [("_law_number", 3)]) (tt := tYes) (by rfl) sc_law.nd rfl rfl (sw_true rfl rfl rfl (by decide +kernel)) (pi_range1 (by rfl) T.range (pa_cons pe_int pa_nil)) (blkOk_by (own := [("_law_number", 3)]) (N := ["_law_script", "_law_hand_here", "_law_menu", "_law_number", "_law_things", "_law_errors", "_law_error", "_law_flags_here", "_law_which"]) (sc := (defScope s_law)) (by decide +kernel)) (fun _ _ _ _ _ => (pg_name (i := 3) sc_law.nd rfl (Or.inl rfl))) (fun _ _ _ _ _ => pts_nil) (fun _ _ _ _ _ => (pe_call G_law_any (hr.mono (by decide)) (by rfl) g_law_any F_law_any.kp b_law_any .nil pass0 (pa_cons (pv 1) (pa_cons (pv 2) pa_nil)))))
      (pss_cons (ps_set (i := 5) sc_law.nd rfl (Or.inl rfl) (pe_call G_law_made (hr.mono (by decide)) (by rfl) g_law_made F_law_made.kp b_law_made .nil pass0 (pa_cons (pv 4) pa_nil)))
      (pss_cons (ps_if (pt_cmpR op_ne (pe_callB My.c_len (by rfl) T.len PySem.boot_len (pa_cons (pv 5) pa_nil)) pe_int (nomark _))
       (pss_one (ps_ret pe_bl))
       pss_nil)
      (pss_cons (ps_for PassesOwn.never rfl (pi_range1 (by rfl) T.range (pa_cons (pe_callB My.c_len (by rfl) T.len PySem.boot_len (pa_cons (pv 5) pa_nil)) pa_nil)) (pg_name (i := 3) sc_law.nd rfl (Or.inl rfl))
       (pss_cons (ps_set (i := 6) sc_law.nd rfl (Or.inl rfl) (pe_ix ix_list (pv 5) (pv 3) (fun _ _ => rfl)))
      (pss_cons (ps_set (i := 7) sc_law.nd rfl (Or.inl rfl) (pe_call G_law_flags (hr.mono (by decide)) (by rfl) g_law_flags F_law_flags.kp b_law_flags .nil pass0 (pa_cons (pv 6) pa_nil)))
      (pss_cons (ps_if (PW.pt (pw_or (pt_not (pt_val (pe_ix ix_list (pv 7) (pv 3) (fun _ _ => rfl)))) (pw_or (pt_cmpR op_ne (pe_bm PySem.F.plainAttrs_list PySem.F.slot_list_count PySem.F.type_list_count XV.mt_countT (pv 7) (pa_cons pe_bl pa_nil)) pe_int (nomark _)) (pw_or1 (pt_cmpR op_ne (pe_callB My.c_len (by rfl) T.len PySem.boot_len (pa_cons (pv 7) pa_nil)) (pe_callB My.c_len (by rfl) T.len PySem.boot_len (pa_cons (pv 5) pa_nil)) (nomark _))))))
       (pss_one (ps_ret pe_bl))
       pss_nil)
      (pss_cons (ps_if (PW.pt (pw_or (pt_not (pt_val (pe_callB XV.call_isX (by rfl) T.isi (by decide +kernel) (pa_cons (pv 6) (pa_cons (pe_glob (v := .ref (ga K "RootError")) (by rfl) RT.g rfl) pa_nil))))) (pw_or1 (pt_not (pt_val (pe_callB XV.call_isX (by rfl) T.isi (by decide +kernel) (pa_cons (pv 6) (pa_cons (pe_bltn (v := .ty "ValueError") (u := .type "ValueError") (by rfl) T.verr (by decide +kernel) rfl) pa_nil))))))))
       (pss_one (ps_ret pe_bl))
       pss_nil)
      (pss_one (ps_if (PW.pt (pw_and (pt_cmpR op_lt (pv 3) pe_int (nomark _)) (pw_and1 (pt_not (pt_val (pe_call G_law_is (hr.mono (by decide)) (by rfl) g_law_is F_law_is.kp b_law_is .nil pass0 (pa_cons (pe_call G_law_field (hr.mono (by decide)) (by rfl) g_law_field F_law_field.kp b_law_field .nil pass0 (pa_cons (pv 6) (pa_cons (pv 3) pa_nil))) (pa_cons (pe_ix ix_list (pv 4) (pv 3) (fun _ _ => rfl)) pa_nil))))))))
       (pss_one (ps_ret pe_bl))
       pss_nil)))))))
      (pss_cons (ps_set (i := 8) sc_law.nd rfl (Or.inl rfl) (pe_call G_law_draw (hr.mono (by decide)) (by rfl) g_law_draw F_law_draw.kp b_law_draw .nil pass0 (pa_cons (pv 1) (pa_cons pe_int pa_nil))))
      (pss_one (ps_ret (pe_call G_law_is (hr.mono (by decide)) (by rfl) g_law_is F_law_is.kp b_law_is .nil pass0 (pa_cons (pe_call G_law_caught (hr.mono (by decide)) (by rfl) g_law_caught F_law_caught.kp b_law_caught .nil pass0 (pa_cons (pv 8) (pa_cons (pe_ix ix_list (pv 4) (pv 8) (fun _ _ => rfl)) pa_nil))) (pa_cons (pe_ix ix_list (pv 4) (pv 8) (fun _ _ => rfl)) pa_nil))))))))))))), ?_⟩
    dsimp only [cxOf, Cx.nox, Cx.wish]
    walk_at "f"
    refine ⟨a, ns, rfl, hl, h63, fun d c H1 nd s1 h1 => ?_⟩
    walk_at "f"
    refine My.new (My.sz (by simp)) fun p1 n1 => ?_
    have a1 := same_new (o := .tup [V.str "equation", V.int 1]) n1
    have o1 := upd_same (H := H1) (a := p1) (o := .tup [V.str "equation", V.int 1])
    generalize upd H1 p1 _ = H2 at a1 o1 ⊢
    walk_at "f"
    refine My.new (My.sz (by simp)) fun p2 n2 => ?_
    have a2 := same_new (o := .tup []) n2
    have o2 := upd_same (H := H2) (a := p2) (o := .tup [])
    generalize upd H2 p2 _ = H3 at a2 o2 ⊢
    walk_at "f"
    refine My.new (My.sz (by simp)) fun p3 n3 => ?_
    have a3 := same_new (o := .lst [V.int 2]) n3
    have o3 := upd_same (H := H3) (a := p3) (o := .lst [V.int 2])
    generalize upd H3 p3 _ = H4 at a3 o3 ⊢
    walk_at "f"
    refine My.new (My.sz (by simp)) fun p4 n4 => ?_
    have a4 := same_new (o := .lst [V.int 1, V.ref p3]) n4
    have o4 := upd_same (H := H4) (a := p4) (o := .lst [V.int 1, V.ref p3])
    generalize upd H4 p4 _ = H5 at a4 o4 ⊢
    walk_at "f"
    refine My.disp fun p5 n5 => ?_
    walk_at "f"
    refine ⟨upd_same, [(.inr "a", .int 1)], rfl, by simp, ?_⟩
    have em : mergeK [] [((.inr "a" : Key), V.int 1)] = [(.inr "a", .int 1)] := rfl
    rw [em, upd_upd]
    have a5 := same_new (o := .dK [((.inr "a" : Key), V.int 1)]) n5
    have o5 := upd_same (H := H5) (a := p5) (o := .dK [((.inr "a" : Key), V.int 1)])
    generalize upd H5 p5 _ = H6 at a5 o5 ⊢
    walk_at "f"
    refine My.new (My.sz (by simp)) fun p6 n6 => ?_
    have a6 := same_new (o := .tup [V.int 0, V.int 1]) n6
    have o6 := upd_same (H := H6) (a := p6) (o := .tup [V.int 0, V.int 1])
    generalize upd H6 p6 _ = H7 at a6 o6 ⊢
    walk_at "f"
    refine My.new (My.sz (by simp)) fun p7 n7 => ?_
    have a7 := same_new (o := .tup [V.ref p6]) n7
    have o7 := upd_same (H := H7) (a := p7) (o := .tup [V.ref p6])
    generalize upd H7 p7 _ = H8 at a7 o7 ⊢
    walk_at "f"
    refine My.new (My.sz (by simp)) fun p8 n8 => ?_
    have a8 := same_new (o := .lst [V.str "many", V.int 0, V.int 3, V.int (-1), V.non, V.bl true, V.ref p1, V.ref p2, V.ref p4, V.ref p5, V.int (10 ^ (29 : Int).toNat), V.str "", V.ref p7]) n8
    have o8 := upd_same (H := H8) (a := p8) (o := .lst [V.str "many", V.int 0, V.int 3, V.int (-1), V.non, V.bl true, V.ref p1, V.ref p2, V.ref p4, V.ref p5, V.int (10 ^ (29 : Int).toNat), V.str "", V.ref p7])
    generalize upd H8 p8 _ = H9 at a8 o8 ⊢
    walk_at "f"
    have b4 := ((a1.trans a2).trans a3).trans a4
    have sA := (((b4.trans a5).trans a6).trans a7).trans a8
    have ne5 : p5 ≠ d := fun z => by
      obtain ⟨_, hd1⟩ := (h1.same b4).dk
      rw [z, hd1] at n5
      cases n5
    have th : ∀ v ∈ ([V.str "many", V.int 0, V.int 3, V.int (-1), V.non, V.bl true, V.ref p1, V.ref p2, V.ref p4, V.ref p5, V.int (10 ^ (29 : Int).toNat), V.str "", V.ref p7] : List V), Thing C d H9 v := by
      intro v hv
      simp only [List.mem_cons, List.not_mem_nil, or_false] at hv
      rcases hv with rfl | rfl | rfl | rfl | rfl | rfl | rfl | rfl | rfl | rfl | rfl | rfl | rfl
      · exact .str _
      · exact .int _
      · exact .int _
      · exact .int _
      · exact .non
      · exact .bl _
      · exact .tup (((((((a2.trans a3).trans a4).trans a5).trans a6).trans a7).trans a8) _ _ o1) (fun w hw => by
          simp only [List.mem_cons, List.not_mem_nil, or_false] at hw
          rcases hw with rfl | rfl
          · exact .inl rfl
          · exact .inl rfl)
      · exact .tup ((((((a3.trans a4).trans a5).trans a6).trans a7).trans a8) _ _ o2) (fun w hw => by cases hw)
      · exact .lst ((((a5.trans a6).trans a7).trans a8) _ _ o4) (fun w hw => by
          simp only [List.mem_cons, List.not_mem_nil, or_false] at hw
          rcases hw with rfl | rfl
          · exact .inl rfl
          · exact .inr ⟨_, rfl⟩)
      · exact .dic (((a6.trans a7).trans a8) _ _ o5) (by simp) (fun q hq => by
          rw [List.mem_singleton.mp hq]; exact .inl rfl) ne5
      · exact .int _
      · exact .str _
      · exact .tup (a8 _ _ o7) (fun w hw => by
          rw [List.mem_singleton.mp hw]; exact .inr ⟨_, rfl⟩)
    have h9 := h1.same sA
    have s9' := sA
    have len13 : ([V.str "many", V.int 0, V.int 3, V.int (-1), V.non, V.bl true, V.ref p1, V.ref p2, V.ref p4, V.ref p5, V.int (10 ^ (29 : Int).toNat), V.str "", V.ref p7] : List V).length = 13 := rfl
    generalize [V.str "many", V.int 0, V.int 3, V.int (-1), V.non, V.bl true, V.ref p1, V.ref p2, V.ref p4, V.ref p5, V.int (10 ^ (29 : Int).toNat), V.str "", V.ref p7] = ms at th o8 len13 ⊢
    clear a1 a2 a3 a4 a5 a6 a7 a8 o1 o2 o3 o4 o5 o6 o7 b4 sA n1 n2 n3 n4 n5 n6 n7 n8 ne5 em
    refine ⟨d, c, rfl, h9, fun v H10 tv h10 b10 => ?_⟩
    have s10 : But d H1 H10 := (Same.but s9').trans b10
    have th10 : ∀ v ∈ ms, Thing C d H10 v := fun v hv => (th v hv).but h9 b10
    have o10 := b10.obj h9 o8 (fun _ z => by cases z)
    walk_at "f"
    refine My.new (My.sz (by simp)) fun t nt => ?_
    have at_ := same_new (o := .tup []) nt
    have ot := upd_same (H := H10) (a := t) (o := .tup [])
    generalize upd H10 t _ = H11 at at_ ot ⊢
    walk_at "f"
    intro x dx nx ndx nex
    refine ⟨x, dx, t, rfl, upd_same, ?_, rfl, ?_⟩
    · exact same_new (H := upd H11 dx (.own x)) (p := x) (by rw [upd_ne (Ne.symm nex)]; exact nx) _ _ (same_new ndx _ _ ot)
    rw [upd_upd]
    have ax : Same H11 (upd (upd H11 dx (.own x)) x (.ins C dx [("terms", .ref t)])) := (same_new ndx).trans (same_new (by rw [upd_ne (Ne.symm nex)]; exact nx))
    have ox := upd_same (H := upd H11 dx (.own x)) (a := x) (o := .ins C dx [("terms", .ref t)])
    generalize upd (upd H11 dx (.own x)) x _ = H12 at ax ox ⊢
    have nought : Nought C x H12 := ⟨dx, t, ox, ax _ _ ot⟩
    walk_at "f"
    refine My.new (My.sz (by simp)) fun p9 n9 => ?_
    have a9 := same_new (o := .lst [v, V.ref x]) n9
    have o9 := upd_same (H := H12) (a := p9) (o := .lst [v, V.ref x])
    generalize upd H12 p9 _ = H13 at a9 o9 ⊢
    refine My.cat (((at_.trans ax).trans a9) _ _ o10) o9 (by rw [len13]; simp) fun p10 n10 => ?_
    have a10 := same_new (o := .lst (ms ++ [v, V.ref x])) n10
    have oM := upd_same (H := H13) (a := p10) (o := .lst (ms ++ [v, V.ref x]))
    generalize upd H13 p10 _ = H14 at a10 oM ⊢
    have s14 := (at_.trans ax).trans (a9.trans a10)
    have h14 := h10.same s14
    have thM : ∀ w ∈ ms ++ [v, V.ref x], Thing C d H14 w := fun w hw => by
      rcases List.mem_append.mp hw with hw | hw
      · exact (th10 w hw).same s14
      · simp only [List.mem_cons, List.not_mem_nil, or_false] at hw
        rcases hw with rfl | rfl
        · exact tv.same s14
        · exact Thing.same (a9.trans a10) (.pol nought)
    have lenM : (ms ++ [v, V.ref x]).length = 15 := by rw [List.length_append, len13]; rfl
    generalize ms ++ [v, V.ref x] = mm at oM thM lenM ⊢
    clear th th10 o8 o10 len13 at_ ot ax ox a9 o9 a10 nt nx ndx nex n9 n10 nought s9' s14 tv
    walk_at "f"
    refine My.lcRI (by decide) (by decide) fun D nD => ⟨fun i H' => But d H14 H' ∧ Hand K H' d c ∧ ∃ acc : List V, H' D = some (.lst acc) ∧ acc.length = i ∧ ∀ w ∈ acc, w ∈ mm, ⟨Same.but (same_new nD), h14.same (same_new nD), [], upd_same, rfl, fun w hw => by cases hw⟩, ?_, ?_⟩
    · rintro i H' hi ⟨b', h', acc, hD, la, ha⟩
      walk_at "f"
      refine ⟨rfl, ?_⟩
      walk_at "f"
      refine ⟨d, c, p10, mm, rfl, h', b'.list h14 (SqL.of oM), by rw [lenM]; decide, by rw [lenM]; decide, fun v H2 hv h2 b2 _ => ?_⟩
      have hi9 : i < 9 := hi
      refine ⟨acc, b2.obj h' hD (fun _ z => by cases z), Nat.lt_of_lt_of_le (show acc.length < 1000 by omega) (by decide), but_at (b'.trans b2) nD, h14.at (b'.trans b2) h2 nD, acc ++ [v], upd_same, by simp [la], fun w hw => ?_⟩
      rcases List.mem_append.mp hw with hw | hw
      · exact ha w hw
      · rw [List.mem_singleton.mp hw]; exact hv
    rintro H15 ⟨b15, h15, acc, oD, lA, hA⟩
    have lA9 : acc.length = 9 := lA
    have thA : ∀ w ∈ acc, Thing C d H15 w := fun w hw => (thM w (hA w hw)).but h14 b15
    walk_at "f"
    refine ⟨D, acc, rfl, SqL.of oD, lA9, fun l us H16 nl s16 l16 e16 => ?_⟩
    have h16 := h15.same s16
    have oA := s16 _ _ oD
    have thB : ∀ w ∈ acc, Thing C d H16 w := fun w hw => (thA w hw).same s16
    have l27 : us.length = 27 := e16.1
    clear thM b15 h15 thA h14 oM b10 s10
    walk_at "f"
    refine My.lenL (SqL.of l16) ?_
    rw [l27]
    walk_at "f"
    refine My.ite_cf (by decide) ?_
    walk_at "f"
    refine My.lenL (SqL.of l16) ?_
    rw [l27]
    walk_at "f"
    refine My.rngI (by decide) (by decide) (fun i σ H' => Same H16 H' ∧ ∃ u3 u6 u7, σ = [some (.ref a), some (.ref d), some (.ref p10), u3, some (.ref D), some (.ref l), u6, u7, none]) ⟨Same.refl _, none, none, none, rfl⟩ ?_ ?_
    · rintro i σ H' hi ⟨sH, u3, u6, u7, rfl⟩
      have hi27 : i < 27 := hi
      have hp : psAll[i]? = some (psAll[i]'hi27) := List.getElem?_eq_getElem hi27
      generalize psAll[i]'hi27 = p at hp
      obtain ⟨ae, hae, er⟩ := e16.2 i p hp
      obtain ⟨hnm, hy⟩ := psAll_at hp
      rw [Int.zero_add]
      walk_at "f"
      refine My.ixL (SqL.of (sH _ _ l16)) (atI_nat hae) ?_
      walk_at "f"
      refine ⟨ae, p.1, rfl, hy, er.is.same sH, fun l2 H2 nl2 s2 f2 => ?_⟩
      have s162 := sH.trans s2
      walk_at "f"
      refine My.ixL (SqL.of f2) (atI_nat (v := .bl true) (by rw [List.getElem?_map, hnm]; simp)) ?_
      walk_at "f"
      refine My.tyL (SqL.of f2) ?_
      walk_at "f"
      have eb : flags p.1 nm = (nm.map fun x => decide (p.1 = x)).map V.bl := by rw [List.map_map]; rfl
      refine ⟨l2, nm.map fun x => decide (p.1 = x), true, rfl, rfl, SqL.of (by rw [← eb]; exact f2), ?_⟩
      rw [one_flag hy]
      walk_at "f"
      refine My.ite_cf (by decide) ?_
      refine My.test ?_
      walk_at "f"
      refine My.lenL (SqL.of f2) ?_
      walk_at "f"
      refine My.lenL (SqL.of (s162 _ _ l16)) ?_
      rw [l27]
      walk_at "f"
      have f27 : (flags p.1 nm).length = 27 := by rw [List.length_map]; rfl
      rw [f27]
      refine My.ite_cf (by decide) ?_
      walk_at "f"
      refine ⟨ae, ga K p.1, .ref (ga K "RootError"), .ref (ga K "RootError"), true, rfl, er.is.same s162, (E0.err hy).ex, fun _ r => r, TT.root p.1 hy, ?_⟩
      walk_at "f"
      refine ⟨ae, ga K p.1, .ty "ValueError", .type "ValueError", true, rfl, er.is.same s162, (E0.err hy).ex, fun _ r => r, TT.verr p.1 hy, ?_⟩
      walk_at "f"
      · rename_i z9
        have z9' : i < 9 := by omega
        obtain ⟨f, ep, hF⟩ := psAll_f hp z9'
        obtain ⟨y, hy2, ey⟩ : ∃ y, acc[i]? = some y ∧ ErrF H16 ae (ga K p.1) f y := by
          have er2 := er
          unfold Er at er2
          rw [ep] at er2
          exact er2
        have tY := thB y (List.mem_of_getElem? hy2)
        refine ⟨ae, i, (p.1, f), y, rfl, hF, K00.ErrF.same s162 ey, fun H3 s3 => ?_⟩
        walk_at "f"
        refine My.ixL (SqL.of (s3 _ _ (s162 _ _ oA))) (atI_nat hy2) ?_
        walk_at "f"
        refine ⟨d, y, rfl, (tY.same s162).same s3, fun H4 s4 => ?_⟩
        walk_at "f"
        exact ⟨(s162.trans s3).trans s4, _, _, _, rfl⟩
      · exact ⟨s162, _, _, _, rfl⟩
    · rintro σ H' ⟨sH, u3, u6, u7, rfl⟩
      walk_at "f"
      refine ⟨d, c, 4, rfl, by decide, by decide, h16.same sH, fun r H2 r0 r4 h2 b2 _ => ?_⟩
      have hH := h16.same sH
      walk_at "f"
      have oA2 := b2.obj hH (sH _ _ oA) (fun _ z => by cases z)
      obtain ⟨v, ev, hv⟩ := My.atI_of (xs := acc) r0 (by omega)
      have tv : Thing C d H2 v := ((thB v hv).same sH).but hH b2
      refine My.ixL (SqL.of oA2) ev ?_
      walk_at "f"
      refine ⟨r, v, rfl, fun H3 s3 => ?_⟩
      walk_at "f"
      refine My.ixL (SqL.of (s3 _ _ oA2)) ev ?_
      walk_at "f"
      exact ⟨d, v, rfl, tv.same s3, fun H4 _ => k H4⟩
end
end K00

set_option Elab.async false
set_option linter.all false
set_option maxRecDepth 100000
set_option maxHeartbeats 0
namespace K00
open PySem PySem.Spec PyProof.Rows L2 XV XF He
/-! ### the head -/
def names0 : List PySem.Str := ["RootError", "BadPoly", "BadSystem", "NoCover", "BadNumber", "NoWish", "BadText", "BadLine", "NoName", "TooMany", "NoInteger", "NoUnknown", "NoNumber", "NoPoint", "NoDivisor", "NoChain"]
def names1 : List PySem.Str := ["NoPolynomial", "Unlike", "NoBox", "Double", "NoBoxing", "NoFraction", "NoWidth", "ByNought", "Below", "Endless", "NoLine", "NoPower", "UNKNOWNS", "is_integer", "is_number_to", "MOST_TERMS"]
def names2 : List PySem.Str := ["MOST_POWER", "Poly", "is_term", "is_powers", "_law_hand", "_law_draw", "_law_any", "_law_deep", "_law_first_flags", "_law_flags", "_law_made", "_law_field", "_law_caught", "_law_is"]
def names : List PySem.Str := names0 ++ names1 ++ names2
def fa0 : List He.Fa := [.glo "_law_hand", .glo "_law_draw", .glo "_law_any", .glo "_law_deep", .glo "_law_made", .glo "_law_flags", .glo "_law_field", .glo "_law_caught", .glo "_law_is", .glo "_law_first_flags", .glo "law", .glo "Poly"]
def fa1 : List He.Fa := [.glo "RootError", .free "len", .free "int", .free "abs", .free "range", .free "isinstance", .free "bool", .free "tuple", .free "enumerate", .free "ValueError", .cls "Poly", .mkr "Poly"]
def fa2 : List He.Fa := [.meth "Poly" "__eq__", .noat "Poly" "terms", .int "MOST_TERMS" 300]
def fa : List He.Fa := fa0 ++ (fa1 ++ (fa2))
def kitB2 (K : PySem.W.Frag) (x : Str) (c : Value) (b : Bool) : Bool := decide (PySem.W.kitOne K (.ref (ga K x)) c = some b)
/-- all else that is asked of the written part -/
def ex (K : PySem.W.Frag) : Bool := (nm.all fun x => errB K x) && ((nmF.all fun p => fldB K p.1 p.2) && (((nmB ++ nmC).all fun x => plnB K x) && ((nm.all fun y => nm.all fun x => isB K y x (decide (y = x))) &&
  ((nm.all fun y => isB K y "RootError" true) && ((nm.all fun y => kitB2 K y (.type "ValueError") true) && ((nmA.all fun x => decide (PySem.W.exmOne K (.ref (ga K x)) (.ref (ga K "RootError")) = some true)) &&
  (eqO (PySem.W.findIn K (.ref (ga K "Poly")) "__class__") (some (some (.builtin "object.__class__"))) && (eqO (PySem.W.specialIn K (.builtin "object.__class__") "__get__") (some (some (.builtin "getset_descriptor.__get__"))) &&
  (decide (PySem.W.takesIn K (.builtin "object.__class__") = some true) && (decide (PySem.W.mroIn K (ga K "Poly") (.type "object") = some true) && (kitB2 K "Poly" (.type "bool") false && isB K "Poly" "Poly" true)))))))))))
abbrev R : PySem.W.OpenRow := PySem.W.OpenLaw.row PySem.Challenge.rw_boxedroots_k00_errors_and_their_fields
def hookZ (n : Nat) (fa : List Fa) (fn : List DefD) (ex : PySem.W.Frag → Bool) : PySem.W.Hook where
  α := AlD × Bool
  obs := fun s => (obsDG n fa fn s.heap.get?, ex (frG s.heap.get? (asD s.heap.get? n)))
  val := fun _ => (valD fn, true)
  says := fun _ h => ∃ K : PySem.W.Frag, K.In h ∧ SaysD fa fn K ∧ ex K = true
  of := fun _ _ e => ⟨_, frG_in, congrArg Prod.fst e, congrArg Prod.snd e⟩
  keeps := fun _ _ _ ⟨K, hK, c, c2⟩ k => ⟨K, PySem.W.Frag.In.keeps hK k, c, c2⟩
abbrev hz : PySem.W.Hook := hookZ 5 fa fn ex
def ob (s : PySem.W.SharedT) : AlD × Bool := (obsDG 5 fa fn (HandSHeadRun.getT s), ex (frG (HandSHeadRun.getT s) (asD (HandSHeadRun.getT s) 5)))
theorem ob_eq (s : PySem.W.SharedT) : ob s = hz.obs s.abs := by
  have e : HandSHeadRun.getT s = s.abs.heap.get? := funext (HandSHeadRun.getT_eq s)
  show (obsDG 5 fa fn (HandSHeadRun.getT s), ex (frG (HandSHeadRun.getT s) (asD (HandSHeadRun.getT s) 5))) = (obsDG 5 fa fn s.abs.heap.get?, ex (frG s.abs.heap.get? (asD s.abs.heap.get? 5)))
  rw [e]
theorem run (w : World) : HandSHeadRun.RunEq R (PySem.W.view R.prog [50]) hz ob 20000 names w := by
  intro os
  kernel_rfl
end K00

set_option Elab.async false
set_option linter.all false
set_option maxRecDepth 100000
set_option maxHeartbeats 0
namespace K00
open PySem PySem.Spec PyProof.Rows L2 XV XF He
theorem isB_ok {K : PySem.W.Frag} {x y : Str} {b : Bool} (h : isB K x y b = true) : PySem.W.kitOne K (.ref (ga K x)) (.ref (ga K y)) = some b := of_decide_eq_true h
theorem facts {P : Program} {w : World} {K : PySem.W.Frag} {h : Heap} {mg : Str → Option Value} {f : Addr} (X : K.In h) (G : h.Ns mainGlobals mg) (hfa : mg ("law" : Str) = some (.ref f)) (c : He.SaysD fa fn K) (c2 : ex K = true) :
    ∃ fd : FuncData, (∀ (s : Shared) (v : Value), BindsTo s fd ⟨[v], []⟩ [("_law_script", v)]) ∧ ∀ base : Heap, K.In base → base.Ns mainGlobals mg → FnOk P w K mg base CX0 7 f fd ["_law_script"] (spLaw K) := by
  obtain ⟨fd_BadPoly_init, F_BadPoly_init⟩ := c.def_ 0 (d := d_BadPoly_init) rfl
  obtain ⟨fd_BadSystem_init, F_BadSystem_init⟩ := c.def_ 1 (d := d_BadSystem_init) rfl
  obtain ⟨fd_NoCover_init, F_NoCover_init⟩ := c.def_ 2 (d := d_NoCover_init) rfl
  obtain ⟨fd_BadNumber_init, F_BadNumber_init⟩ := c.def_ 3 (d := d_BadNumber_init) rfl
  obtain ⟨fd_NoWish_init, F_NoWish_init⟩ := c.def_ 4 (d := d_NoWish_init) rfl
  obtain ⟨fd_BadText_init, F_BadText_init⟩ := c.def_ 5 (d := d_BadText_init) rfl
  obtain ⟨fd_BadLine_init, F_BadLine_init⟩ := c.def_ 6 (d := d_BadLine_init) rfl
  obtain ⟨fd_NoName_init, F_NoName_init⟩ := c.def_ 7 (d := d_NoName_init) rfl
  obtain ⟨fd_TooMany_init, F_TooMany_init⟩ := c.def_ 8 (d := d_TooMany_init) rfl
  obtain ⟨fd_is_integer, F_is_integer⟩ := c.def_ 9 (d := d_is_integer) rfl
  obtain ⟨fd_is_number_to, F_is_number_to⟩ := c.def_ 10 (d := d_is_number_to) rfl
  obtain ⟨fd_Poly_init, F_Poly_init⟩ := c.def_ 11 (d := d_Poly_init) rfl
  obtain ⟨fd_Poly_eq, F_Poly_eq⟩ := c.def_ 12 (d := d_Poly_eq) rfl
  obtain ⟨fd_is_term, F_is_term⟩ := c.def_ 13 (d := d_is_term) rfl
  obtain ⟨fd_is_powers, F_is_powers⟩ := c.def_ 14 (d := d_is_powers) rfl
  obtain ⟨fd_law_hand, F_law_hand⟩ := c.def_ 15 (d := d_law_hand) rfl
  obtain ⟨fd_law_draw, F_law_draw⟩ := c.def_ 16 (d := d_law_draw) rfl
  obtain ⟨fd_law_any, F_law_any⟩ := c.def_ 17 (d := d_law_any) rfl
  obtain ⟨fd_law_deep, F_law_deep⟩ := c.def_ 18 (d := d_law_deep) rfl
  obtain ⟨fd_law_first_flags, F_law_first_flags⟩ := c.def_ 19 (d := d_law_first_flags) rfl
  obtain ⟨fd_law_flags, F_law_flags⟩ := c.def_ 20 (d := d_law_flags) rfl
  obtain ⟨fd_law_made, F_law_made⟩ := c.def_ 21 (d := d_law_made) rfl
  obtain ⟨fd_law_field, F_law_field⟩ := c.def_ 22 (d := d_law_field) rfl
  obtain ⟨fd_law_caught, F_law_caught⟩ := c.def_ 23 (d := d_law_caught) rfl
  obtain ⟨fd_law_is, F_law_is⟩ := c.def_ 24 (d := d_law_is) rfl
  obtain ⟨fd_law, F_law⟩ := c.def_ 25 (d := d_law) rfl
  have e := hfa.symm.trans (He.glo_ok X G (c.fact 10 (f := .glo "law") rfl))
  cases e
  obtain ⟨x1, c2⟩ := ba c2
  obtain ⟨x2, c2⟩ := ba c2
  obtain ⟨x3, c2⟩ := ba c2
  obtain ⟨x4, c2⟩ := ba c2
  obtain ⟨x5, c2⟩ := ba c2
  obtain ⟨x6, c2⟩ := ba c2
  obtain ⟨x7, c2⟩ := ba c2
  obtain ⟨x8, c2⟩ := ba c2
  obtain ⟨x9, c2⟩ := ba c2
  obtain ⟨y1, c2⟩ := ba c2
  obtain ⟨y2, c2⟩ := ba c2
  obtain ⟨y3, y4⟩ := ba c2
  have E0 : TE0 K mg := ⟨fun {x} hx => errB_ok X G (List.all_eq_true.mp x1 x hx), fun {p} hp => fldB_ok (List.all_eq_true.mp x2 p hp), fun {x} hx => List.all_eq_true.mp x3 x hx⟩
  have Wh : Which K := fun y hy x hx => isB_ok (List.all_eq_true.mp (List.all_eq_true.mp x4 y hy) x hx)
  have TT : Tops K := ⟨fun y hy => isB_ok (List.all_eq_true.mp x5 y hy), fun y hy => of_decide_eq_true (List.all_eq_true.mp x6 y hy)⟩
  have RT : RootT K mg := ⟨He.glo_ok X G (c.fact 12 (f := .glo "RootError") rfl), fun x hx => of_decide_eq_true (List.all_eq_true.mp x7 x hx)⟩
  have T : Txt0 mg := { len := He.free_ok X G (c.fact 13 (f := .free "len") rfl), int := He.free_ok X G (c.fact 14 (f := .free "int") rfl), abs := He.free_ok X G (c.fact 15 (f := .free "abs") rfl), range := He.free_ok X G (c.fact 16 (f := .free "range") rfl), isi := He.free_ok X G (c.fact 17 (f := .free "isinstance") rfl), bool := He.free_ok X G (c.fact 18 (f := .free "bool") rfl), tuple := He.free_ok X G (c.fact 19 (f := .free "tuple") rfl), enum := He.free_ok X G (c.fact 20 (f := .free "enumerate") rfl), verr := He.free_ok X G (c.fact 21 (f := .free "ValueError") rfl) }
  have PT : PolT K mg (ga K "Poly") (ma K (ga K "Poly") "__init__") (ma K (ga K "Poly") "__eq__") :=
    { g := He.glo_ok X G (c.fact 11 (f := .glo "Poly") rfl), cl := He.cls_ok (c.fact 22 (f := .cls "Poly") rfl), nt := He.noat_ok (c.fact 25 (f := .noat "Poly" "terms") rfl), mkr := He.mkr_ok (c.fact 23 (f := .mkr "Poly") rfl), eq := He.meth_ok (c.fact 24 (f := .meth "Poly" "__eq__") rfl),
      ha := eqO_ok x8, hn := eqO_ok x9, ht := of_decide_eq_true y1, hm := of_decide_eq_true y2, kb := of_decide_eq_true y3, kp := isB_ok y4, most := He.int_ok X G (c.fact 26 (f := .int "MOST_TERMS" 300) rfl) }
  have I : Inits K fd_BadPoly_init fd_BadSystem_init fd_NoCover_init fd_BadNumber_init fd_NoWish_init fd_BadText_init fd_BadLine_init fd_NoName_init fd_TooMany_init := { F_BadPoly := F_BadPoly_init, F_BadSystem := F_BadSystem_init, F_NoCover := F_NoCover_init, F_BadNumber := F_BadNumber_init, F_NoWish := F_NoWish_init, F_BadText := F_BadText_init, F_BadLine := F_BadLine_init, F_NoName := F_NoName_init, F_TooMany := F_TooMany_init }
  have b := FunD.bindsA (ps := ["_law_script"]) F_law fun _ _ _ _ _ _ us hl => match us, hl with | [_], _ => rfl
  refine ⟨fd_law, fun s v => b s [v] rfl, fun base _ _ => ?_⟩
  exact ok_law F_law T E0 Wh TT RT PT I F_Poly_init F_Poly_eq F_law_first_flags (He.glo_ok X G (c.fact 9 (f := .glo "_law_first_flags") rfl)) F_law_is (He.glo_ok X G (c.fact 8 (f := .glo "_law_is") rfl))
    F_law_hand (He.glo_ok X G (c.fact 0 (f := .glo "_law_hand") rfl))
    F_law_draw (He.glo_ok X G (c.fact 1 (f := .glo "_law_draw") rfl))
    F_law_any (He.glo_ok X G (c.fact 2 (f := .glo "_law_any") rfl))
    F_law_deep (He.glo_ok X G (c.fact 3 (f := .glo "_law_deep") rfl))
    F_law_made (He.glo_ok X G (c.fact 4 (f := .glo "_law_made") rfl))
    F_law_flags (He.glo_ok X G (c.fact 5 (f := .glo "_law_flags") rfl))
    F_law_field (He.glo_ok X G (c.fact 6 (f := .glo "_law_field") rfl))
    F_law_caught (He.glo_ok X G (c.fact 7 (f := .glo "_law_caught") rfl))
end K00
open PySem PySem.W PySem.Calls PyProof.Rows
theorem PySem.Challenge.cw_boxedroots_k00_errors_and_their_fields_holds : PySem.Challenge.rw_boxedroots_k00_errors_and_their_fields.Holds := by
  w_on; o_law
  refine HandSHeadRun.head_any (r := OpenLaw.row PySem.Challenge.rw_boxedroots_k00_errors_and_their_fields) (q := view (OpenLaw.row PySem.Challenge.rw_boxedroots_k00_errors_and_their_fields).prog [50]) (H := K00.hz) (ob := K00.ob) (M := 20000) (loose := K00.names) (d := HandSHeadRun.topDef (OpenLaw.row PySem.Challenge.rw_boxedroots_k00_errors_and_their_fields).prog 50) (kwd := []) K00.ob_eq
    (by kernel_rfl) (fun s => by kernel_rfl) K00.run (by kernel_rfl) (by kernel_rfl) (by kernel_rfl) (by rfl) (by first | assumption | decide +kernel) (by decide +kernel) ⟨rfl, rfl, rfl, rfl, rfl, by decide +kernel⟩ ?hw ?hc
  case hw => w_witness2
  case hc =>
    refine L2.walk_ofE (l := PySem.Challenge.rw_boxedroots_k00_errors_and_their_fields) (n := 63) (k := 7) (x := "_law_script") (CX := L2.CX0) rfl (by decide) (by kernel_rfl) ⟨rfl, by decide, by decide⟩ ?F (fun _ _ _ _ z => z)
    intro w mg fa h Y G hmg0
    obtain ⟨K, KX, c, c2⟩ := Y
    have hmg : mg ("law" : PySem.Str) = some (.ref fa) := by
      have e : (HandSHeadRun.topDef (OpenLaw.row PySem.Challenge.rw_boxedroots_k00_errors_and_their_fields).prog 50).name = ("law" : PySem.Str) := by kernel_rfl
      rw [← e]
      exact hmg0
    obtain ⟨fd, hb, hF⟩ := K00.facts (P := (PySem.Challenge.rw_boxedroots_k00_errors_and_their_fields).prog) (w := w) KX G hmg c c2
    exact ⟨K, fd, K00.spLaw K, KX, hb, fun H a ns hl _ hS => ⟨a, ns, rfl, hS, hl, fun _ => rfl⟩, hF⟩
#print axioms PySem.Challenge.cw_boxedroots_k00_errors_and_their_fields_holds
