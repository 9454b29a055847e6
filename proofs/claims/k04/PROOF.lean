import PyProof.Rows.All
import Wide.All
import OpenK.AllK
import Wide.FinOn
import PyProof.EqAt
import PyProof.EqKinds
import PyProof.TupleCall
import HandS.ForMost
import HandS.ForExc
import HandS.IsInst
import HandS.Defaults
import HandS.HeadHook4
import HandS.HeadEnd
import HandS.Head4
import HandS.CallLocal
import PySem.Challenge.RW_unwind_k04_faults_go_out
import HandS.RevRange
set_option Elab.async false
set_option linter.all false
set_option maxRecDepth 100000
set_option maxHeartbeats 4000000
/-! U0: short steps for readings (own work). -/
namespace U
open PySem L2

/-! ### sizes -/
theorem sz {n : Nat} (h : n ≤ 100000) : n ≤ sizeLine := Nat.le_trans h (by decide)
theorem szlt {n : Nat} (h : n < 100000) : n < sizeLine := Nat.lt_of_lt_of_le h (by decide)
theorem ble {n m : Nat} (h : Nat.ble n m = true) : n ≤ m := Nat.le_of_ble_eq_true h

/-! ### statements -/
section
variable {t u : TS} {nx bk ct : L2.St → Hp → Prop} {rt : VK} {σ : L2.St} {H : Hp} {te ta tb tc : TE} {tt tt2 : TT} {tas : TA} {Q : VK} {QB : Bool → Hp → Prop} {QA : List V → Hp → Prop} {g : TG} {gs : TGs} {i : Nat} {v x y : V} {r : R2} {K : PySem.W.Frag}
theorem w_seq (h : t ⟨u ⟨nx, rt, bk, ct⟩, rt, bk, ct⟩ σ H) : tSeq t u ⟨nx, rt, bk, ct⟩ σ H := h
theorem w_seqN {σ' : L2.St} (e : σ = σ') (h : t ⟨u ⟨nx, rt, bk, ct⟩, rt, bk, ct⟩ σ' H) : tSeq t u ⟨nx, rt, bk, ct⟩ σ H := by subst e; exact h
/-- a choice that is followed by something: it is entered by name ("if"), or by what holds behind it (w_ifJ) -/
def tSeqIf (tt : TT) (t u v : TS) : TS := tSeq (tIfS tt t u) v
theorem w_seqStop {v : TS} {D : Ends} (h : tSeqIf tt t u v D σ H) : tSeq (tIfS tt t u) v D σ H := h
theorem w_seqIf {v : TS} {σ' : L2.St} (e : σ = σ') (h : tt σ' H fun b H1 => if b = true then t ⟨v ⟨nx, rt, bk, ct⟩, rt, bk, ct⟩ σ' H1 else u ⟨v ⟨nx, rt, bk, ct⟩, rt, bk, ct⟩ σ' H1) : tSeqIf tt t u v ⟨nx, rt, bk, ct⟩ σ H := by subst e; exact h
theorem w_ifJ {v : TS} {σ1 : L2.St} (e : σ = σ1) (J : L2.St → Hp → Prop) (h2 : ∀ nx' : L2.St → Hp → Prop, (∀ σ' H', J σ' H' → nx' σ' H') → tt σ1 H fun b H1 => if b = true then t ⟨nx', rt, bk, ct⟩ σ1 H1 else u ⟨nx', rt, bk, ct⟩ σ1 H1)
    (h1 : ∀ σ' H', J σ' H' → v ⟨nx, rt, bk, ct⟩ σ' H') : tSeqIf tt t u v ⟨nx, rt, bk, ct⟩ σ H := by subst e; exact h2 _ h1
theorem w_seqJ {J : L2.St → Hp → Prop} (h2 : ∀ nx' : L2.St → Hp → Prop, (∀ σ' H', J σ' H' → nx' σ' H') → t ⟨nx', rt, bk, ct⟩ σ H) (h1 : ∀ σ' H', J σ' H' → u ⟨nx, rt, bk, ct⟩ σ' H') : tSeq t u ⟨nx, rt, bk, ct⟩ σ H := h2 _ h1
/-- a loop that is followed by something: it is entered by name ("lp"), or by what holds behind it (w_lpJ) -/
def tSeqLp (t v : TS) : TS := tSeq t v
theorem w_stopF {wi : TI} {tb v : TS} {D : Ends} (h : tSeqLp (tFor wi g tb) v D σ H) : tSeq (tFor wi g tb) v D σ H := h
theorem w_stopW {tb v : TS} {D : Ends} (h : tSeqLp (tWhile tt tb) v D σ H) : tSeq (tWhile tt tb) v D σ H := h
theorem w_seqLp {v : TS} {σ' : L2.St} (e : σ = σ') (h : t ⟨v ⟨nx, rt, bk, ct⟩, rt, bk, ct⟩ σ' H) : tSeqLp t v ⟨nx, rt, bk, ct⟩ σ H := by subst e; exact h
theorem w_lpJ {v : TS} {σ1 : L2.St} (e : σ = σ1) (J : L2.St → Hp → Prop) (h2 : ∀ nx' : L2.St → Hp → Prop, (∀ σ' H', J σ' H' → nx' σ' H') → t ⟨nx', rt, bk, ct⟩ σ1 H)
    (h1 : ∀ σ' H', J σ' H' → v ⟨nx, rt, bk, ct⟩ σ' H') : tSeqLp t v ⟨nx, rt, bk, ct⟩ σ H := by subst e; exact h2 _ h1
theorem w_start {D : Ends} {σ' : L2.St} (e : σ = σ') (h : t D σ' H) : t D σ H := by subst e; exact h
theorem w_next (h : nx σ H) : tNext ⟨nx, rt, bk, ct⟩ σ H := h
theorem w_break (h : bk σ H) : tBreak ⟨nx, rt, bk, ct⟩ σ H := h
theorem w_cont (h : ct σ H) : tCont ⟨nx, rt, bk, ct⟩ σ H := h
theorem w_drop (h : te σ H fun _ H1 => nx σ H1) : tDrop te ⟨nx, rt, bk, ct⟩ σ H := h
theorem w_ret (h : te σ H rt) : tRet te ⟨nx, rt, bk, ct⟩ σ H := h
theorem w_retN (h : rt .non H) : tRetN ⟨nx, rt, bk, ct⟩ σ H := h
theorem w_ifS (h : tt σ H fun b H1 => if b = true then t ⟨nx, rt, bk, ct⟩ σ H1 else u ⟨nx, rt, bk, ct⟩ σ H1) : tIfS tt t u ⟨nx, rt, bk, ct⟩ σ H := h
theorem w_asgN (h : te σ H fun x H1 => nx (σ.set i (some x)) H1) : tAsg te (gName i) ⟨nx, rt, bk, ct⟩ σ H := h
theorem w_asg (h : te σ H fun x H1 => g x σ H1 nx) : tAsg te g ⟨nx, rt, bk, ct⟩ σ H := h
theorem w_gName {QG : L2.St → Hp → Prop} (h : QG (σ.set i (some v)) H) : gName i v σ H QG := h
theorem w_gNil {QG : L2.St → Hp → Prop} (h : QG σ H) : gNil [] σ H QG := ⟨rfl, h⟩
theorem w_gCons {QG : L2.St → Hp → Prop} {vs : List V} (h : g v σ H fun σ' H' => gs vs σ' H' QG) : gCons g gs (v :: vs) σ H QG := ⟨v, vs, rfl, h⟩
theorem w_gTup {QG : L2.St → Hp → Prop} {n : Nat} {a : Addr} {xs : List V} (ha : SqT K H a xs) (hn : xs.length = n) (h : gs xs σ H QG) : gTup K n gs (.ref a) σ H QG := ⟨a, xs, rfl, ha, hn, h⟩
theorem w_gSub {QG : L2.St → Hp → Prop} {ts : TSet} (h : ta σ H fun o H1 => tb σ H1 fun i H2 => ts o i v H2 fun H3 => QG σ H3) : gSub ta tb ts v σ H QG := h
theorem w_setL {a : Addr} {xs : List V} {k : Int} {j : Nat} {QH : Hp → Prop} (ha : H a = some (.lst xs)) (hk : ixN xs.length k = some j) (h : QH (upd H a (.lst (xs.set j v)))) : rSetL (.ref a) (.int k) v H QH := ⟨a, xs, k, j, rfl, rfl, ha, hk, h⟩

/-! ### expressions -/
theorem w_var (e : σ[i]? = some (some v)) (h : Q v H) : tVar i σ H Q := ⟨v, e, h⟩
theorem w_c (h : Q v H) : tC v σ H Q := h
theorem w_op (h : ta σ H fun x H1 => tb σ H1 fun y H2 => r x y H2 Q) : tOp r ta tb σ H Q := h
theorem w_un {r : V → Hp → VK → Prop} (h : ta σ H fun x H1 => r x H1 Q) : tUn r ta σ H Q := h
theorem w_rI0 {g : Int → Int → V} {i j : Int} (h : Q (g i j) H) : rI0 g (.int i) (.int j) H Q := ⟨i, j, rfl, rfl, h⟩
theorem w_rI {C : Int → Int → Prop} {g : Int → Int → V} {i j : Int} (c : C i j) (h : Q (g i j) H) : rI C g (.int i) (.int j) H Q := ⟨i, j, rfl, rfl, c, h⟩
theorem w_rU {g : Int → V} {i : Int} (h : Q (g i) H) : rU g (.int i) H Q := ⟨i, rfl, h⟩
theorem w_eqI {i j : Int} (h : Q (.bl (decide (i = j))) H) : rEq (.int i) (.int j) H Q := ⟨rfl, by
  have e : decide (V.int i = V.int j) = decide (i = j) := by
    by_cases c : i = j
    · rw [decide_eq_true c, decide_eq_true (by rw [c])]
    · rw [decide_eq_false c, decide_eq_false (fun q => c (V.int.inj q))]
  rw [e]; exact h⟩
theorem w_neI {i j : Int} (h : Q (.bl (!decide (i = j))) H) : rNe (.int i) (.int j) H Q := ⟨rfl, by
  have e : decide (V.int i = V.int j) = decide (i = j) := by
    by_cases c : i = j
    · rw [decide_eq_true c, decide_eq_true (by rw [c])]
    · rw [decide_eq_false c, decide_eq_false (fun q => c (V.int.inj q))]
  rw [e]; exact h⟩
theorem w_eqT (s : scal x x = true) (h : Q (.bl true) H) : rEq x x H Q := ⟨s, by rw [decide_eq_true rfl]; exact h⟩
theorem w_eqF (s : scal x y = true) (n : decide (x = y) = false) (h : Q (.bl false) H) : rEq x y H Q := ⟨s, by rw [n]; exact h⟩
theorem w_neT (s : scal x x = true) (h : Q (.bl false) H) : rNe x x H Q := ⟨s, by rw [decide_eq_true rfl]; exact h⟩
theorem w_neF (s : scal x y = true) (n : decide (x = y) = false) (h : Q (.bl true) H) : rNe x y H Q := ⟨s, by rw [n]; exact h⟩
theorem w_chain {r r' : R2} (h : ta σ H fun x H1 => tb σ H1 fun y H2 => r x y H2 fun z H3 => ∃ k, z = .bl k ∧ (if k = true then tc σ H3 fun w' H4 => r' y w' H4 Q else Q (.bl false) H3)) : tChain r r' ta tb tc σ H Q := h
theorem w_tup (h : tas σ H fun xs H1 => xs.length ≤ sizeLine ∧ ∀ p, H1 p = none → Q (.ref p) (upd H1 p (.tup xs))) : tTup tas σ H Q := h
theorem w_lst (h : tas σ H fun xs H1 => xs.length ≤ sizeLine ∧ ∀ p, H1 p = none → Q (.ref p) (upd H1 p (.lst xs))) : tLst tas σ H Q := h
theorem w_size {n m : Nat} {A : Prop} (e : Nat.ble n m = true) (h : A) : n ≤ m ∧ A := ⟨ble e, h⟩
theorem w_nil (h : QA [] H) : tNil σ H QA := h
theorem w_cons (h : te σ H fun x H1 => tas σ H1 fun xs H2 => QA (x :: xs) H2) : tCons te tas σ H QA := h
theorem w_call {sp : Sp} {dvs : List V} {E : XK} (h : tas σ H fun vs H1 => sp (vs ++ dvs) H1 Q E) : tCall sp dvs E tas σ H Q := h
theorem w_cb {r : List V → Hp → VK → Prop} (h : tas σ H fun vs H1 => r vs H1 Q) : tCB r tas σ H Q := h
theorem w_fld {f : Str} {a C dx : Addr} {fs : List (Str × V)} (h : te σ H fun x H1 => ∃ a C dx fs v, x = .ref a ∧ H1 a = some (.ins C dx fs) ∧ Cls K C ∧ NoAttr K C f ∧ fs.lookup f = some v ∧ Q v H1) : tFld K te f σ H Q := h
theorem w_fldE {f : Str} {a C dx : Addr} {fs : List (Str × V)} {v : V} (ha : H a = some (.ins C dx fs)) (c : Cls K C) (n : NoAttr K C f) (l : fs.lookup f = some v) (h : Q v H) :
    ∃ a' C dx fs v', V.ref a = .ref a' ∧ H a' = some (.ins C dx fs) ∧ Cls K C ∧ NoAttr K C f ∧ fs.lookup f = some v' ∧ Q v' H := ⟨a, C, dx, fs, v, rfl, ha, c, n, l, h⟩
theorem w_bm {T : String} {r : V → List V → Hp → VK → Prop} (h : te σ H fun x H1 => tyV K T x H1 ∧ tas σ H1 fun xs H2 => r x xs H2 Q) : tBM K T r te tas σ H Q := h
theorem w_bm0 {T : String} {r : V → List V → Hp → VK → Prop} (h : te σ H fun x H1 => tyV K T x H1 ∧ r x [] H1 Q) : tBM0 K T r te σ H Q := h
theorem w_tyL {a : Addr} {xs : List V} {A : Prop} (ha : H a = some (.lst xs)) (h : A) : tyV K "list" (.ref a) H ∧ A := ⟨.inl ⟨rfl, _, SqL.of ha⟩, h⟩
theorem w_append {a : Addr} {xs : List V} (ha : H a = some (.lst xs)) (hl : xs.length < sizeLine) (h : Q .non (upd H a (.lst (xs ++ [y])))) : rAppend (.ref a) [y] H Q := ⟨a, xs, y, rfl, rfl, ha, hl, h⟩
theorem w_pop {a : Addr} {xs : List V} (ha : H a = some (.lst (xs ++ [y]))) (h : Q y (upd H a (.lst xs))) : rPop (.ref a) [] H Q := ⟨a, xs ++ [y], y, rfl, rfl, ha, by simp, by rw [List.dropLast_concat]; exact h⟩
theorem w_ixL {a : Addr} {xs : List V} {i : Int} (ha : SqL K H a xs) (hi : atI xs i = some v) (h : Q v H) : rIxL K (.ref a) (.int i) H Q := ⟨a, xs, i, v, rfl, rfl, ha, hi, h⟩
theorem w_ixT {a : Addr} {xs : List V} {i : Int} (ha : SqT K H a xs) (hi : atI xs i = some v) (h : Q v H) : rIxT K (.ref a) (.int i) H Q := ⟨a, xs, i, v, rfl, rfl, ha, hi, h⟩
theorem w_sl {r : V → Option Int → Option Int → Hp → VK → Prop} {tl th : TO} (h : te σ H fun x H1 => tl σ H1 fun l H2 => th σ H2 fun u H3 => r x l u H3 Q) : tSl r te tl th σ H Q := h
theorem w_noPart {QO : Option Int → Hp → Prop} (h : QO none H) : tNoPart σ H QO := h
theorem w_part {QO : Option Int → Hp → Prop} (h : te σ H fun x H1 => ∃ i, x = .int i ∧ QO (some i) H1) : tPart te σ H QO := h
theorem w_partE {P : Int → Prop} {i : Int} (h : P i) : ∃ j, V.int i = .int j ∧ P j := ⟨i, rfl, h⟩
theorem w_slL {a : Addr} {xs : List V} {lo hi : Option Int} (ha : SqL K H a xs) (h : ∀ p, H p = none → Q (.ref p) (upd H p (.lst (cutV xs lo hi)))) : rSlL K (.ref a) lo hi H Q := ⟨a, xs, rfl, ha, h⟩
theorem w_nn {A : Prop} (h : A) : V.non = V.non ∧ A := ⟨rfl, h⟩
theorem w_ttt {A : Prop} (h : A) : true = true ∧ A := ⟨rfl, h⟩
/-! ### tests -/
theorem w_test (h : te σ H fun x H' => ∃ k, x = .bl k ∧ QB k H') : tTest te σ H QB := h
theorem w_tB (h : te σ H fun x H' => ∃ k, x = .bl k ∧ QB k H') : tB te σ H QB := h
theorem w_bl {c : Bool} {P : Bool → Prop} (h : P c) : ∃ k, V.bl c = .bl k ∧ P k := ⟨c, rfl, h⟩
theorem w_and (h : tt σ H fun c H1 => if c = true then tt2 σ H1 QB else QB false H1) : tAnd tt tt2 σ H QB := h
theorem w_or (h : tt σ H fun c H1 => if c = true then QB true H1 else tt2 σ H1 QB) : tOr tt tt2 σ H QB := h
theorem w_not (h : tt σ H fun c H1 => QB (!c) H1) : tNot tt σ H QB := h
theorem w_andV (h : ta σ H fun x H1 => ∃ c, x = .bl c ∧ if c = true then tb σ H1 Q else Q (.bl false) H1) : tAndV ta tb σ H Q := h
theorem w_orV (h : ta σ H fun x H1 => ∃ c, x = .bl c ∧ if c = true then Q (.bl true) H1 else tb σ H1 Q) : tOrV ta tb σ H Q := h
theorem w_notV (h : ta σ H fun x H1 => ∃ c, x = .bl c ∧ Q (.bl (!c)) H1) : tNotV ta σ H Q := h
theorem w_ifE (h : tt σ H fun c H1 => if c = true then ta σ H1 Q else tb σ H1 Q) : tIf tt ta tb σ H Q := h
theorem w_itT {A B : Prop} (h : A) : if true = true then A else B := by rw [if_pos rfl]; exact h
theorem w_itF {A B : Prop} (h : B) : if false = true then A else B := by rw [if_neg Bool.false_ne_true]; exact h
theorem w_itNT {A B : Prop} (h : B) : if (!true) = true then A else B := by rw [if_neg (by decide)]; exact h
theorem w_itNF {A B : Prop} (h : A) : if (!false) = true then A else B := by rw [if_pos (by decide)]; exact h
theorem it_pos {c : Prop} [Decidable c] {A B : Prop} (hc : c) (h : A) : if decide c = true then A else B := by rw [if_pos (decide_eq_true hc)]; exact h
theorem it_neg {c : Prop} [Decidable c] {A B : Prop} (hc : ¬ c) (h : B) : if decide c = true then A else B := by rw [if_neg (by rw [decide_eq_false hc]; exact Bool.false_ne_true)]; exact h
theorem it_cases {c : Prop} [Decidable c] {A B : Prop} (h1 : c → A) (h2 : ¬ c → B) : if decide c = true then A else B := by
  by_cases h : c
  · exact it_pos h (h1 h)
  · exact it_neg h (h2 h)
theorem itn_pos {c : Prop} [Decidable c] {A B : Prop} (hc : c) (h : B) : if (!decide c) = true then A else B := by rw [if_neg (by rw [decide_eq_true hc]; decide)]; exact h
theorem itn_neg {c : Prop} [Decidable c] {A B : Prop} (hc : ¬ c) (h : A) : if (!decide c) = true then A else B := by rw [if_pos (by rw [decide_eq_false hc]; decide)]; exact h
theorem itn_cases {c : Prop} [Decidable c] {A B : Prop} (h1 : c → B) (h2 : ¬ c → A) : if (!decide c) = true then A else B := by
  by_cases h : c
  · exact itn_pos h (h1 h)
  · exact itn_neg h (h2 h)
theorem w_itE {A : Prop} (h : A) : A := h
theorem isN_T : decide (V.non = V.non) = true := rfl
end
/-! ### heaps -/
/-- all but what stands at W stays -/
def Kp (W : List Addr) (H H' : Hp) : Prop := ∀ a o, H a = some o → a ∉ W → H' a = some o
theorem Kp.refl {W : List Addr} (H : Hp) : Kp W H H := fun _ _ h _ => h
theorem Kp.trans {W : List Addr} {H H1 H2 : Hp} (a : Kp W H H1) (b : Kp W H1 H2) : Kp W H H2 := fun c o h n => b c o (a c o h n) n
theorem Kp.same {W : List Addr} {H H' : Hp} (h : Same H H') : Kp W H H' := fun a o e _ => h a o e
theorem Kp.to_same {H H' : Hp} (h : Kp [] H H') : Same H H' := fun a o e => h a o e (by simp)
theorem same_new {H : Hp} {p : Addr} (h : H p = none) (o : HO) : Same H (upd H p o) := fun b u q => by rw [upd_ne (ne_of_none q h)]; exact q
theorem same_new2 {H H' : Hp} {p : Addr} (s : Same H H') (h : H' p = none) (o : HO) : Same H (upd H' p o) := s.trans (same_new h o)
theorem same_mut {H H' : Hp} {p : Addr} (s : Same H H') (h : H p = none) (o : HO) : Same H (upd H' p o) := fun b u q => by rw [upd_ne (ne_of_none q h)]; exact s b u q
end U

/-! U1: rules of one's own for calls by contract, isinstance, subscripts (own work). -/
namespace U
open PySem PySem.Spec PyProof.Rows L2

/-- the built-in names that the top leaves alone -/
structure Bi (mg : Str → Option Value) : Prop where
  len : mg "len" = none
  range : mg "range" = none
  list : mg "list" = none
  isinstance : mg "isinstance" = none
  int : mg "int" = none
  bool : mg "bool" = none
  str : mg "str" = none
  tuple : mg "tuple" = none
  enumerate : mg "enumerate" = none
  zip : mg "zip" = none
  min : mg "min" = none
  max : mg "max" = none
  sum : mg "sum" = none
  reversed : mg "reversed" = none

/-- a def that may be called by the name x -/
structure Ca (P : Program) (w : World) (K : PySem.W.Frag) (mg : Str → Option Value) (base : Heap) (CX : CXT) (k : Nat) (x : Str) (sp : Sp) : Prop where
  ex : ∃ f fd ps, FnOk P w K mg base CX k f fd ps sp ∧ mg x = some (.ref f) ∧ PySem.W.keepIn K (.ref f) = true ∧ Binds K fd ps []
section
variable {X : Cx} {CX : CXT} {k j : Nat} {x : Str} {sp : Sp} {E : XK} {p pos : Pos} {e : Expr} {es : List Expr} {t : TA}
theorem pe_ca (c : Ca X.prog X.w X.K X.mg X.base CX k x sp) (hr : Room j X.A) (hk : k ≤ j) (hg : Gl X x) (hx : Passes CX X E) (ha : PA X (e :: es) t) (hdb : (x == ("__debug__" : Str)) = false := by decide)
    (he : starEach (e :: es) X.env = (false, eval e X.env) :: starEach es X.env := by rfl) (hpl : (backTo pos (starEach es X.env)).any (·.1) = false := by rfl) : PE X (.Call (.Name x p) (e :: es) [] pos) (tCall sp [] E t) := by
  refine ⟨fun pins s σ H Q I h => ?_⟩
  obtain ⟨f, fd, ps, F, hm, kp, hb⟩ := c.ex
  exact (pe_call (dvs := []) F (hr.mono hk) hg hm kp hb .nil hx ha hdb he hpl).run pins s σ H Q I h
theorem pe_gi {i : Int} (hg : Gl X x) (hm : ∃ t, X.mg x = some (.int i t)) (hd : (x == ("__debug__" : Str)) = false := by decide) : PE X (.Name x pos) (tC (.int i)) := by
  obtain ⟨t, hm⟩ := hm
  exact pe_glob hg hm ⟨_, rfl⟩ hd
theorem pe_gr {a : Addr} (hg : Gl X x) (hm : X.mg x = some (.ref a)) (hd : (x == ("__debug__" : Str)) = false := by decide) : PE X (.Name x pos) (tC (.ref a)) := pe_glob hg hm rfl hd
end
theorem Ca.mono {P : Program} {w : World} {K : PySem.W.Frag} {mg : Str → Option Value} {base : Heap} {CX : CXT} {j k : Nat} {x : Str} {sp : Sp} (c : Ca P w K mg base CX j x sp) (h : j ≤ k) : Ca P w K mg base CX k x sp := by
  obtain ⟨f, fd, ps, F, r⟩ := c.ex
  exact ⟨f, fd, ps, F.mono h, r⟩
theorem Ca.imp {P : Program} {w : World} {K : PySem.W.Frag} {mg : Str → Option Value} {base : Heap} {CX : CXT} {k : Nat} {x : Str} {sp sp' : Sp} (c : Ca P w K mg base CX k x sp) (h : ∀ vs H Q E, sp' vs H Q E → sp vs H Q E) : Ca P w K mg base CX k x sp' := by
  obtain ⟨f, fd, ps, F, r⟩ := c.ex
  exact ⟨f, fd, ps, F.imp h, r⟩

theorem cxk {CX : CXT} {P : Program} {w : World} {K : PySem.W.Frag} {mg : Str → Option Value} {base : Heap} {N : List Str} {qual : Str} {scope : Scope} {f : Addr} {cd : Value} {A : Around} {outer : List Env} {s : Shared} {H : Hp} {E : XK} :
    (cxOf CX P w K mg base N qual scope f cd A outer s H E).K = K := rfl
theorem cxw {CX : CXT} {P : Program} {w : World} {K : PySem.W.Frag} {mg : Str → Option Value} {base : Heap} {N : List Str} {qual : Str} {scope : Scope} {f : Addr} {cd : Value} {A : Around} {outer : List Env} {s : Shared} {H : Hp} {E : XK} :
    (cxOf CX P w K mg base N qual scope f cd A outer s H E).w = w := rfl
theorem cxwn {CX : CXT} {P : Program} {w : World} {K : PySem.W.Frag} {mg : Str → Option Value} {base : Heap} {N : List Str} {qual : Str} {scope : Scope} {f : Addr} {cd : Value} {A : Around} {outer : List Env} {s : Shared} {H : Hp} {E : XK} :
    (cxOf CX P w K mg base N qual scope f cd A outer s H E).nox.w = w := rfl
theorem cxkn {CX : CXT} {P : Program} {w : World} {K : PySem.W.Frag} {mg : Str → Option Value} {base : Heap} {N : List Str} {qual : Str} {scope : Scope} {f : Addr} {cd : Value} {A : Around} {outer : List Env} {s : Shared} {H : Hp} {E : XK} :
    (cxOf CX P w K mg base N qual scope f cd A outer s H E).nox.K = K := rfl
/-- a def of the top, as it stands behind the top -/
structure Df (K : PySem.W.Frag) (mg : Str → Option Value) (x : Str) (st : Stmt) : Prop where
  ex : ∃ f fd, FunD K x x (defArgs st) (defBody st) (defScope st) [] [] f fd ∧ mg x = some (.ref f)
section
variable {P : Program} {w : World} {K : PySem.W.Frag} {mg : Str → Option Value} {base : Heap} {x : Str} {st : Stmt} {N ps : List Str} {k : Nat} {sp : Sp}
/-- THE RULE for a def that lets nothing out -/
theorem Df.ca0 (D : Df K mg x st) (S : FnScope N ps (defScope st))
    (bd : ∀ (kV doc pm : Value) (an : Option Addr) (cdv ct : Value) (us : List Value), us.length = ps.length → bindArgs (PySem.W.fnOf x x (defArgs st) (defBody st) (defScope st) .none kV doc pm an cdv ct) ⟨us, []⟩ = pure (ps.zip us))
    (len : ∀ vs H Q E, sp vs H Q E → vs.length = ps.length)
    (hbody : ∀ (f : Addr) (cdv : Value) (A : Around) (outer : List Env) (s : Shared) (H : Hp) (vs : List V) (Q : VK) (E : XK), Room k (A.deeper (envOfC x (defScope st) s.heap.objs.size f cdv)) → sp vs H Q E →
      ∃ t, PSs (cxOf CX0 P w K mg base N x (defScope st) f cdv A outer s H E).nox (defBody st) t ∧ t { nx := fun _ H' => Q .non H', rt := Q } (start N vs) H) : Ca P w K mg base CX0 (k + 1) x sp := by
  obtain ⟨f, fd, F, hm⟩ := D.ex
  refine ⟨f, fd, ps, F.ok S len fun cdv A outer s H vs Q E hr h => ?_, hm, F.kp, F.bindsN bd⟩
  obtain ⟨t, h1, h2⟩ := hbody f cdv A outer s H vs Q E hr h
  exact ⟨t, h1.nox, h2⟩
/-- .. for one that may let exceptions out -/
theorem Df.caX {CX : CXT} (D : Df K mg x st) (S : FnScope N ps (defScope st))
    (bd : ∀ (kV doc pm : Value) (an : Option Addr) (cdv ct : Value) (us : List Value), us.length = ps.length → bindArgs (PySem.W.fnOf x x (defArgs st) (defBody st) (defScope st) .none kV doc pm an cdv ct) ⟨us, []⟩ = pure (ps.zip us))
    (len : ∀ vs H Q E, sp vs H Q E → vs.length = ps.length)
    (hbody : ∀ (f : Addr) (cdv : Value) (A : Around) (outer : List Env) (s : Shared) (H : Hp) (vs : List V) (Q : VK) (E : XK), Room k (A.deeper (envOfC x (defScope st) s.heap.objs.size f cdv)) → sp vs H Q E →
      ∃ t, PSs (cxOf CX P w K mg base N x (defScope st) f cdv A outer s H E) (defBody st) t ∧ t { nx := fun _ H' => Q .non H', rt := Q } (start N vs) H) : Ca P w K mg base CX (k + 1) x sp := by
  obtain ⟨f, fd, F, hm⟩ := D.ex
  exact ⟨f, fd, ps, F.ok S len fun cdv A outer s H vs Q E hr h => hbody f cdv A outer s H vs Q E hr h, hm, F.kp, F.bindsN bd⟩
end

/-! ### isinstance(e, T), T a built-in class by its name -/
def rIsiN (K : PySem.W.Frag) : List V → Hp → VK → Prop := fun xs H Q => ∃ (x : V) (n t : String) (b : Bool), xs = [x, .ty n] ∧ TyX K H x (.type t) ∧ kitB t n = some b ∧ Q (.bl b) H
theorem call_isiN {X : Cx} : CallR X (.builtin "isinstance") (rIsiN X.K) := fun pins s σ H xs us Q I r h => by
  obtain ⟨x, n, t, b, e, ty, k, q⟩ := h
  exact call_isi pins s σ H xs us Q I r ⟨x, .ty n, .type t, .type n, b, e, .ty n, ty, kit_ty k, q⟩
theorem w_isi {K : PySem.W.Frag} {x : V} {n t : String} {b : Bool} {H : Hp} {Q : VK} (ty : TyX K H x (.type t)) (k : kitB t n = some b) (h : Q (.bl b) H) : rIsiN K [x, .ty n] H Q := ⟨x, n, t, b, rfl, ty, k, h⟩
theorem tyx_int {K : PySem.W.Frag} {H : Hp} {i : Int} : TyX K H (.int i) (.type "int") := .base (.int i)
theorem tyx_non {K : PySem.W.Frag} {H : Hp} : TyX K H .non (.type "NoneType") := .base .non
theorem tyx_str {K : PySem.W.Frag} {H : Hp} {i : Str} : TyX K H (.str i) (.type "str") := .base (.str i)
theorem tyx_bl {K : PySem.W.Frag} {H : Hp} {i : Bool} : TyX K H (.bl i) (.type "bool") := .base (.bl i)
theorem tyx_sqL {K : PySem.W.Frag} {H : Hp} {a : Addr} {xs : List V} (h : SqL K H a xs) : TyX K H (.ref a) (.type "list") := by
  rcases h with (h | ⟨o, h⟩) | ⟨o, its, n, h, c, _⟩
  · exact .base (.lst h)
  · exact .base (.frz h)
  · exact .kList h c
theorem tyx_sqT {K : PySem.W.Frag} {H : Hp} {a : Addr} {xs : List V} (h : SqT K H a xs) : TyX K H (.ref a) (.type "tuple") := by
  rcases h with (h | ⟨o, h⟩) | ⟨o, its, n, h, c, _⟩
  · exact .base (.tup h)
  · exact .fTuple h
  · exact .kTuple h c
section
variable {K : PySem.W.Frag} {H : Hp} {Q : VK} {a : Addr} {xs : List V} {i : Int} {z : Str}
theorem k_ii : kitB "int" "int" = some true := by decide +kernel
theorem k_ib : kitB "int" "bool" = some false := by decide +kernel
theorem k_it : kitB "int" "tuple" = some false := by decide +kernel
theorem k_il : kitB "int" "list" = some false := by decide +kernel
theorem k_tt : kitB "tuple" "tuple" = some true := by decide +kernel
theorem k_tl : kitB "tuple" "list" = some false := by decide +kernel
theorem k_lt : kitB "list" "tuple" = some false := by decide +kernel
theorem k_ll : kitB "list" "list" = some true := by decide +kernel
theorem k_ss : kitB "str" "str" = some true := by decide +kernel
theorem k_st : kitB "str" "tuple" = some false := by decide +kernel
theorem k_sl : kitB "str" "list" = some false := by decide +kernel
theorem k_nt : kitB "NoneType" "tuple" = some false := by decide +kernel
theorem k_nl : kitB "NoneType" "list" = some false := by decide +kernel
theorem k_ni : kitB "NoneType" "int" = some false := by decide +kernel
theorem w_isi_ii (h : Q (.bl true) H) : rIsiN K [.int i, .ty "int"] H Q := w_isi tyx_int k_ii h
theorem w_isi_ib (h : Q (.bl false) H) : rIsiN K [.int i, .ty "bool"] H Q := w_isi tyx_int k_ib h
theorem w_isi_it (h : Q (.bl false) H) : rIsiN K [.int i, .ty "tuple"] H Q := w_isi tyx_int k_it h
theorem w_isi_il (h : Q (.bl false) H) : rIsiN K [.int i, .ty "list"] H Q := w_isi tyx_int k_il h
theorem w_isi_ss (h : Q (.bl true) H) : rIsiN K [.str z, .ty "str"] H Q := w_isi tyx_str k_ss h
theorem w_isi_st (h : Q (.bl false) H) : rIsiN K [.str z, .ty "tuple"] H Q := w_isi tyx_str k_st h
theorem w_isi_sl (h : Q (.bl false) H) : rIsiN K [.str z, .ty "list"] H Q := w_isi tyx_str k_sl h
theorem w_isi_nt (h : Q (.bl false) H) : rIsiN K [.non, .ty "tuple"] H Q := w_isi tyx_non k_nt h
theorem w_isi_nl (h : Q (.bl false) H) : rIsiN K [.non, .ty "list"] H Q := w_isi tyx_non k_nl h
theorem w_isi_ni (h : Q (.bl false) H) : rIsiN K [.non, .ty "int"] H Q := w_isi tyx_non k_ni h
theorem w_isi_tt (s : SqT K H a xs) (h : Q (.bl true) H) : rIsiN K [.ref a, .ty "tuple"] H Q := w_isi (tyx_sqT s) k_tt h
theorem w_isi_lt (s : SqL K H a xs) (h : Q (.bl false) H) : rIsiN K [.ref a, .ty "tuple"] H Q := w_isi (tyx_sqL s) k_lt h
theorem w_isi_ll (s : SqL K H a xs) (h : Q (.bl true) H) : rIsiN K [.ref a, .ty "list"] H Q := w_isi (tyx_sqL s) k_ll h
theorem w_isi_tl (s : SqT K H a xs) (h : Q (.bl false) H) : rIsiN K [.ref a, .ty "list"] H Q := w_isi (tyx_sqT s) k_tl h
end
/-! ### named readings -/
section
variable {X : Cx} {K : PySem.W.Frag} {H : Hp} {Q : VK} {a : Addr} {xs : List V} {i j : Int} {v : V}
def rLenA (K : PySem.W.Frag) : List V → Hp → VK → Prop := fun xs H Q => ∃ p ys, xs = [V.ref p] ∧ (SqL K H p ys ∨ SqT K H p ys) ∧ Q (.int (ys.length : Nat)) H
theorem call_lenA : CallR X (.builtin "len") (rLenA X.K) := call_len_seq
theorem w_lenL (ha : SqL K H a xs) (h : Q (.int (xs.length : Nat)) H) : rLenA K [.ref a] H Q := ⟨a, xs, rfl, .inl ha, h⟩
theorem w_lenT (ha : SqT K H a xs) (h : Q (.int (xs.length : Nat)) H) : rLenA K [.ref a] H Q := ⟨a, xs, rfl, .inr ha, h⟩
def rListA (K : PySem.W.Frag) : List V → Hp → VK → Prop := fun xs H Q => ∃ p ys, xs = [V.ref p] ∧ (SqL K H p ys ∨ SqT K H p ys) ∧ ∀ l, H l = none → Q (.ref l) (upd H l (.lst ys))
theorem call_listA : CallR X (.type "list") (rListA X.K) := call_list_of
theorem w_listL (ha : SqL K H a xs) (h : ∀ l, H l = none → Q (.ref l) (upd H l (.lst xs))) : rListA K [.ref a] H Q := ⟨a, xs, rfl, .inl ha, h⟩
def rTupA (K : PySem.W.Frag) : List V → Hp → VK → Prop := fun xs H Q => ∃ p ys, xs = [V.ref p] ∧ ((SqL K H p ys ∧ ∀ l, H l = none → Q (.ref l) (upd H l (.tup ys))) ∨ (SqT K H p ys ∧ Q (.ref p) H))
theorem call_tupA : CallR X (.type "tuple") (rTupA X.K) := call_tuple_of
theorem w_tupL (ha : SqL K H a xs) (h : ∀ l, H l = none → Q (.ref l) (upd H l (.tup xs))) : rTupA K [.ref a] H Q := ⟨a, xs, rfl, .inl ⟨ha, h⟩⟩
def rIntA : List V → Hp → VK → Prop := fun xs H Q => (∃ i, xs = [V.int i] ∧ Q (.int i) H) ∨ ∃ k, xs = [V.bl k] ∧ Q (.int (if k then 1 else 0)) H
theorem call_intA : CallR X (.type "int") rIntA := call_int1
theorem w_intI (h : Q (.int i) H) : rIntA [.int i] H Q := .inl ⟨i, rfl, h⟩
theorem w_intB {k : Bool} (h : Q (.int (if k then 1 else 0)) H) : rIntA [.bl k] H Q := .inr ⟨k, rfl, h⟩
def rMin2 : List V → Hp → VK → Prop := fun xs H Q => ∃ i j, xs = [V.int i, V.int j] ∧ Q (.int (if j < i then j else i)) H
theorem call_minA (hc : X.calm = true) : CallR X (.builtin "min") rMin2 := call_min2 hc
theorem w_min (h : Q (.int (if j < i then j else i)) H) : rMin2 [.int i, .int j] H Q := ⟨i, j, rfl, h⟩
def rMax2 : List V → Hp → VK → Prop := fun xs H Q => ∃ i j, xs = [V.int i, V.int j] ∧ Q (.int (if j > i then j else i)) H
theorem call_maxA (hc : X.calm = true) : CallR X (.builtin "max") rMax2 := call_max2 hc
theorem w_max (h : Q (.int (if j > i then j else i)) H) : rMax2 [.int i, .int j] H Q := ⟨i, j, rfl, h⟩
def rIsNo : R2 := fun x y H Q => y = .non ∧ Q (.bl (decide (x = .non))) H
theorem op_isNo : OpR X (compareOp .Is) rIsNo := op_isN
theorem w_isNoT (h : Q (.bl true) H) : rIsNo .non .non H Q := ⟨rfl, h⟩
theorem w_isNoI (h : Q (.bl false) H) : rIsNo (.int i) .non H Q := ⟨rfl, h⟩
theorem w_isNoR (h : Q (.bl false) H) : rIsNo (.ref a) .non H Q := ⟨rfl, h⟩
def rNotNo : R2 := fun x y H Q => y = .non ∧ Q (.bl (!decide (x = .non))) H
theorem op_notNo : OpR X (compareOp .IsNot) rNotNo := op_notN
theorem w_notNoT (h : Q (.bl false) H) : rNotNo .non .non H Q := ⟨rfl, h⟩
theorem w_notNoI (h : Q (.bl true) H) : rNotNo (.int i) .non H Q := ⟨rfl, h⟩
theorem w_notNoR (h : Q (.bl true) H) : rNotNo (.ref a) .non H Q := ⟨rfl, h⟩
end
/-! ### subscripts of lists and tuples -/
def rIxLT (K : PySem.W.Frag) : R2 := fun x y H Q => rIxL K x y H Q ∨ rIxT K x y H Q
theorem ix_lt {X : Cx} : IxR X (rIxLT X.K) := ix_list.or ix_tup
theorem w_ixLL {K : PySem.W.Frag} {H : Hp} {Q : VK} {a : Addr} {xs : List V} {i : Int} {v : V} (ha : SqL K H a xs) (hi : atI xs i = some v) (h : Q v H) : rIxLT K (.ref a) (.int i) H Q := .inl ⟨a, xs, i, v, rfl, rfl, ha, hi, h⟩
theorem w_ixTT0 {K : PySem.W.Frag} {H : Hp} {Q : VK} {a : Addr} {xs : List V} {v : V} (ha : SqT K H a (v :: xs)) (h : Q v H) : rIxLT K (.ref a) (.int 0) H Q := .inr ⟨a, v :: xs, 0, v, rfl, rfl, ha, atI_nat (j := 0) rfl, h⟩
theorem w_ixTT {K : PySem.W.Frag} {H : Hp} {Q : VK} {a : Addr} {xs : List V} {i : Int} {v : V} (ha : SqT K H a xs) (hi : atI xs i = some v) (h : Q v H) : rIxLT K (.ref a) (.int i) H Q := .inr ⟨a, xs, i, v, rfl, rfl, ha, hi, h⟩
/-! ### loops -/
/-- what a for over J wants -/
def ForB (J : It) (g : TG) (tb : TS) (nx : L2.St → Hp → Prop) (rt : VK) (σ : L2.St) (H : Hp) : Prop := ∃ W : Nat → Nat → L2.St → Hp → Prop, (∃ m, W 0 m σ H) ∧ ∀ i m σ H, W i m σ H →
  (J.stop i H ∧ nx σ H) ∨ (J.go i H ∧ ∃ N : L2.St → Hp → Prop, (∀ σ' H', N σ' H' → ∃ m', m' < m ∧ W (i + 1) m' σ' H') ∧ ∀ x H', J.yld i H x H' → g x σ H' fun σ2 H2 => tb ⟨N, rt, nx, N⟩ σ2 H2)
def ItL (K : PySem.W.Frag) (R : It → Hp → Prop) (x : V) (H1 : Hp) : Prop := ∃ a, x = .ref a ∧ (∃ xs, SqL K H1 a xs) ∧ R (Itl K a) H1
def ItT (K : PySem.W.Frag) (R : It → Hp → Prop) (x : V) (H1 : Hp) : Prop := ∃ a, x = .ref a ∧ (∃ xs, SqT K H1 a xs) ∧ R (Itt K a) H1
def ItR1 (R : It → Hp → Prop) (vs : List V) (H1 : Hp) : Prop := ∃ j : Int, vs = [.int j] ∧ -(2 ^ 62) ≤ j ∧ j < 2 ^ 62 ∧ R (Itr 0 j.toNat) H1
def ItR2 (R : It → Hp → Prop) (vs : List V) (H1 : Hp) : Prop := ∃ i j : Int, vs = [.int i, .int j] ∧ (-(2 ^ 62) ≤ i ∧ i < 2 ^ 62 ∧ -(2 ^ 62) ≤ j ∧ j < 2 ^ 62) ∧ R (Itr i (j - i).toNat) H1
section
variable {K : PySem.W.Frag} {wi : TI} {g : TG} {tb : TS} {nx bk ct : L2.St → Hp → Prop} {rt : VK} {σ : L2.St} {H : Hp} {te : TE} {ta : TA} {R : It → Hp → Prop} {a : Addr} {xs : List V} {tt : TT} {vs : List Nat}
theorem w_for (h : wi σ H fun J H1 => ForB J g tb nx rt σ H1) : tFor wi g tb ⟨nx, rt, bk, ct⟩ σ H := h
theorem w_iL (h : te σ H fun x H1 => ItL K R x H1) : iList K te σ H R := h
theorem w_iT (h : te σ H fun x H1 => ItT K R x H1) : iTup K te σ H R := h
theorem w_iR1 (h : ta σ H fun vs H1 => ItR1 R vs H1) : iRng1 ta σ H R := h
theorem w_iR2 (h : ta σ H fun vs H1 => ItR2 R vs H1) : iRng2 ta σ H R := h
theorem for_L (Pv : Nat → L2.St → Hp → Prop) (hS : SqL K H a xs) (h0 : Pv 0 σ H) (hl : ∀ i σ H, i ≤ xs.length → Pv i σ H → SqL K H a xs)
    (hs : ∀ i x σ H, xs[i]? = some x → Pv i σ H → g x σ H fun σ2 H2 => tb ⟨Pv (i + 1), rt, nx, Pv (i + 1)⟩ σ2 H2) (hd : ∀ σ H, Pv xs.length σ H → nx σ H) :
    ItL K (fun J H1 => ForB J g tb nx rt σ H1) (.ref a) H :=
  ⟨a, rfl, ⟨xs, hS⟩, for_list (D := ⟨nx, rt, nx, nx⟩) Pv h0 hl hs hd⟩
theorem for_T (Pv : Nat → L2.St → Hp → Prop) (hS : SqT K H a xs) (h0 : Pv 0 σ H) (hl : ∀ i σ H, i ≤ xs.length → Pv i σ H → SqT K H a xs)
    (hs : ∀ i x σ H, xs[i]? = some x → Pv i σ H → g x σ H fun σ2 H2 => tb ⟨Pv (i + 1), rt, nx, Pv (i + 1)⟩ σ2 H2) (hd : ∀ σ H, Pv xs.length σ H → nx σ H) :
    ItT K (fun J H1 => ForB J g tb nx rt σ H1) (.ref a) H :=
  ⟨a, rfl, ⟨xs, hS⟩, for_tup (D := ⟨nx, rt, nx, nx⟩) Pv h0 hl hs hd⟩
theorem for_R1 {j : Int} (Pv : Nat → L2.St → Hp → Prop) (b1 : -(2 ^ 62) ≤ j) (b2 : j < 2 ^ 62) (h0 : Pv 0 σ H)
    (hs : ∀ i σ H, i < j.toNat → Pv i σ H → g (.int (0 + (i : Nat))) σ H fun σ2 H2 => tb ⟨Pv (i + 1), rt, nx, Pv (i + 1)⟩ σ2 H2) (hd : ∀ σ H, Pv j.toNat σ H → nx σ H) :
    ItR1 (fun J H1 => ForB J g tb nx rt σ H1) [.int j] H :=
  ⟨j, rfl, b1, b2, for_range (D := ⟨nx, rt, nx, nx⟩) Pv h0 hs hd⟩
theorem for_R2 {i j : Int} (Pv : Nat → L2.St → Hp → Prop) (b1 : -(2 ^ 62) ≤ i) (b2 : i < 2 ^ 62) (b3 : -(2 ^ 62) ≤ j) (b4 : j < 2 ^ 62) (h0 : Pv 0 σ H)
    (hs : ∀ m σ H, m < (j - i).toNat → Pv m σ H → g (.int (i + (m : Nat))) σ H fun σ2 H2 => tb ⟨Pv (m + 1), rt, nx, Pv (m + 1)⟩ σ2 H2) (hd : ∀ σ H, Pv (j - i).toNat σ H → nx σ H) :
    ItR2 (fun J H1 => ForB J g tb nx rt σ H1) [.int i, .int j] H :=
  ⟨i, j, rfl, ⟨b1, b2, b3, b4⟩, for_range (D := ⟨nx, rt, nx, nx⟩) Pv h0 hs hd⟩
/-- what a comprehension wants -/
def LcB (J : It) (g : TG) (tt : TT) (te : TE) (vs : List Nat) (σ : L2.St) (Q : VK) (H1 : Hp) : Prop := ∀ D, H1 D = none → ∃ W : Nat → Nat → Hp → Prop, (∃ m, W 0 m (upd H1 D (.lst []))) ∧ ∀ i m H, W i m H →
  (J.stop i H ∧ Q (.ref D) H) ∨ (J.go i H ∧ ∃ Nx : Hp → Prop, (∀ H', Nx H' → ∃ m', m' < m ∧ W (i + 1) m' H') ∧ ∀ x H', J.yld i H x H' → g x (wipe σ vs) H' fun σ2 H2 => wipe σ2 vs = wipe σ vs ∧ tt σ2 H2 fun b H3 =>
    if b = true then te σ2 H3 fun y H4 => ∃ acc, H4 D = some (.lst acc) ∧ acc.length < sizeLine ∧ Nx (upd H4 D (.lst (acc ++ [y]))) else Nx H3)
theorem w_lc {Q : VK} (h : wi σ H fun J H1 => LcB J g tt te vs σ Q H1) : tLc wi g tt te vs σ H Q := h
/-- a turn's end: the item is laid on -/
def LcE (D : Addr) (Nx : Hp → Prop) (y : V) (H4 : Hp) : Prop := ∃ acc, H4 D = some (.lst acc) ∧ acc.length < sizeLine ∧ Nx (upd H4 D (.lst (acc ++ [y])))
theorem lc_L {Q : VK} (Pv : Addr → Nat → Hp → Prop) (hS : SqL K H a xs) (h0 : ∀ D, H D = none → Pv D 0 (upd H D (.lst []))) (hl : ∀ D i H1, H D = none → i ≤ xs.length → Pv D i H1 → SqL K H1 a xs)
    (hs : ∀ D i x H1, H D = none → xs[i]? = some x → Pv D i H1 → g x (wipe σ vs) H1 fun σ2 H2 => wipe σ2 vs = wipe σ vs ∧ tt σ2 H2 fun b H3 => if b = true then te σ2 H3 fun y H4 => LcE D (Pv D (i + 1)) y H4 else Pv D (i + 1) H3)
    (hd : ∀ D H1, H D = none → Pv D xs.length H1 → Q (.ref D) H1) :
    ItL K (fun J H1 => LcB J g tt te vs σ Q H1) (.ref a) H :=
  ⟨a, rfl, ⟨xs, hS⟩, fun D hD => lc_list (Qd := fun H1 => Q (.ref D) H1) (Pv D) (h0 D hD) (fun i H1 hi p => hl D i H1 hD hi p) (fun i x H1 hx p => hs D i x H1 hD hx p) (fun H1 p => hd D H1 hD p)⟩
theorem lc_R1 {Q : VK} {j : Int} (Pv : Addr → Nat → Hp → Prop) (b1 : -(2 ^ 62) ≤ j) (b2 : j < 2 ^ 62) (h0 : ∀ D, H D = none → Pv D 0 (upd H D (.lst [])))
    (hs : ∀ D i H1, H D = none → i < j.toNat → Pv D i H1 → g (.int (0 + (i : Nat))) (wipe σ vs) H1 fun σ2 H2 => wipe σ2 vs = wipe σ vs ∧ tt σ2 H2 fun b H3 => if b = true then te σ2 H3 fun y H4 => LcE D (Pv D (i + 1)) y H4 else Pv D (i + 1) H3)
    (hd : ∀ D H1, H D = none → Pv D j.toNat H1 → Q (.ref D) H1) :
    ItR1 (fun J H1 => LcB J g tt te vs σ Q H1) [.int j] H :=
  ⟨j, rfl, b1, b2, fun D hD => lc_range (Qd := fun H1 => Q (.ref D) H1) (Pv D) (h0 D hD) (fun i H1 hi p => hs D i H1 hD hi p) (fun H1 p => hd D H1 hD p)⟩
theorem w_lcE {D : Addr} {Nx : Hp → Prop} {y : V} {acc : List V} (ha : H D = some (.lst acc)) (hl : acc.length < sizeLine) (h : Nx (upd H D (.lst (acc ++ [y])))) : LcE D Nx y H := ⟨acc, ha, hl, h⟩
theorem w_wipe {A : Prop} {σ1 σ2 : L2.St} (e : σ1 = σ2) (h : A) : σ1 = σ2 ∧ A := ⟨e, h⟩
theorem w_ttYes {QB : Bool → Hp → Prop} (h : QB true H) : tYes σ H QB := h
theorem w_isiT {x : V} {n t : String} {b : Bool} {Q : VK} (ty : TyX K H x (.type t)) (k : kitB t n = some b) (h : Q (.bl b) H) : rIsiN K [x, .ty n] H Q := w_isi ty k h
end
end U

/-! U2: data at any depth over the abstract heap (own work). -/
open PySem PySem.Spec PyProof.Rows L2
namespace L2
section
variable {K : PySem.W.Frag} {H H' : Hp}
theorem Same.seqT {a : Addr} {xs : List V} (e : Same H H') (h : SqT K H a xs) : SqT K H' a xs := by
  rcases h with (h | ⟨o, h⟩) | h
  · exact .inl (.inl (e _ _ h))
  · exact .inl (.inr ⟨o, e _ _ h⟩)
  · exact .inr h
theorem Same.seqL {a : Addr} {xs : List V} (e : Same H H') (h : SqL K H a xs) : SqL K H' a xs := e.seq h
mutual
theorem Dp.same (e : Same H H') : ∀ (d : PyData) (v : V), Dp K H v d → Dp K H' v d
  | .none, _, h => by cases h; exact .non
  | .bool b, _, h => by cases h; exact .bl b
  | .int i, _, h => by cases h; exact .int i
  | .str x, _, h => by cases h; exact .str x
  | .list ds, _, h => by
    cases h with
    | lst hs ha => exact .lst (Same.seqL e hs) (DpAll.same e ds _ ha)
  | .tuple ds, _, h => by
    cases h with
    | tup hs ha => exact .tup (Same.seqT e hs) (DpAll.same e ds _ ha)
  | .dict _, _, h => by cases h
theorem DpAll.same (e : Same H H') : ∀ (ds : List PyData) (vs : List V), DpAll K H vs ds → DpAll K H' vs ds
  | [], _, h => by cases h; exact .nil
  | d :: ds, _, h => by
    cases h with
    | cons h1 h2 => exact .cons (Dp.same e d _ h1) (DpAll.same e ds _ h2)
end
theorem Dp.up (e : Same H H') {d : PyData} {v : V} (h : Dp K H v d) : Dp K H' v d := Dp.same e d v h
theorem DpAll.up (e : Same H H') {ds : List PyData} {vs : List V} (h : DpAll K H vs ds) : DpAll K H' vs ds := DpAll.same e ds vs h
theorem DpAll.len : ∀ {vs : List V} {ds : List PyData}, DpAll K H vs ds → vs.length = ds.length
  | _, _, .nil => rfl
  | _, _, .cons _ t => by rw [List.length_cons, List.length_cons, DpAll.len t]
theorem DpAll.get : ∀ {vs : List V} {ds : List PyData} {i : Nat} {v : V}, DpAll K H vs ds → vs[i]? = some v → ∃ d, ds[i]? = some d ∧ Dp K H v d
  | _, _, _, _, .nil, e => by simp at e
  | _, _, 0, _, .cons r _, e => by simp at e; subst e; exact ⟨_, rfl, r⟩
  | _, _, i + 1, v, .cons _ t, e => by
    obtain ⟨d, h1, h2⟩ := DpAll.get (i := i) (v := v) t (by simpa using e)
    exact ⟨d, by simpa using h1, h2⟩
theorem DpAll.getD : ∀ {vs : List V} {ds : List PyData} {i : Nat} {d : PyData}, DpAll K H vs ds → ds[i]? = some d → ∃ v, vs[i]? = some v ∧ Dp K H v d
  | _, _, _, _, .nil, e => by simp at e
  | _, _, 0, _, .cons r _, e => by simp at e; subst e; exact ⟨_, rfl, r⟩
  | _, _, i + 1, d, .cons _ t, e => by
    obtain ⟨v, h1, h2⟩ := DpAll.getD (i := i) (d := d) t (by simpa using e)
    exact ⟨v, by simpa using h1, h2⟩
theorem DpAll.snoc : ∀ {vs : List V} {ds : List PyData} {v : V} {d : PyData}, DpAll K H vs ds → Dp K H v d → DpAll K H (vs ++ [v]) (ds ++ [d])
  | _, _, _, _, .nil, h => .cons h .nil
  | _, _, _, _, .cons r t, h => .cons r (DpAll.snoc t h)
theorem DpAll.app : ∀ {vs ws : List V} {ds es : List PyData}, DpAll K H vs ds → DpAll K H ws es → DpAll K H (vs ++ ws) (ds ++ es)
  | _, _, _, _, .nil, h => h
  | _, _, _, _, .cons r t, h => .cons r (DpAll.app t h)
theorem DpAll.take : ∀ {vs : List V} {ds : List PyData} (n : Nat), DpAll K H vs ds → DpAll K H (vs.take n) (ds.take n)
  | _, _, 0, _ => .nil
  | _, _, _ + 1, .nil => .nil
  | _, _, n + 1, .cons r t => .cons r (DpAll.take n t)
theorem DpAll.drop : ∀ {vs : List V} {ds : List PyData} (n : Nat), DpAll K H vs ds → DpAll K H (vs.drop n) (ds.drop n)
  | _, _, 0, h => h
  | _, _, _ + 1, .nil => .nil
  | _, _, n + 1, .cons _ t => DpAll.drop n t
theorem DpAll.set {v : V} {d : PyData} (r : Dp K H v d) : ∀ {vs : List V} {ds : List PyData} (i : Nat), DpAll K H vs ds → DpAll K H (vs.set i v) (ds.set i d)
  | _, _, _, .nil => .nil
  | _, _, 0, .cons _ t => .cons r t
  | _, _, i + 1, .cons q t => .cons q (DpAll.set r i t)
theorem DpAll.ints : ∀ (ns : List Int), DpAll K H (ns.map V.int) (ns.map PyData.int)
  | [] => .nil
  | n :: r => .cons (.int n) (DpAll.ints r)
theorem dpAll_ints : ∀ {ns : List Int} {vs : List V}, DpAll K H vs (ns.map PyData.int) → vs = ns.map V.int
  | [], _, h => by cases h; rfl
  | n :: r, _, h => by
    cases h with
    | cons h1 h2 =>
      cases h1
      rw [dpAll_ints h2]
      rfl
theorem dp_int {v : V} {i : Int} (h : Dp K H v (.int i)) : v = .int i := by cases h; rfl
theorem dp_str {v : V} {x : Str} (h : Dp K H v (.str x)) : v = .str x := by cases h; rfl
theorem dp_non {v : V} (h : Dp K H v .none) : v = .non := by cases h; rfl
theorem dp_tup {v : V} {ds : List PyData} (h : Dp K H v (.tuple ds)) : ∃ p vs, v = .ref p ∧ SqT K H p vs ∧ DpAll K H vs ds := by
  cases h with
  | tup hs ha => exact ⟨_, _, rfl, hs, ha⟩
theorem dp_lst {v : V} {ds : List PyData} (h : Dp K H v (.list ds)) : ∃ p vs, v = .ref p ∧ SqL K H p vs ∧ DpAll K H vs ds := by
  cases h with
  | lst hs ha => exact ⟨_, _, rfl, hs, ha⟩
theorem dpa_nil {vs : List V} (h : DpAll K H vs []) : vs = [] := by cases h; rfl
theorem dpa_cons {vs : List V} {d : PyData} {ds : List PyData} (h : DpAll K H vs (d :: ds)) : ∃ v ws, vs = v :: ws ∧ Dp K H v d ∧ DpAll K H ws ds := by
  cases h with
  | cons h1 h2 => exact ⟨_, _, rfl, h1, h2⟩
/-- tuples of one, two, three, .. things -/
theorem dp_tup1 {v : V} {d1 : PyData} (h : Dp K H v (.tuple [d1])) : ∃ p v1, v = .ref p ∧ SqT K H p [v1] ∧ Dp K H v1 d1 := by
  obtain ⟨p, vs, e, s, a⟩ := dp_tup h
  obtain ⟨v1, w1, rfl, h1, a⟩ := dpa_cons a
  cases dpa_nil a
  exact ⟨p, v1, e, s, h1⟩
theorem dp_tup2 {v : V} {d1 d2 : PyData} (h : Dp K H v (.tuple [d1, d2])) : ∃ p v1 v2, v = .ref p ∧ SqT K H p [v1, v2] ∧ Dp K H v1 d1 ∧ Dp K H v2 d2 := by
  obtain ⟨p, vs, e, s, a⟩ := dp_tup h
  obtain ⟨v1, w1, rfl, h1, a⟩ := dpa_cons a
  obtain ⟨v2, w2, rfl, h2, a⟩ := dpa_cons a
  cases dpa_nil a
  exact ⟨p, v1, v2, e, s, h1, h2⟩
theorem dp_tup3 {v : V} {d1 d2 d3 : PyData} (h : Dp K H v (.tuple [d1, d2, d3])) : ∃ p v1 v2 v3, v = .ref p ∧ SqT K H p [v1, v2, v3] ∧ Dp K H v1 d1 ∧ Dp K H v2 d2 ∧ Dp K H v3 d3 := by
  obtain ⟨p, vs, e, s, a⟩ := dp_tup h
  obtain ⟨v1, w1, rfl, h1, a⟩ := dpa_cons a
  obtain ⟨v2, w2, rfl, h2, a⟩ := dpa_cons a
  obtain ⟨v3, w3, rfl, h3, a⟩ := dpa_cons a
  cases dpa_nil a
  exact ⟨p, v1, v2, v3, e, s, h1, h2, h3⟩
theorem dp_tup4 {v : V} {d1 d2 d3 d4 : PyData} (h : Dp K H v (.tuple [d1, d2, d3, d4])) : ∃ p v1 v2 v3 v4, v = .ref p ∧ SqT K H p [v1, v2, v3, v4] ∧ Dp K H v1 d1 ∧ Dp K H v2 d2 ∧ Dp K H v3 d3 ∧ Dp K H v4 d4 := by
  obtain ⟨p, vs, e, s, a⟩ := dp_tup h
  obtain ⟨v1, w1, rfl, h1, a⟩ := dpa_cons a
  obtain ⟨v2, w2, rfl, h2, a⟩ := dpa_cons a
  obtain ⟨v3, w3, rfl, h3, a⟩ := dpa_cons a
  obtain ⟨v4, w4, rfl, h4, a⟩ := dpa_cons a
  cases dpa_nil a
  exact ⟨p, v1, v2, v3, v4, e, s, h1, h2, h3, h4⟩
theorem dp_tup5 {v : V} {d1 d2 d3 d4 d5 : PyData} (h : Dp K H v (.tuple [d1, d2, d3, d4, d5])) : ∃ p v1 v2 v3 v4 v5, v = .ref p ∧ SqT K H p [v1, v2, v3, v4, v5] ∧ Dp K H v1 d1 ∧ Dp K H v2 d2 ∧ Dp K H v3 d3 ∧ Dp K H v4 d4 ∧ Dp K H v5 d5 := by
  obtain ⟨p, vs, e, s, a⟩ := dp_tup h
  obtain ⟨v1, w1, rfl, h1, a⟩ := dpa_cons a
  obtain ⟨v2, w2, rfl, h2, a⟩ := dpa_cons a
  obtain ⟨v3, w3, rfl, h3, a⟩ := dpa_cons a
  obtain ⟨v4, w4, rfl, h4, a⟩ := dpa_cons a
  obtain ⟨v5, w5, rfl, h5, a⟩ := dpa_cons a
  cases dpa_nil a
  exact ⟨p, v1, v2, v3, v4, v5, e, s, h1, h2, h3, h4, h5⟩
/-- a list that was just laid -/
theorem dp_newT {p : Addr} {xs : List V} {ds : List PyData} (h : H p = some (.tup xs)) (a : DpAll K H xs ds) : Dp K H (.ref p) (.tuple ds) := .tup (SqT.of h) a
theorem dp_newL {p : Addr} {xs : List V} {ds : List PyData} (h : H p = some (.lst xs)) (a : DpAll K H xs ds) : Dp K H (.ref p) (.list ds) := .lst (SqL.of h) a
/-- .. of a new tuple over older parts -/
theorem dp_tupN {p : Addr} {xs : List V} {ds : List PyData} (n : H p = none) (a : DpAll K H xs ds) : Dp K (upd H p (.tup xs)) (.ref p) (.tuple ds) := .tup (SqT.of upd_same) (a.up (U.same_new n _))
theorem dp_lstN {p : Addr} {xs : List V} {ds : List PyData} (n : H p = none) (a : DpAll K H xs ds) : Dp K (upd H p (.lst xs)) (.ref p) (.list ds) := .lst (SqL.of upd_same) (a.up (U.same_new n _))
end
/-! ### data that may be compared -/
theorem canLayAll_of : ∀ {ds : List PyData}, (∀ d ∈ ds, d.canLay0 = true) → PyData.canLayAll0 ds = true
  | [], _ => rfl
  | d :: r, h => by
    show (d.canLay0 && PyData.canLayAll0 r) = true
    rw [h d (List.mem_cons_self ..), canLayAll_of fun e he => h e (List.mem_cons_of_mem _ he)]
    rfl
theorem depthAll_of : ∀ {ds : List PyData} {n : Nat}, (∀ d ∈ ds, d.depth ≤ n) → PyData.depthAll ds ≤ n
  | [], _, _ => Nat.zero_le _
  | d :: r, n, h => by
    show max d.depth (PyData.depthAll r) ≤ n
    exact Nat.max_le.mpr ⟨h d (List.mem_cons_self ..), depthAll_of fun e he => h e (List.mem_cons_of_mem _ he)⟩
theorem shaped_of {d : PyData} (h : d.canLay0 = true) (h2 : d.depth ≤ 64) : SeqAt.shaped d = true := by
  unfold SeqAt.shaped
  rw [h, decide_eq_true h2]
  rfl
theorem canLay_of {d : PyData} (h : SeqAt.shaped d = true) : d.canLay0 = true := (Bool.and_eq_true_iff.mp h).1
theorem depth_of {d : PyData} (h : SeqAt.shaped d = true) : d.depth ≤ 64 := of_decide_eq_true (Bool.and_eq_true_iff.mp h).2
theorem shaped_list {ds : List PyData} {n : Nat} (h : ∀ d ∈ ds, d.canLay0 = true ∧ d.depth ≤ n) (hn : n < 64) : SeqAt.shaped (.list ds) = true :=
  shaped_of (canLayAll_of fun d hd => (h d hd).1) (Nat.succ_le_of_lt (Nat.lt_of_le_of_lt (depthAll_of fun d hd => (h d hd).2) hn))
theorem w_neD {K : PySem.W.Frag} {H : Hp} {Q : VK} {x y : V} {d : PyData} (hx : Dp K H x d) (hy : Dp K H y d) (s : SeqAt.shaped d = true) (h : Q (.bl false) H) : rNeD K x y H Q :=
  ⟨d, d, hx, hy, s, s, by rw [SeqAt.eqv_refl d (canLay_of s)]; exact h⟩
theorem w_eqD {K : PySem.W.Frag} {H : Hp} {Q : VK} {x y : V} {d : PyData} (hx : Dp K H x d) (hy : Dp K H y d) (s : SeqAt.shaped d = true) (h : Q (.bl true) H) : rEqD K x y H Q :=
  ⟨d, d, hx, hy, s, s, by rw [SeqAt.eqv_refl d (canLay_of s)]; exact h⟩
end L2

/-! U3: a heap with a part that never changes (the region), and how both grow (own work). -/
namespace U
open PySem PySem.Spec PyProof.Rows L2
/-- from (R, H) to (R', H'): R' holds R and new objects alone, H' holds R'; outside of W nothing that stood changed -/
structure Gw (W : List Addr) (R H R' H' : Hp) : Prop where
  sub : Same R' H'
  ext : Same R R'
  out : ∀ a, R' a ≠ none → R a ≠ none ∨ H a = none
  kee : ∀ a o, H a = some o → a ∉ W → H' a = some o
  dom : ∀ a, H a ≠ none → H' a ≠ none
section
variable {W : List Addr} {R H R' H' R1 H1 R2 H2 : Hp} {p m : Addr} {o u : HO}
theorem Gw.refl (s : Same R H) : Gw W R H R H := ⟨s, Same.refl R, fun _ h => .inl h, fun _ _ h _ => h, fun _ h => h⟩
theorem Gw.trans (a : Gw W R H R1 H1) (b : Gw W R1 H1 R2 H2) : Gw W R H R2 H2 where
  sub := b.sub
  ext := a.ext.trans b.ext
  out := fun c h => by
    rcases b.out c h with q | q
    · exact a.out c q
    · refine .inr ?_
      cases e : H c with
      | none => rfl
      | some o => exact absurd q (a.dom c (by rw [e]; exact fun z => nomatch z))
  kee := fun c o h n => b.kee c o (a.kee c o h n) n
  dom := fun c h => b.dom c (a.dom c h)
theorem nn_of {a : Addr} {o : HO} (h : H a = some o) : H a ≠ none := by rw [h]; exact fun z => nomatch z
theorem none_of {a : Addr} (h : ¬ H a ≠ none) : H a = none := Classical.byContradiction h
/-- a new thing that never changes -/
theorem Gw.new (g : Gw W R H R1 H1) (n : H1 p = none) (o : HO) : Gw W R H (upd R1 p o) (upd H1 p o) := g.trans {
  sub := fun a u h => by
    by_cases e : a = p
    · subst e; rw [upd_same] at h ⊢; exact h
    · rw [upd_ne e] at h ⊢; exact g.sub a u h
  ext := fun a u h => by
    by_cases e : a = p
    · subst e; have := g.sub _ _ h; rw [n] at this; cases this
    · rw [upd_ne e]; exact h
  out := fun a h => by
    by_cases e : a = p
    · subst e; exact .inr n
    · rw [upd_ne e] at h; exact .inl h
  kee := fun a u h _ => by rw [upd_ne (ne_of_none h n)]; exact h
  dom := fun a h => by
    by_cases e : a = p
    · subst e; exact absurd n h
    · rw [upd_ne e]; exact h }
/-- a new thing that will change -/
theorem Gw.newM (g : Gw W R H R1 H1) (n : H1 p = none) (o : HO) : Gw W R H R1 (upd H1 p o) := g.trans {
  sub := fun a u h => by
    rw [upd_ne (ne_of_none (g.sub a u h) n)]; exact g.sub a u h
  ext := Same.refl _
  out := fun a h => .inl h
  kee := fun a u h _ => by rw [upd_ne (ne_of_none h n)]; exact h
  dom := fun a h => by
    by_cases e : a = p
    · subst e; exact absurd n h
    · rw [upd_ne e]; exact h }
/-- a change -/
theorem Gw.mut (g : Gw W R H R1 H1) (hm : m ∈ W ∨ H m = none) (hr : R1 m = none) (o : HO) : Gw W R H R1 (upd H1 m o) where
  sub := fun a u h => by
    rw [upd_ne (ne_of_none h hr)]; exact g.sub a u h
  ext := g.ext
  out := g.out
  kee := fun a u h n => by
    by_cases e : a = m
    · subst e
      rcases hm with q | q
      · exact absurd q n
      · rw [h] at q; cases q
    · rw [upd_ne e]; exact g.kee a u h n
  dom := fun a h => by
    by_cases e : a = m
    · subst e; rw [upd_same]; exact fun z => nomatch z
    · rw [upd_ne e]; exact g.dom a h
/-- a thing that stays from now on -/
theorem Gw.frz (g : Gw W R H R1 H1) (n : H m = none) (h1 : H1 m = some o) (hr : R1 m = none) : Gw W R H (upd R1 m o) H1 where
  sub := fun a u h => by
    by_cases e : a = m
    · subst e; rw [upd_same] at h; rw [h1]; exact h
    · rw [upd_ne e] at h; exact g.sub a u h
  ext := fun a u h => by
    have q := g.ext a u h
    rw [upd_ne (ne_of_none q hr)]; exact q
  out := fun a h => by
    by_cases e : a = m
    · subst e; exact .inr n
    · rw [upd_ne e] at h; exact g.out a h
  kee := g.kee
  dom := g.dom
theorem Gw.mono {W' : List Addr} (g : Gw W R H R1 H1) (h : ∀ a ∈ W, a ∈ W' ∨ H a = none) : Gw W' R H R1 H1 where
  sub := g.sub
  ext := g.ext
  out := g.out
  kee := fun a u q n => g.kee a u q fun z => by
    rcases h a z with y | y
    · exact n y
    · rw [q] at y; cases y
  dom := g.dom
/-- .. behind a start of one's own: what the later step may change is new or allowed -/
theorem Gw.then {W' : List Addr} (a : Gw W R H R1 H1) (b : Gw W' R1 H1 R2 H2) (h : ∀ a ∈ W', a ∈ W ∨ H a = none) : Gw W R H R2 H2 where
  sub := b.sub
  ext := a.ext.trans b.ext
  out := fun c h => by
    rcases b.out c h with q | q
    · exact a.out c q
    · refine .inr ?_
      cases e : H c with
      | none => rfl
      | some o => exact absurd q (a.dom c (by rw [e]; exact fun z => nomatch z))
  kee := fun c o q n => b.kee c o (a.kee c o q n) fun z => by
    rcases h c z with y | y
    · exact n y
    · rw [q] at y; cases y
  dom := fun c h => b.dom c (a.dom c h)
/-- what is not of the region stays so, if it stood -/
theorem Gw.notR (g : Gw W R H R1 H1) (h : H m ≠ none) (hr : R m = none) : R1 m = none := by
  refine none_of fun z => ?_
  rcases g.out m z with q | q
  · exact q hr
  · exact h q
theorem Gw.noR (g : Gw W R H R1 H1) (n : H1 m = none) : R1 m = none := g.sub.free n
theorem Gw.no (g : Gw W R H R1 H1) (n : H1 m = none) : H m = none := none_of fun z => g.dom m z n
theorem Gw.at {a : Addr} {o : HO} (g : Gw W R H R1 H1) (h : H a = some o) (n : a ∉ W) : H1 a = some o := g.kee a o h n
theorem Gw.of_same (s : Same R H) (s' : Same H H1) : Gw W R H R H1 where
  sub := s.trans s'
  ext := Same.refl R
  out := fun a h => .inl h
  kee := fun a o h _ => s' a o h
  dom := fun a h => by
    cases e : H a with
    | none => exact absurd e h
    | some o => exact nn_of (s' a o e)
end
/-! ### comprehensions that make lists of data -/
section
variable {K : PySem.W.Frag} {W : List Addr} {R H : Hp} {g : TG} {tt : TT} {te : TE} {vs : List Nat} {σ : L2.St} {a : Addr} {xs : List V} {Q : VK}
/-- the invariant: D, new and not of the region, holds what stands for ds -/
def LcP (K : PySem.W.Frag) (W : List Addr) (R H : Hp) (ds : List PyData) (D : Addr) (H1 : Hp) : Prop := ∃ R1 ys, Gw W R H R1 H1 ∧ H1 D = some (.lst ys) ∧ R1 D = none ∧ DpAll K R1 ys ds
theorem lcP_nil (s : Same R H) (D : Addr) (n : H D = none) : LcP K W R H [] D (upd H D (.lst [])) := ⟨R, [], (Gw.refl s).newM n _, upd_same, s.free n, .nil⟩
theorem lcP_put {ds : List PyData} {d : PyData} {D : Addr} {R1 H1 R2 H2 : Hp} {ys : List V} {y : V} (n : H D = none) (hD : D ∉ W) (g1 : Gw W R H R1 H1) (h1 : H1 D = some (.lst ys)) (r1 : R1 D = none) (a1 : DpAll K R1 ys ds) (hl : ds.length < 100000)
    (g2 : Gw W R1 H1 R2 H2) (hy : Dp K R2 y d) : LcE D (LcP K W R H (ds ++ [d]) D) y H2 :=
  ⟨ys, g2.at h1 hD, by rw [a1.len]; exact szlt hl, R2, ys ++ [y], (g1.trans g2).mut (.inr n) (g2.notR (nn_of h1) r1) _, upd_same, g2.notR (nn_of h1) r1, (a1.up g2.ext).snoc hy⟩
theorem lcP_end {ds : List PyData} {D : Addr} {H1 : Hp} (h : LcP K W R H ds D H1) (n : H D = none) (k : ∀ R1 ys, Gw W R H R1 H1 → H1 D = some (.lst ys) → R1 D = none → DpAll K R1 ys ds → Q (.ref D) H1) : Q (.ref D) H1 := by
  obtain ⟨R1, ys, g, h1, r1, a1⟩ := h
  exact k R1 ys g h1 r1 a1
theorem take_succ {α : Type} {l : List α} {i : Nat} {x : α} (h : l[i]? = some x) : l.take (i + 1) = l.take i ++ [x] := by
  rw [List.take_add_one, h]
  rfl
theorem range_get {n i j : Nat} (h : (List.range n)[i]? = some j) : i < n ∧ j = i := by
  obtain ⟨h1, h2⟩ := List.getElem?_eq_some_iff.mp h
  rw [List.getElem_range] at h2
  rw [List.length_range] at h1
  exact ⟨h1, h2.symm⟩
/-- [te for x in l], without a test: the i-th item stands for ds[i] -/
theorem lc_data (ds : List PyData) (s : Same R H) (hW : ∀ D, H D = none → D ∉ W) (hS : SqL K R a xs) (hl : xs.length = ds.length) (hz : ds.length < 100000)
    (turn : ∀ (i : Nat) (x : V) (d : PyData) (R1 H1 : Hp) (N : V → Hp → Prop), xs[i]? = some x → ds[i]? = some d → Gw W R H R1 H1 → (∀ y R2 H2, Gw W R1 H1 R2 H2 → Dp K R2 y d → N y H2) →
      g x (wipe σ vs) H1 fun σ2 H2 => wipe σ2 vs = wipe σ vs ∧ tt σ2 H2 fun b H3 => b = true ∧ te σ2 H3 N)
    (mono : ∀ x σ H P P', (∀ σ2 H2, P σ2 H2 → P' σ2 H2) → g x σ H P → g x σ H P') (monoT : ∀ σ H P P', (∀ b H2, P b H2 → P' b H2) → tt σ H P → tt σ H P')
    (done : ∀ D R1 H1 ys, Gw W R H R1 H1 → H D = none → H1 D = some (.lst ys) → R1 D = none → DpAll K R1 ys ds → Q (.ref D) H1) :
    ItL K (fun J H1 => LcB J g tt te vs σ Q H1) (.ref a) H := by
  refine lc_L (fun D i H1 => LcP K W R H (ds.take i) D H1) (Same.seqL s hS) (fun D n => by rw [List.take_zero]; exact lcP_nil s D n) (fun D i H1 _ _ p => ?_) (fun D i x H1 n hx p => ?_) (fun D H1 n p => ?_)
  · obtain ⟨R1, ys, g1, _⟩ := p
    exact Same.seqL (g1.ext.trans g1.sub) hS
  · obtain ⟨R1, ys, g1, h1, r1, a1⟩ := p
    have hi : i < ds.length := by
      rw [← hl]
      exact (List.getElem?_eq_some_iff.mp hx).1
    have hd : ds[i]? = some ds[i] := List.getElem?_eq_getElem hi
    refine mono _ _ _ _ _ (fun σ2 H2 q => ⟨q.1, monoT _ _ _ _ (fun b H3 q => ?_) q.2⟩) (turn i x ds[i] R1 H1 (fun y H4 => LcE D (LcP K W R H (ds.take (i + 1)) D) y H4) hx hd g1 fun y R2 H2 g2 hy => ?_)
    · rw [q.1, if_pos rfl]
      exact q.2
    · rw [take_succ hd]
      exact lcP_put n (hW D n) g1 h1 r1 a1 (by rw [List.length_take]; omega) g2 hy
  · rw [hl, List.take_length] at p
    exact lcP_end p n fun R1 ys g1 h1 r1 a1 => done D R1 H1 ys g1 n h1 r1 a1
/-- .. over range(j) -/
theorem lc_dataR {j : Int} (ds : List PyData) (s : Same R H) (hW : ∀ D, H D = none → D ∉ W) (b1 : -(2 ^ 62) ≤ j) (b2 : j < 2 ^ 62) (hl : j.toNat = ds.length) (hz : ds.length < 100000)
    (turn : ∀ (i : Nat) (d : PyData) (R1 H1 : Hp) (N : V → Hp → Prop), ds[i]? = some d → Gw W R H R1 H1 → (∀ y R2 H2, Gw W R1 H1 R2 H2 → Dp K R2 y d → N y H2) →
      g (.int (0 + (i : Nat))) (wipe σ vs) H1 fun σ2 H2 => wipe σ2 vs = wipe σ vs ∧ tt σ2 H2 fun b H3 => b = true ∧ te σ2 H3 N)
    (mono : ∀ x σ H P P', (∀ σ2 H2, P σ2 H2 → P' σ2 H2) → g x σ H P → g x σ H P') (monoT : ∀ σ H P P', (∀ b H2, P b H2 → P' b H2) → tt σ H P → tt σ H P')
    (done : ∀ D R1 H1 ys, Gw W R H R1 H1 → H D = none → H1 D = some (.lst ys) → R1 D = none → DpAll K R1 ys ds → Q (.ref D) H1) :
    ItR1 (fun J H1 => LcB J g tt te vs σ Q H1) [.int j] H := by
  refine lc_R1 (fun D i H1 => LcP K W R H (ds.take i) D H1) b1 b2 (fun D n => by rw [List.take_zero]; exact lcP_nil s D n) (fun D i H1 n hi p => ?_) (fun D H1 n p => ?_)
  · obtain ⟨R1, ys, g1, h1, r1, a1⟩ := p
    have hi : i < ds.length := by omega
    have hd : ds[i]? = some ds[i] := List.getElem?_eq_getElem hi
    refine mono _ _ _ _ _ (fun σ2 H2 q => ⟨q.1, monoT _ _ _ _ (fun b H3 q => ?_) q.2⟩) (turn i ds[i] R1 H1 (fun y H4 => LcE D (LcP K W R H (ds.take (i + 1)) D) y H4) hd g1 fun y R2 H2 g2 hy => ?_)
    · rw [q.1, if_pos rfl]
      exact q.2
    · rw [take_succ hd]
      exact lcP_put n (hW D n) g1 h1 r1 a1 (by rw [List.length_take]; omega) g2 hy
  · rw [hl, List.take_length] at p
    exact lcP_end p n fun R1 ys g1 h1 r1 a1 => done D R1 H1 ys g1 n h1 r1 a1
/-- a comprehension whose test always fails -/
theorem lc_none (hS : SqL K H a xs) (turn : ∀ (i : Nat) (x : V) (D : Addr), xs[i]? = some x → H D = none → g x (wipe σ vs) (upd H D (.lst [])) fun σ2 H2 => wipe σ2 vs = wipe σ vs ∧ tt σ2 H2 fun b H3 => if b = true then te σ2 H3 fun y H4 => LcE D (fun H1 => H1 = upd H D (.lst [])) y H4 else H3 = upd H D (.lst []))
    (done : ∀ D, H D = none → Q (.ref D) (upd H D (.lst []))) : ItL K (fun J H1 => LcB J g tt te vs σ Q H1) (.ref a) H :=
  lc_L (fun D i H1 => H1 = upd H D (.lst [])) hS (fun D _ => rfl) (fun D i H1 n _ p => by rw [p]; exact Same.seqL (same_new n _) hS) (fun D i x H1 n hx p => by subst p; exact turn i x D hx n) (fun D H1 n p => by subst p; exact done D n)
theorem mono_gName (i : Nat) : ∀ x σ H P P', (∀ σ2 H2, P σ2 H2 → P' σ2 H2) → gName i x σ H P → gName i x σ H P' := fun _ _ _ _ _ h q => h _ _ q
theorem mono_yes : ∀ σ H (P P' : Bool → Hp → Prop), (∀ b H2, P b H2 → P' b H2) → tYes σ H P → tYes σ H P' := fun _ _ _ _ h q => h _ _ q
end
end U

/-! U4: the end: what the head tells of defs and built-in names (own work). -/
namespace U
open PySem PySem.Spec PyProof.Rows L2 He
def mkD (q : Str × Stmt) : DefD := ⟨(q.1, none), q.1, q.1, defArgs q.2, defBody q.2, defScope q.2, [], []⟩
def biNames : List Str := ["len", "range", "list", "isinstance", "int", "bool", "str", "tuple", "enumerate", "zip", "min", "max", "sum", "reversed"]
def faOf (ds : List (Str × Stmt)) : List Fa := biNames.map Fa.free ++ ds.map fun q => Fa.glo q.1
section
variable {fa : List Fa} {fn : List DefD} {K : PySem.W.Frag} {h : Heap} {mg : Str → Option Value} {ds : List (Str × Stmt)}
theorem bi_of (X : K.In h) (G : h.Ns mainGlobals mg) (c : SaysD fa fn K) (hf : ∀ x ∈ biNames, Fa.free x ∈ fa) : Bi mg := by
  have f : ∀ x ∈ biNames, mg x = none := fun x hx => free_ok X G (c.facts (hf x hx))
  exact ⟨f _ (by decide), f _ (by decide), f _ (by decide), f _ (by decide), f _ (by decide), f _ (by decide), f _ (by decide), f _ (by decide), f _ (by decide), f _ (by decide), f _ (by decide), f _ (by decide), f _ (by decide), f _ (by decide)⟩
theorem df_of (X : K.In h) (G : h.Ns mainGlobals mg) (c : SaysD fa fn K) {x : Str} {st : Stmt} (hf : Fa.glo x ∈ fa) (hd : mkD (x, st) ∈ fn) : Df K mg x st := by
  obtain ⟨fd, F⟩ := c.defs hd
  exact ⟨_, fd, F, glo_ok X G (c.facts hf)⟩
theorem df_i (X : K.In h) (G : h.Ns mainGlobals mg) (c : SaysD (faOf ds) (ds.map mkD) K) (i : Nat) {x : Str} {st : Stmt} (e : ds[i]? = some (x, st) := by rfl) : Df K mg x st := by
  have m : (x, st) ∈ ds := List.mem_of_getElem? e
  exact df_of X G c (List.mem_append.mpr (.inr (List.mem_map.mpr ⟨_, m, rfl⟩))) (List.mem_map.mpr ⟨_, m, rfl⟩)
theorem bi_i (X : K.In h) (G : h.Ns mainGlobals mg) (c : SaysD (faOf ds) (ds.map mkD) K) : Bi mg := bi_of X G c fun x hx => List.mem_append.mpr (.inl (List.mem_map.mpr ⟨x, hx, rfl⟩))
end
/-- what is wanted of the law's def -/
def spTrue (K : PySem.W.Frag) : Sp := fun vs H Q _ => ∃ (a : Addr) (ns : List Int), vs = [.ref a] ∧ SqL K H a (ns.map V.int) ∧ ns.length ≤ 63 ∧ ∀ H', Q (.bl true) H'
abbrev LawF (K : PySem.W.Frag) (st : Stmt) (f : Addr) (fd : FuncData) : Prop := FunD K "law" "law" (defArgs st) (defBody st) (defScope st) [] [] f fd
theorem law0 {P : Program} {w : World} {K : PySem.W.Frag} {mg : Str → Option Value} {base : Heap} {k : Nat} {st : Stmt} {N ps : List Str} {sp : Sp} (S : FnScope N ps (defScope st)) (len : ∀ vs H Q E, sp vs H Q E → vs.length = ps.length)
    (hbody : ∀ (f : Addr) (cdv : Value) (A : Around) (outer : List Env) (s : Shared) (H : Hp) (vs : List V) (Q : VK) (E : XK), Room k (A.deeper (envOfC "law" (defScope st) s.heap.objs.size f cdv)) → sp vs H Q E →
      ∃ t, PSs (cxOf CX0 P w K mg base N "law" (defScope st) f cdv A outer s H E).nox (defBody st) t ∧ t { nx := fun _ H' => Q .non H', rt := Q } (start N vs) H) :
    ∀ f fd, LawF K st f fd → FnOk P w K mg base CX0 (k + 1) f fd ps sp := fun f fd F => F.ok S len fun cdv A outer s H vs Q E hr h => by
  obtain ⟨t, h1, h2⟩ := hbody f cdv A outer s H vs Q E hr h
  exact ⟨t, h1.nox, h2⟩
/-- the walk of a law whose def is the last of ds -/
theorem walk_my {l : PySem.W.OpenLaw} {k n j : Nat} {q : Program} {loose : List Str} {XP : (Str → Option Value) → Heap → Prop} {d : DefRec} {x : Str} {ds : List (Str × Stmt)} {st : Stmt}
    (hn : l.most = some 63) (hdf : d.params.defaults = []) (hr : Room k callerA) (hname : d.name = ("law" : Str)) (hl : ds[j]? = some (("law" : Str), st))
    (hbind : ∀ (kV doc pm : Value) (an : Option Addr) (cdv ct : Value) (us : List Value), us.length = [x].length → bindArgs (PySem.W.fnOf "law" "law" (defArgs st) (defBody st) (defScope st) .none kV doc pm an cdv ct) ⟨us, []⟩ = pure ([x].zip us))
    (F : ∀ (w : World) (K : PySem.W.Frag) (mg : Str → Option Value) (h base : Heap), K.In h → h.Ns mainGlobals mg → SaysD (faOf ds) (ds.map mkD) K → K.In base → base.Ns mainGlobals mg → ∀ f fd, LawF K st f fd → FnOk l.prog w K mg base CX0 k f fd [x] (spTrue K)) :
    PySem.W.WalkO q loose XP (hookD n (faOf ds) (ds.map mkD)).says l.row.toRowW d [] (fun f vs => PySem.call f vs) := by
  refine L2.walk_ofE (l := l) (n := 63) (k := k) (x := x) (CX := L2.CX0) hn (by decide) hdf hr ?_ (fun _ _ _ _ z => z)
  intro w mg fa h Y G hmg
  obtain ⟨K, KX, c⟩ := Y
  rw [hname] at hmg
  have m : (("law" : Str), st) ∈ ds := List.mem_of_getElem? hl
  obtain ⟨fd, FD⟩ := c.defs (d := mkD ("law", st)) (List.mem_map.mpr ⟨_, m, rfl⟩)
  have e : fa = ga K "law" := by
    have e1 := glo_ok KX G (c.facts (f := .glo "law") (List.mem_append.mpr (.inr (List.mem_map.mpr ⟨_, m, rfl⟩))))
    rw [hmg] at e1
    exact Value.ref.inj (Option.some.inj e1)
  have FD' : LawF K st fa fd := by rw [e]; exact FD
  have b := FunD.bindsA (ps := [x]) FD' hbind
  exact ⟨K, fd, spTrue K, KX, fun s u => b s [u] rfl, fun H a ns hl _ hS => ⟨a, ns, rfl, hS, hl, fun _ => rfl⟩, fun base hb hg => F w K mg h base KX G c hb hg fa fd FD'⟩
end U

/-! U5: things of one's own that change, apart from the region; classes, methods, defs held by names (own work). -/
namespace U
open PySem PySem.Spec PyProof.Rows L2
/-! ### things that change -/
/-- what stands at L's addresses, each once, none of the region, none known at the start B -/
def Own (R B H : Hp) (L : List (Addr × HO)) : Prop := (L.map (·.1)).Nodup ∧ ∀ q ∈ L, H q.1 = some q.2 ∧ B q.1 = none ∧ R q.1 = none
structure Sta (W : List Addr) (R0 B R H : Hp) (L : List (Addr × HO)) : Prop where
  g : Gw W R0 B R H
  o : Own R B H L
section
variable {W : List Addr} {R0 B R H R1 H1 : Hp} {L L' : List (Addr × HO)} {a b p : Addr} {o u : HO} {i j : Nat}
theorem Sta.get (S : Sta W R0 B R H L) (i : Nat) (e : L[i]? = some (a, o)) : H a = some o := (S.o.2 _ (List.mem_of_getElem? e)).1
theorem Sta.noB (S : Sta W R0 B R H L) (i : Nat) (e : L[i]? = some (a, o)) : B a = none := (S.o.2 _ (List.mem_of_getElem? e)).2.1
theorem Sta.noR (S : Sta W R0 B R H L) (i : Nat) (e : L[i]? = some (a, o)) : R a = none := (S.o.2 _ (List.mem_of_getElem? e)).2.2
theorem Sta.old (S : Sta W R0 B R H L) : Same R0 H := S.g.ext.trans S.g.sub
theorem Sta.sub' (S : Sta W R0 B R H L) : Same R H := S.g.sub
theorem Sta.ext' (S : Sta W R0 B R H L) : Same R0 R := S.g.ext
theorem keys_set : ∀ {L : List (Addr × HO)} {i : Nat}, L[i]? = some (a, o) → (L.set i (a, u)).map (·.1) = L.map (·.1)
  | [], _, e => by simp at e
  | x :: r, 0, e => by
    have q : x = (a, o) := by simpa using e
    subst q
    rfl
  | x :: r, i + 1, e => by
    have q : r[i]? = some (a, o) := by simpa using e
    show x.1 :: (r.set i (a, u)).map (·.1) = x.1 :: r.map (·.1)
    rw [keys_set q]
theorem mem_set_own (nd : (L.map (·.1)).Nodup) (e : L[i]? = some (a, o)) {q : Addr × HO} (h : q ∈ L.set i (a, u)) : q = (a, u) ∨ (q ∈ L ∧ q.1 ≠ a) := by
  obtain ⟨k, hk⟩ := List.mem_iff_getElem?.mp h
  rw [List.getElem?_set] at hk
  by_cases c : i = k
  · rw [if_pos c] at hk
    split at hk
    · exact .inl (Option.some.inj hk).symm
    · cases hk
  · rw [if_neg c] at hk
    refine .inr ⟨List.mem_of_getElem? hk, fun z => c ?_⟩
    have e1 : (L.map (·.1))[i]? = some a := by rw [List.getElem?_map, e]; rfl
    have e2 : (L.map (·.1))[k]? = some a := by rw [List.getElem?_map, hk, ← z]; rfl
    exact nd_ix nd e1 e2
/-- one of them changes -/
theorem Sta.set (S : Sta W R0 B R H L) (i : Nat) (e : L[i]? = some (a, o)) (u : HO) : Sta W R0 B R (upd H a u) (L.set i (a, u)) where
  g := S.g.mut (.inr (S.noB i e)) (S.noR i e) u
  o := by
    refine ⟨by rw [keys_set e]; exact S.o.1, fun q hq => ?_⟩
    rcases mem_set_own S.o.1 e hq with rfl | ⟨h, n⟩
    · exact ⟨L2.upd_same, S.noB i e, S.noR i e⟩
    · obtain ⟨h1, h2⟩ := S.o.2 q h
      exact ⟨by rw [upd_ne n]; exact h1, h2⟩
theorem Sta.ne_new (S : Sta W R0 B R H L) (n : H p = none) {q : Addr × HO} (h : q ∈ L) : q.1 ≠ p := fun z => by
  have := (S.o.2 q h).1
  rw [z, n] at this
  cases this
/-- a new one -/
theorem Sta.new (S : Sta W R0 B R H L) (n : H p = none) (o : HO) : Sta W R0 B R (upd H p o) ((p, o) :: L) where
  g := S.g.newM n o
  o := by
    refine ⟨List.nodup_cons.mpr ⟨fun m => ?_, S.o.1⟩, fun q hq => ?_⟩
    · obtain ⟨q, hq, e⟩ := List.mem_map.mp m
      exact S.ne_new n hq e
    · rcases List.mem_cons.mp hq with rfl | h
      · exact ⟨L2.upd_same, S.g.no n, S.g.noR n⟩
      · obtain ⟨h1, h2⟩ := S.o.2 q h
        exact ⟨by rw [upd_ne (S.ne_new n h)]; exact h1, h2⟩
/-- a new thing that never changes -/
theorem Sta.newR (S : Sta W R0 B R H L) (n : H p = none) (o : HO) : Sta W R0 B (upd R p o) (upd H p o) L where
  g := S.g.new n o
  o := ⟨S.o.1, fun q hq => by
    obtain ⟨h1, h2, h3⟩ := S.o.2 q hq
    exact ⟨by rw [upd_ne (S.ne_new n hq)]; exact h1, h2, by rw [upd_ne (S.ne_new n hq)]; exact h3⟩⟩
/-- a new thing that is left out of both -/
theorem Sta.newX (S : Sta W R0 B R H L) (n : H p = none) (o : HO) : Sta W R0 B R (upd H p o) L where
  g := S.g.newM n o
  o := ⟨S.o.1, fun q hq => by
    obtain ⟨h1, h2, h3⟩ := S.o.2 q hq
    exact ⟨by rw [upd_ne (S.ne_new n hq)]; exact h1, h2, h3⟩⟩
theorem Sta.perm (S : Sta W R0 B R H L) (h : L.Perm L') : Sta W R0 B R H L' where
  g := S.g
  o := ⟨(h.map (·.1)).nodup_iff.mp S.o.1, fun q hq => S.o.2 q (h.mem_iff.mpr hq)⟩
theorem Sta.eqL (S : Sta W R0 B R H L) (e : L = L') : Sta W R0 B R H L' := by subst e; exact S
theorem Sta.less (S : Sta W R0 B R H L) (h : L'.Sublist L) : Sta W R0 B R H L' where
  g := S.g
  o := ⟨(h.map (·.1)).nodup S.o.1, fun q hq => S.o.2 q (h.mem hq)⟩
/-- one of them stays as it is from now on: into the region -/
theorem Sta.frz (S : Sta W R0 B R H ((a, o) :: L)) : Sta W R0 B (upd R a o) H L where
  g := S.g.frz (S.noB 0 rfl) (S.get 0 rfl) (S.noR 0 rfl)
  o := by
    obtain ⟨n1, n2⟩ := List.nodup_cons.mp S.o.1
    refine ⟨n2, fun q hq => ?_⟩
    obtain ⟨h1, h2, h3⟩ := S.o.2 q (List.mem_cons_of_mem _ hq)
    exact ⟨h1, h2, by rw [upd_ne (fun z => n1 (List.mem_map.mpr ⟨q, hq, z⟩))]; exact h3⟩
/-- behind a step that touches none of them -/
theorem Sta.step {W' : List Addr} (S : Sta W R0 B R H L) (g : Gw W' R H R1 H1) (hW : ∀ a ∈ W', (a ∈ W ∨ B a = none) ∧ a ∉ L.map (·.1)) : Sta W R0 B R1 H1 L where
  g := S.g.then g fun a h => (hW a h).1
  o := ⟨S.o.1, fun q hq => by
    obtain ⟨h1, h2, h3⟩ := S.o.2 q hq
    exact ⟨g.kee _ _ h1 fun z => (hW _ z).2 (List.mem_map.mpr ⟨q, hq, rfl⟩), h2, g.notR (nn_of h1) h3⟩⟩
theorem Sta.start (s : Same R H) : Sta W R H R H [] := ⟨Gw.refl s, List.nodup_nil, fun _ h => by cases h⟩
theorem Sta.mem (S : Sta W R0 B R H L) {q : Addr × HO} (h : q ∈ L) : H q.1 = some q.2 := (S.o.2 q h).1
end

/-! ### classes -/
structure CI (K : PySem.W.Frag) (C : Addr) (fs : List Str) : Prop where
  cls : Cls K C
  na : ∀ f, fs.contains f = true → NoAttr K C f
/-- a method as it stands behind the top -/
structure DfM (K : PySem.W.Frag) (mg : Str → Option Value) (c : Str) (C : Addr) (m q : Str) (st : Stmt) : Prop where
  ex : ∃ f fd, FunD K m q (defArgs st) (defBody st) (defScope st) [] [] f fd ∧ Meth K C m f
  gl : mg c = some (.ref C)
structure DfI (K : PySem.W.Frag) (mg : Str → Option Value) (c : Str) (C : Addr) (q : Str) (st : Stmt) : Prop where
  ex : ∃ f fd, FunD K "__init__" q (defArgs st) (defBody st) (defScope st) [] [] f fd ∧ Mk K C f
  gl : mg c = some (.ref C)
/-- a method that may be called -/
structure CaM (P : Program) (w : World) (K : PySem.W.Frag) (mg : Str → Option Value) (base : Heap) (CX : CXT) (k : Nat) (C : Addr) (m : Str) (sp : Sp) : Prop where
  ex : ∃ f fd ps, FnOk P w K mg base CX k f fd ps sp ∧ Meth K C m f ∧ Binds K fd ps []
structure CaI (P : Program) (w : World) (K : PySem.W.Frag) (mg : Str → Option Value) (base : Heap) (CX : CXT) (k : Nat) (c : Str) (C : Addr) (sp : Sp) : Prop where
  ex : ∃ f fd ps, FnOk P w K mg base CX k f fd ps sp ∧ Mk K C f ∧ Binds K fd ps [] ∧ mg c = some (.ref C)
theorem CaM.mono {P : Program} {w : World} {K : PySem.W.Frag} {mg : Str → Option Value} {base : Heap} {CX : CXT} {j k : Nat} {C : Addr} {m : Str} {sp : Sp} (c : CaM P w K mg base CX j C m sp) (h : j ≤ k) : CaM P w K mg base CX k C m sp := by
  obtain ⟨f, fd, ps, F, r⟩ := c.ex
  exact ⟨f, fd, ps, F.mono h, r⟩
section
variable {P : Program} {w : World} {K : PySem.W.Frag} {mg : Str → Option Value} {base : Heap} {c m q : Str} {C : Addr} {st : Stmt} {N ps : List Str} {k : Nat} {sp : Sp}
theorem DfM.ca0 (D : DfM K mg c C m q st) (S : FnScope N ps (defScope st))
    (bd : ∀ (kV doc pm : Value) (an : Option Addr) (cdv ct : Value) (us : List Value), us.length = ps.length → bindArgs (PySem.W.fnOf m q (defArgs st) (defBody st) (defScope st) .none kV doc pm an cdv ct) ⟨us, []⟩ = pure (ps.zip us))
    (len : ∀ vs H Q E, sp vs H Q E → vs.length = ps.length)
    (hbody : ∀ (f : Addr) (cdv : Value) (A : Around) (outer : List Env) (s : Shared) (H : Hp) (vs : List V) (Q : VK) (E : XK), Room k (A.deeper (envOfC q (defScope st) s.heap.objs.size f cdv)) → sp vs H Q E →
      ∃ t, PSs (cxOf CX0 P w K mg base N q (defScope st) f cdv A outer s H E).nox (defBody st) t ∧ t { nx := fun _ H' => Q .non H', rt := Q } (start N vs) H) : CaM P w K mg base CX0 (k + 1) C m sp := by
  obtain ⟨f, fd, F, hm⟩ := D.ex
  refine ⟨f, fd, ps, F.ok S len fun cdv A outer s H vs Q E hr h => ?_, hm, F.bindsN bd⟩
  obtain ⟨t, h1, h2⟩ := hbody f cdv A outer s H vs Q E hr h
  exact ⟨t, h1.nox, h2⟩
theorem DfI.ca0 (D : DfI K mg c C q st) (S : FnScope N ps (defScope st))
    (bd : ∀ (kV doc pm : Value) (an : Option Addr) (cdv ct : Value) (us : List Value), us.length = ps.length → bindArgs (PySem.W.fnOf "__init__" q (defArgs st) (defBody st) (defScope st) .none kV doc pm an cdv ct) ⟨us, []⟩ = pure (ps.zip us))
    (len : ∀ vs H Q E, sp vs H Q E → vs.length = ps.length)
    (hbody : ∀ (f : Addr) (cdv : Value) (A : Around) (outer : List Env) (s : Shared) (H : Hp) (vs : List V) (Q : VK) (E : XK), Room k (A.deeper (envOfC q (defScope st) s.heap.objs.size f cdv)) → sp vs H Q E →
      ∃ t, PSs (cxOf CX0 P w K mg base N q (defScope st) f cdv A outer s H E).nox (defBody st) t ∧ t { nx := fun _ H' => Q .non H', rt := Q } (start N vs) H) : CaI P w K mg base CX0 (k + 1) c C sp := by
  obtain ⟨f, fd, F, hm⟩ := D.ex
  refine ⟨f, fd, ps, F.ok S len fun cdv A outer s H vs Q E hr h => ?_, hm, F.bindsN bd, D.gl⟩
  obtain ⟨t, h1, h2⟩ := hbody f cdv A outer s H vs Q E hr h
  exact ⟨t, h1.nox, h2⟩
end
section
variable {X : Cx} {CX : CXT} {k j : Nat} {x m : Str} {C : Addr} {sp : Sp} {E : XK} {p pos apos : Pos} {o e : Expr} {es : List Expr} {ta : TE} {t : TA}
theorem pe_mk (c : CaI X.prog X.w X.K X.mg X.base CX k x C sp) (hr : Room j X.A) (hk : k + 1 ≤ j) (hg : Gl X x) (hx : Passes CX X E) (ha : PA X (e :: es) t) (hdb : (x == ("__debug__" : Str)) = false := by decide)
    (he : starEach (e :: es) X.env = (false, eval e X.env) :: starEach es X.env := by rfl) (hpl : (backTo pos (starEach es X.env)).any (·.1) = false := by rfl) : PE X (.Call (.Name x p) (e :: es) [] pos) (tMake C sp [] E t) := by
  refine ⟨fun pins s σ H Q I h => ?_⟩
  obtain ⟨f, fd, ps, F, M, hb, hm⟩ := c.ex
  exact (pe_make (dvs := []) M F (hr.mono hk) hg hm hb .nil hx ha hdb he hpl).run pins s σ H Q I h
end
section
variable {K : PySem.W.Frag} {σ : L2.St} {H : Hp} {Q : VK} {te ta : TE} {t : TA} {nx bk ct : L2.St → Hp → Prop} {rt : VK} {f m : Str} {a C dx : Addr} {fs : List (Str × V)} {v y : V} {sp : Sp} {E : XK} {cs : List Str}
/-- a field is read -/
def FldE (K : PySem.W.Frag) (f : Str) (Q : VK) (x : V) (H1 : Hp) : Prop := ∃ a C dx fs v, x = .ref a ∧ H1 a = some (.ins C dx fs) ∧ Cls K C ∧ NoAttr K C f ∧ fs.lookup f = some v ∧ Q v H1
theorem w_fldX (h : te σ H fun x H1 => FldE K f Q x H1) : tFld K te f σ H Q := h
theorem w_fldEE (ha : H a = some (.ins C dx fs)) (c : CI K C cs) (n : cs.contains f = true) (l : fs.lookup f = some v) (h : Q v H) : FldE K f Q (.ref a) H := ⟨a, C, dx, fs, v, rfl, ha, c.cls, c.na f n, l, h⟩
def FldS (K : PySem.W.Frag) (f : Str) (nx : Hp → Prop) (y x : V) (H2 : Hp) : Prop := ∃ a C dx fs, x = .ref a ∧ H2 a = some (.ins C dx fs) ∧ Cls K C ∧ NoAttr K C f ∧ fs.length < 1000 ∧ nx (upd H2 a (.ins C dx (putF f y fs)))
theorem w_sFld {tv : TE} (h : tv σ H fun y H1 => ta σ H1 fun x H2 => FldS K f (nx σ) y x H2) : sFld K ta tv f ⟨nx, rt, bk, ct⟩ σ H := h
theorem w_fldS {N : Hp → Prop} {gs : List (Str × V)} (ha : H a = some (.ins C dx fs)) (c : CI K C cs) (n : cs.contains f = true) (l : Nat.ble fs.length 999 = true) (e : putF f y fs = gs) (h : N (upd H a (.ins C dx gs))) : FldS K f N y (.ref a) H :=
  ⟨a, C, dx, fs, rfl, ha, c.cls, c.na f n, Nat.lt_succ_of_le (ble l), by rw [e]; exact h⟩
def FldA1 (K : PySem.W.Frag) (f : Str) (R : Addr → Addr → V → Hp → Prop) (x : V) (H1 : Hp) : Prop := ∃ a C dx fs v, x = .ref a ∧ H1 a = some (.ins C dx fs) ∧ Cls K C ∧ NoAttr K C f ∧ fs.lookup f = some v ∧ R a C v H1
def FldA2 (f : Str) (nx : Hp → Prop) (a C : Addr) (z : V) (H3 : Hp) : Prop := ∃ dx' fs', H3 a = some (.ins C dx' fs') ∧ fs'.length < 1000 ∧ nx (upd H3 a (.ins C dx' (putF f z fs')))
theorem w_sFldAug {tv : TE} {rd : V → V → Hp → VK → Prop} (h : ta σ H fun x H1 => FldA1 K f (fun a C v H1 => tv σ H1 fun y H2 => rd v y H2 fun z H3 => FldA2 f (nx σ) a C z H3) x H1) : sFldAug K ta tv rd f ⟨nx, rt, bk, ct⟩ σ H := h
theorem w_fldA1 {R : Addr → Addr → V → Hp → Prop} (ha : H a = some (.ins C dx fs)) (c : CI K C cs) (n : cs.contains f = true) (l : fs.lookup f = some v) (h : R a C v H) : FldA1 K f R (.ref a) H := ⟨a, C, dx, fs, v, rfl, ha, c.cls, c.na f n, l, h⟩
theorem w_fldA2 {N : Hp → Prop} {z : V} {gs : List (Str × V)} (ha : H a = some (.ins C dx fs)) (l : Nat.ble fs.length 999 = true) (e : putF f z fs = gs) (h : N (upd H a (.ins C dx gs))) : FldA2 f N a C z H := ⟨dx, fs, ha, Nat.lt_succ_of_le (ble l), by rw [e]; exact h⟩
theorem w_rAdd {i j : Int} (h : Q (.int (i + j)) H) : rAdd (.int i) (.int j) H Q := ⟨i, j, rfl, rfl, h⟩
theorem w_rSub {i j : Int} (h : Q (.int (i - j)) H) : rSub (.int i) (.int j) H Q := ⟨i, j, rfl, rfl, h⟩
/-- a method is called: its contract may be of any def that the class holds by that name -/
def tMe (K : PySem.W.Frag) (C : Addr) (m : Str) (sp : Sp) (E : XK) (ta : TE) (t : TA) : TE := tMeth C m sp [] E ta t
def MethE (C : Addr) (m : Str) (R : V → Hp → Prop) (x : V) (H1 : Hp) : Prop := ∃ a dx fs, x = .ref a ∧ H1 a = some (.ins C dx fs) ∧ fs.lookup m = none ∧ R x H1
theorem w_meth (h : ta σ H fun x H1 => ∃ a dx fs, x = .ref a ∧ H1 a = some (.ins C dx fs) ∧ fs.lookup m = none ∧ t σ H1 fun vs H2 => sp (x :: (vs ++ [])) H2 Q E) : tMeth C m sp [] E ta t σ H Q := h
theorem w_methE {A : Prop} (ha : H a = some (.ins C dx fs)) (l : fs.lookup m = none) (h : A) : ∃ a' dx fs, V.ref a = .ref a' ∧ H a' = some (.ins C dx fs) ∧ fs.lookup m = none ∧ A := ⟨a, dx, fs, rfl, ha, l, h⟩
theorem w_make (h : t σ H fun vs H1 => ∀ x dx, H1 x = none → H1 dx = none → dx ≠ x → sp (.ref x :: (vs ++ [])) (upd (upd H1 dx (.own x)) x (.ins C dx [])) (fun v H2 => v = .non ∧ Q (.ref x) H2) E) : tMake C sp [] E t σ H Q := h
end
/-! ### a def that is held by a name -/
/-- a def that may be called, by its address -/
structure Cf (P : Program) (w : World) (K : PySem.W.Frag) (mg : Str → Option Value) (base : Heap) (CX : CXT) (k : Nat) (f : Addr) (sp : Sp) : Prop where
  ex : ∃ fd ps, FnOk P w K mg base CX k f fd ps sp ∧ PySem.W.keepIn K (.ref f) = true ∧ Binds K fd ps []
theorem Ca.cf {P : Program} {w : World} {K : PySem.W.Frag} {mg : Str → Option Value} {base : Heap} {CX : CXT} {k : Nat} {x : Str} {sp : Sp} {f : Addr} (c : Ca P w K mg base CX k x sp) (h : mg x = some (.ref f)) : Cf P w K mg base CX k f sp := by
  obtain ⟨g, fd, ps, F, hm, kp, hb⟩ := c.ex
  rw [h] at hm
  cases hm
  exact ⟨fd, ps, F, kp, hb⟩
def tCallH (i : Nat) (Hl : Addr → Sp → Prop) (E : XK) (t : TA) : TE := fun σ H Q => ∃ f sp, σ[i]? = some (some (.ref f)) ∧ Hl f sp ∧ t σ H fun vs H1 => sp vs H1 Q E
section
variable {X : Cx} {CX : CXT} {k j i : Nat} {x : Str} {E : XK} {p pos : Pos} {e : Expr} {es : List Expr} {t : TA} {Hl : Addr → Sp → Prop}
theorem pe_callH (A : ∀ f sp, Hl f sp → Cf X.prog X.w X.K X.mg X.base CX k f sp) (hr : Room j X.A) (hk : k ≤ j) (hx : Passes CX X E) (hN : X.N[i]? = some x) (hv : Vis X.env.scope x) (ha : PA X (e :: es) t)
    (hdb : (x == ("__debug__" : Str)) = false := by decide) (hcd : (x == ("__classdict__" : Str)) = false := by decide)
    (he : starEach (e :: es) X.env = (false, eval e X.env) :: starEach es X.env := by rfl) (hpl : (backTo pos (starEach es X.env)).any (·.1) = false := by rfl) : PE X (.Call (.Name x p) (e :: es) [] pos) (tCallH i Hl E t) := by
  refine ⟨fun pins s σ H Q I h => ?_⟩
  obtain ⟨f, sp, hs, hS, ht⟩ := h
  obtain ⟨fd, ps, F, hk', hb⟩ := (A f sp hS).ex
  refine (pe_callL (i := i) (f := f) (sp := sp) (dvs := []) (E := E) F (hr.mono hk) hN hv hk' hb .nil hx ha hdb hcd he hpl).run pins s σ H Q I ⟨hs, ?_⟩
  have e0 : (fun (vs : List V) (H1 : Hp) => sp (vs ++ []) H1 Q E) = fun vs H1 => sp vs H1 Q E := by
    funext vs H1
    rw [List.append_nil]
  show t σ H (fun vs H1 => sp (vs ++ []) H1 Q E)
  rw [e0]
  exact ht
end
theorem w_callH {i : Nat} {Hl : Addr → Sp → Prop} {E : XK} {t : TA} {σ : L2.St} {H : Hp} {Q : VK} {f : Addr} {sp : Sp} (e : σ[i]? = some (some (.ref f))) (hl : Hl f sp) (h : t σ H fun vs H1 => sp vs H1 Q E) : tCallH i Hl E t σ H Q := ⟨f, sp, e, hl, h⟩
/-! ### truth, while, written dicts -/
def TrE (K : PySem.W.Frag) (Q : Bool → Hp → Prop) (x : V) (H : Hp) : Prop := ∃ k, TruV K x H k ∧ Q k H
def tTru (K : PySem.W.Frag) (te : TE) : TT := fun σ H Q => te σ H fun x H' => TrE K Q x H'
theorem pt_tru {X : Cx} {a : Expr} {ta : TE} (ha : PE X a ta) (he : ∀ whole, isTrue a X.env whole = (do let v ← whole; standAt a.pos; holding [v] (truthy v)) := by intro _; rfl) : PT X a (tTru X.K ta) := pt_truth ha he
def WhT (W : Nat → L2.St → Hp → Prop) (m : Nat) (tb : TS) (nx : L2.St → Hp → Prop) (rt : VK) (b : Bool) (σ : L2.St) (H1 : Hp) : Prop :=
  if b = true then ∃ N : L2.St → Hp → Prop, (∀ σ' H', N σ' H' → ∃ m', m' < m ∧ W m' σ' H') ∧ tb ⟨N, rt, nx, N⟩ σ H1 else nx σ H1
section
variable {K : PySem.W.Frag} {σ : L2.St} {H : Hp} {Q : VK} {QB : Bool → Hp → Prop} {te : TE} {nx bk ct : L2.St → Hp → Prop} {rt : VK} {a : Addr} {xs : List V} {c : TT} {tb : TS} {w : World} {z : Str} {v : V}
theorem w_tru (h : te σ H fun x H' => TrE K QB x H') : tTru K te σ H QB := h
theorem w_truL (ha : SqL K H a xs) (h : QB (!xs.isEmpty) H) : TrE K QB (.ref a) H := ⟨_, .inl ⟨xs, ha, rfl⟩, h⟩
theorem w_truI {i : Int} (h : QB (i != 0) H) : TrE K QB (.int i) H := ⟨_, rfl, h⟩
theorem w_while (W : Nat → L2.St → Hp → Prop) (m0 : Nat) (h0 : W m0 σ H) (hs : ∀ m σ H, W m σ H → c σ H fun b H1 => WhT W m tb nx rt b σ H1) : tWhile c tb ⟨nx, rt, bk, ct⟩ σ H := ⟨W, ⟨m0, h0⟩, hs⟩
theorem w_whT {W : Nat → L2.St → Hp → Prop} {m : Nat} (h : tb ⟨fun σ' H' => ∃ m', m' < m ∧ W m' σ' H', rt, nx, fun σ' H' => ∃ m', m' < m ∧ W m' σ' H'⟩ σ H) : WhT W m tb nx rt true σ H := by
  unfold WhT
  rw [if_pos rfl]
  exact ⟨_, fun _ _ q => q, h⟩
theorem w_whF {W : Nat → L2.St → Hp → Prop} {m : Nat} (h : nx σ H) : WhT W m tb nx rt false σ H := by
  unfold WhT
  rw [if_neg Bool.false_ne_true]
  exact h
theorem wh_cases {W : Nat → L2.St → Hp → Prop} {m : Nat} {p : Prop} [Decidable p] (h1 : p → WhT W m tb nx rt true σ H) (h2 : ¬ p → WhT W m tb nx rt false σ H) : WhT W m tb nx rt (decide p) σ H := by
  by_cases h : p
  · rw [decide_eq_true h]; exact h1 h
  · rw [decide_eq_false h]; exact h2 h
theorem w_ixD (k : KDct K w a z v) (h : Q v H) : rIxD K w (.ref a) (.str z) H Q := ⟨a, z, v, rfl, rfl, k, h⟩
end
end U

/-! U6: // of any two whole numbers (own work). -/
namespace U
open PySem PySem.Spec PyProof.Rows L2
def nsOk (K : PySem.W.Frag) (a : Addr) : Bool := match K.lookup a with
  | some ⟨_, _, .dict es _, _⟩ => es.toList.all fun e => match e.key with
    | .str _ _ => true
    | _ => false
  | _ => false
theorem ns_of {K : PySem.W.Frag} {h : Heap} {a : Addr} (X : K.In h) (e : nsOk K a = true) : ∃ m, h.Ns a m ∧ ∀ x, PySem.W.nsIn K a x = some none → m x = none := by
  unfold nsOk at e
  split at e
  · rename_i c d es n sl q
    refine ⟨fun x => nsFind es x, ⟨_, es, n, X _ _ q, rfl, fun en hen => ?_, fun _ => rfl⟩, fun x hx => ?_⟩
    · have z := List.all_eq_true.mp e en (Array.mem_toList_iff.mpr hen)
      split at z
      · rename_i x t ek
        exact ⟨x, t, ek⟩
      · cases z
    · unfold PySem.W.nsIn at hx
      rw [q] at hx
      dsimp only at hx
      split at hx
      · cases hx
      · rename_i he
        show nsFind es x = none
        unfold nsFind findBy
        rw [← Array.find?_toList, he]
        rfl
  · cases e
/-- the module that the top's names know as the built-in one -/
def bmOf (K : PySem.W.Frag) : Addr := match PySem.W.nsIn K mainGlobals "__builtins__" with
  | some (some (.ref b)) => b
  | _ => 0
def bmOk (K : PySem.W.Frag) : Bool := match K.lookup (bmOf K) with
  | some ⟨.type c, some d, _, _⟩ => decide (c = "module") && decide (d = builtinsNs)
  | _ => false
/-- nothing looks on: what a division of great numbers asks -/
def seerB (K : PySem.W.Frag) : Bool := (nsOk K cStatics && (He.eqO (PySem.W.nsIn K cStatics "sys.audit-hooks") (some none) && He.eqO (PySem.W.nsIn K cStatics "sys.dict") (some none))) &&
  ((nsOk K sysModules && He.eqO (PySem.W.nsIn K sysModules "_pylong") (some none)) && (He.eqO (PySem.W.nsIn K mainGlobals "__builtins__") (some (some (.ref (bmOf K)))) && bmOk K))
theorem noSeer_of {K : PySem.W.Frag} {mg : Str → Option Value} {base : Heap} (M : Mod K mg base) (e : seerB K = true) : base.NoSeer := by
  obtain ⟨e1, e2⟩ := He.ba e
  obtain ⟨a1, a2⟩ := He.ba e1
  obtain ⟨a3, a4⟩ := He.ba a2
  obtain ⟨b1, b2⟩ := He.ba e2
  obtain ⟨b3, b4⟩ := He.ba b1
  obtain ⟨b5, b6⟩ := He.ba b2
  obtain ⟨m1, n1, k1⟩ := ns_of M.kin a1
  obtain ⟨m2, n2, k2⟩ := ns_of M.kin b3
  refine ⟨⟨m1, n1, k1 _ (He.eqO_ok a3), k1 _ (He.eqO_ok a4)⟩, ⟨m2, n2, k2 _ (He.eqO_ok b4)⟩, M.blt, ?_⟩
  unfold bmOk at b6
  split at b6
  · rename_i c d dt sl q
    obtain ⟨c1, c2⟩ := He.ba b6
    have e1 := of_decide_eq_true c1
    have e2 := of_decide_eq_true c2
    subst e1 e2
    exact ⟨mg, bmOf K, _, M.glob, PySem.W.mg_of M.kin M.glob (He.eqO_ok b5), M.kin _ _ q, rfl, rfl⟩
  · cases b6
def rFdA : R2 := rI (fun _ j => j ≠ 0) fun i j => .int (i.fdiv j)
theorem op_fdivA {X : Cx} (hS : seerB X.K = true) (hP : X.prog.given.tree = none) (hs : X.stack = X.env :: X.outer) (hgen : X.env.scope.isGenerator = false) (hco : X.env.scope.isCoroutine = false) (hd : X.A.depth + 100 < recursionLimit) : OpR X (binaryOp .FloorDiv) rFdA := by
  intro pins s σ H x y v u Q I rx ry h
  obtain ⟨i, j, rfl, rfl, hj, q⟩ := h
  obtain ⟨t, rfl⟩ := rx
  obtain ⟨t', rfl⟩ := ry
  have hN : s.heap.NoSeer := (noSeer_of I.mod hS).keeps I.bk
  refine floordiv_int hj ⟨.int (i.fdiv j), H, I.tok _, ⟨_, rfl⟩, q⟩ (.inr (PylongRoom.of I.nolimit hd ?_))
  exact SeerAt.of (M := model X.prog X.w) hN hP (I.ok.frames.trans (by rw [hs])) hgen hco I.ok.blt I.ok.glob
theorem w_fdA {i j : Int} {H : Hp} {Q : VK} (hj : j ≠ 0) (h : Q (.int (i.fdiv j)) H) : rFdA (.int i) (.int j) H Q := ⟨i, j, rfl, rfl, hj, h⟩
theorem room_deep {k : Nat} {A : Around} (r : Room k A) (h : 35 ≤ k) : A.depth + 100 < recursionLimit := by
  have := r.dp
  omega
end U

/-! U7: the end by a hook of one's own: defs, methods, constants, tables, and that nothing looks on (own work). -/
namespace U
open PySem PySem.Spec PyProof.Rows L2 He
/-- what is told of the written part: facts, defs, tables with text keys, one more Bool; the roots take in what the divisions ask -/
def rootsU (g : Addr → Option Obj) (n : Nat) : List Addr := asD g n ++ [cStatics, sysModules]
abbrev AlU : Type := AlT × Bool
def obsU (fa : List Fa) (fn : List DefD) (ts : List Tab) (ex : PySem.W.Frag → Bool) (K : PySem.W.Frag) : AlU := (obsT fa fn ts K, ex K)
def obsUG (n : Nat) (fa : List Fa) (fn : List DefD) (ts : List Tab) (ex : PySem.W.Frag → Bool) (g : Addr → Option Obj) : AlU := obsU fa fn ts ex (frG g (rootsU g n))
def SaysU (fa : List Fa) (fn : List DefD) (ts : List Tab) (ex : PySem.W.Frag → Bool) (w : World) (K : PySem.W.Frag) : Prop := obsU fa fn ts ex K = (valT fn ts w, true)
def hookU (n : Nat) (fa : List Fa) (fn : List DefD) (ts : List Tab) (ex : PySem.W.Frag → Bool) : PySem.W.Hook where
  α := AlU
  obs := fun s => obsUG n fa fn ts ex s.heap.get?
  val := fun w => (valT fn ts w, true)
  says := fun w h => ∃ K : PySem.W.Frag, K.In h ∧ SaysU fa fn ts ex w K
  of := fun _ _ e => ⟨_, frG_in, e⟩
  keeps := fun _ _ _ ⟨K, hK, c⟩ k => ⟨K, PySem.W.Frag.In.keeps hK k, c⟩
theorem obsU_eq {n : Nat} {fa : List Fa} {fn : List DefD} {ts : List Tab} {ex : PySem.W.Frag → Bool} {g : Addr → Option Obj} {s : Shared} (h : ∀ a, g a = s.heap.get? a) : obsUG n fa fn ts ex g = (hookU n fa fn ts ex).obs s := by
  have e : g = s.heap.get? := funext h
  rw [e] <;> rfl
/-- a row of the end: a def of the top; a class with its attributes; a method; a class's __init__; a whole number; a table of defs -/
inductive Wd where
  | df (x : Str) (st : Stmt)
  | cls (c : Str) (fs : List Str)
  | me (c m q : Str) (st : Stmt)
  | ini (c q : Str) (st : Stmt)
  | num (x : Str) (i : Int)
  | any (x : Str)
def Wd.fa : Wd → List Fa
  | .df x _ => [.glo x]
  | .cls c fs => .glo c :: .cls c :: fs.map fun f => .noat c f
  | .me c m _ _ => [.glo c, .meth c m]
  | .ini c _ _ => [.glo c, .mkr c]
  | .num x i => [.int x i]
  | .any x => [.glo x]
def Wd.fn : Wd → List DefD
  | .df x st => [⟨(x, none), x, x, defArgs st, defBody st, defScope st, [], []⟩]
  | .me c m q st => [⟨(c, some m), m, q, defArgs st, defBody st, defScope st, [], []⟩]
  | .ini c q st => [⟨(c, some "__init__"), "__init__", q, defArgs st, defBody st, defScope st, [], []⟩]
  | _ => []
def faU (ws : List Wd) : List Fa := biNames.map Fa.free ++ ws.flatMap Wd.fa
def fnU (ws : List Wd) : List DefD := ws.flatMap Wd.fn
section
variable {ws : List Wd} {ts : List Tab} {ex : PySem.W.Frag → Bool} {w : World} {K : PySem.W.Frag} {h : Heap} {mg : Str → Option Value}
theorem SaysU.t (c : SaysU (faU ws) (fnU ws) ts ex w K) : SaysT (faU ws) (fnU ws) ts w K := congrArg (fun z : AlU => z.1) c
theorem SaysU.more (c : SaysU (faU ws) (fnU ws) ts ex w K) : ex K = true := congrArg (fun z : AlU => z.2) c
theorem SaysU.fact (c : SaysU (faU ws) (fnU ws) ts ex w K) {d : Wd} (hd : d ∈ ws) {f : Fa} (hf : f ∈ d.fa) : f.ok K = true := c.t.d.facts (List.mem_append.mpr (.inr (List.mem_flatMap.mpr ⟨d, hd, hf⟩)))
theorem SaysU.fun_ (c : SaysU (faU ws) (fnU ws) ts ex w K) {d : Wd} (hd : d ∈ ws) {f : DefD} (hf : f ∈ d.fn) : ∃ fd, FunD K f.name f.qual f.params f.body f.scope (f.dvs K) (f.kws K) (fAd K f.at_) fd := c.t.d.defs (List.mem_flatMap.mpr ⟨d, hd, hf⟩)
theorem bi_u (X : K.In h) (G : h.Ns mainGlobals mg) (c : SaysU (faU ws) (fnU ws) ts ex w K) : Bi mg := bi_of X G c.t.d fun x hx => List.mem_append.mpr (.inl (List.mem_map.mpr ⟨x, hx, rfl⟩))
theorem df_u (X : K.In h) (G : h.Ns mainGlobals mg) (c : SaysU (faU ws) (fnU ws) ts ex w K) (i : Nat) {x : Str} {st : Stmt} (e : ws[i]? = some (.df x st) := by rfl) : Df K mg x st := by
  have m := List.mem_of_getElem? e
  obtain ⟨fd, F⟩ := c.fun_ m (f := ⟨(x, none), x, x, defArgs st, defBody st, defScope st, [], []⟩) List.mem_cons_self
  exact ⟨_, fd, F, glo_ok X G (c.fact m List.mem_cons_self)⟩
theorem ci_u (c : SaysU (faU ws) (fnU ws) ts ex w K) (i : Nat) {x : Str} {fs : List Str} (e : ws[i]? = some (.cls x fs) := by rfl) : CI K (ga K x) fs := by
  have m := List.mem_of_getElem? e
  refine ⟨cls_ok (c.fact m (f := .cls x) (List.mem_cons_of_mem _ List.mem_cons_self)), fun f hf => noat_ok (c.fact m (f := .noat x f) (List.mem_cons_of_mem _ (List.mem_cons_of_mem _ (List.mem_map.mpr ⟨f, ?_, rfl⟩))))⟩
  exact List.contains_iff_mem.mp hf
theorem me_u (X : K.In h) (G : h.Ns mainGlobals mg) (c : SaysU (faU ws) (fnU ws) ts ex w K) (i : Nat) {x m q : Str} {st : Stmt} (e : ws[i]? = some (.me x m q st) := by rfl) : DfM K mg x (ga K x) m q st := by
  have hm := List.mem_of_getElem? e
  obtain ⟨fd, F⟩ := c.fun_ hm (f := ⟨(x, some m), m, q, defArgs st, defBody st, defScope st, [], []⟩) List.mem_cons_self
  exact ⟨⟨_, fd, F, meth_ok (c.fact hm (f := .meth x m) (List.mem_cons_of_mem _ List.mem_cons_self))⟩, glo_ok X G (c.fact hm (f := .glo x) List.mem_cons_self)⟩
theorem ini_u (X : K.In h) (G : h.Ns mainGlobals mg) (c : SaysU (faU ws) (fnU ws) ts ex w K) (i : Nat) {x q : Str} {st : Stmt} (e : ws[i]? = some (.ini x q st) := by rfl) : DfI K mg x (ga K x) q st := by
  have hm := List.mem_of_getElem? e
  obtain ⟨fd, F⟩ := c.fun_ hm (f := ⟨(x, some "__init__"), "__init__", q, defArgs st, defBody st, defScope st, [], []⟩) List.mem_cons_self
  exact ⟨⟨_, fd, F, mkr_ok (c.fact hm (f := .mkr x) (List.mem_cons_of_mem _ List.mem_cons_self))⟩, glo_ok X G (c.fact hm (f := .glo x) List.mem_cons_self)⟩
theorem num_u (X : K.In h) (G : h.Ns mainGlobals mg) (c : SaysU (faU ws) (fnU ws) ts ex w K) (i : Nat) {x : Str} {n : Int} (e : ws[i]? = some (.num x n) := by rfl) : ∃ t, mg x = some (.int n t) :=
  int_ok X G (c.fact (List.mem_of_getElem? e) (f := .int x n) List.mem_cons_self)
theorem any_u (X : K.In h) (G : h.Ns mainGlobals mg) (c : SaysU (faU ws) (fnU ws) ts ex w K) (i : Nat) {x : Str} (e : ws[i]? = some (.any x) := by rfl) : mg x = some (.ref (ga K x)) :=
  glo_ok X G (c.fact (List.mem_of_getElem? e) (f := .glo x) List.mem_cons_self)
/-- a table's entry -/
theorem tab_u (c : SaysU (faU ws) (fnU ws) ts ex w K) (i : Nat) {t : Tab} (e : ts[i]? = some t) {kvs : List (Str × Dv)} (hv : valsB K (t.1 K) kvs = true) {q : Str × Dv} (hq : q ∈ kvs) : KDct K w (t.1 K) q.1 (q.2.v K) := by
  obtain ⟨es, n, hk⟩ := c.t.tab i e
  obtain ⟨u, hu, r⟩ := valsB_ok hv hq
  obtain ⟨k1, k2, k3⟩ := hk
  exact ⟨es, n, u, k1, k2, hu, r⟩
end
/-- the walk of a law whose def stands at j of ws -/
theorem walk_u {l : PySem.W.OpenLaw} {k n j : Nat} {q : Program} {loose : List Str} {XP : (Str → Option Value) → Heap → Prop} {d : DefRec} {x : Str} {ws : List Wd} {ts : List Tab} {ex : PySem.W.Frag → Bool} {st : Stmt}
    (hn : l.most = some 63) (hdf : d.params.defaults = []) (hr : Room k callerA) (hname : d.name = ("law" : Str)) (hl : ws[j]? = some (.df "law" st))
    (hbind : ∀ (kV doc pm : Value) (an : Option Addr) (cdv ct : Value) (us : List Value), us.length = [x].length → bindArgs (PySem.W.fnOf "law" "law" (defArgs st) (defBody st) (defScope st) .none kV doc pm an cdv ct) ⟨us, []⟩ = pure ([x].zip us))
    (F : ∀ (w : World) (K : PySem.W.Frag) (mg : Str → Option Value) (h base : Heap), K.In h → h.Ns mainGlobals mg → SaysU (faU ws) (fnU ws) ts ex w K → ∀ f fd, LawF K st f fd → FnOk l.prog w K mg base CX0 k f fd [x] (spTrue K)) :
    PySem.W.WalkO q loose XP (hookU n (faU ws) (fnU ws) ts ex).says l.row.toRowW d [] (fun f vs => PySem.call f vs) := by
  refine L2.walk_ofE (l := l) (n := 63) (k := k) (x := x) (CX := L2.CX0) hn (by decide) hdf hr ?_ (fun _ _ _ _ z => z)
  intro w mg fa h Y G hmg
  obtain ⟨K, KX, c⟩ := Y
  rw [hname] at hmg
  have m := List.mem_of_getElem? hl
  obtain ⟨fd, FD⟩ := c.fun_ m (f := ⟨("law", none), "law", "law", defArgs st, defBody st, defScope st, [], []⟩) List.mem_cons_self
  have e : fa = ga K "law" := by
    have e1 := glo_ok KX G (c.fact m (f := .glo "law") List.mem_cons_self)
    rw [hmg] at e1
    exact Value.ref.inj (Option.some.inj e1)
  have FD' : LawF K st fa fd := by rw [e]; exact FD
  have b := FunD.bindsA (ps := [x]) FD' hbind
  exact ⟨K, fd, spTrue K, KX, fun s u => b s [u] rfl, fun H a ns hl _ hS => ⟨a, ns, rfl, hS, hl, fun _ => rfl⟩, fun base hb hg => F w K mg h base KX G c fa fd FD'⟩
end U

/-! U8: dicts with text keys, enumerate (own work). -/
namespace U
open PySem PySem.Spec PyProof.Rows L2
def DgE (Q : VK) (x y : V) (H2 : Hp) : Prop := ∃ a v, x = .ref a ∧ DGet H2 a y (some v) ∧ Q v H2
def DpE (nx : Hp → Prop) (x y v : V) (H3 : Hp) : Prop := ∃ a H4, x = .ref a ∧ DPut H3 a y v H4 ∧ nx H4
def DsE (Q : VK) (p : Addr) (ps : List (V × V)) (H2 : Hp) : Prop := H2 p = some (.dK []) ∧ ∃ kvs : List (Key × V), ps = kvs.map (fun kv => (kV kv.1, kv.2)) ∧ kvs.length ≤ 15 ∧ Q (.ref p) (upd H2 p (.dK (mergeK [] kvs)))
section
variable {K : PySem.W.Frag} {σ : L2.St} {H : Hp} {Q : VK} {td ty tv tk : TE} {nx bk ct : L2.St → Hp → Prop} {rt : VK} {a p : Addr} {kvs kvs' : List (Key × V)} {x : Str} {v : V} {tr : List (TE × TE)} {QP : List (V × V) → Hp → Prop}
theorem w_dg (h : td σ H fun x H1 => ty σ H1 fun y H2 => DgE Q x y H2) : tDGet td ty σ H Q := h
theorem w_dgE (ha : H a = some (.dK kvs)) (e : valV kvs (Sum.inr x) = some v) (h : Q v H) : DgE Q (.ref a) (.str x) H := ⟨a, v, rfl, by rw [← e]; exact .k ha (k := .inr x), h⟩
theorem w_dp (h : tv σ H fun v H1 => td σ H1 fun x H2 => ty σ H2 fun y H3 => DpE (fun H4 => nx σ H4) x y v H3) : sDPut td ty tv ⟨nx, rt, bk, ct⟩ σ H := h
theorem w_dpE {N : Hp → Prop} (ha : H a = some (.dK kvs)) (l : Nat.ble kvs.length 999 = true) (e : putK kvs (Sum.inr x) v = kvs') (h : N (upd H a (.dK kvs'))) : DpE N (.ref a) (.str x) v H :=
  ⟨a, _, rfl, .k ha (k := .inr x) (szlt (Nat.lt_of_le_of_lt (ble l) (by decide))), by rw [e]; exact h⟩
theorem w_disp (h : ∀ p, H p = none → tPairs tr σ (upd H p (.dK [])) fun ps H2 => DsE Q p ps H2) : tDisp tr σ H Q := h
theorem w_prN (h : QP [] H) : tPairs [] σ H QP := h
theorem w_prC (h : tk σ H fun x H1 => tv σ H1 fun y H2 => tPairs tr σ H2 fun ps H3 => QP ((x, y) :: ps) H3) : tPairs ((tk, tv) :: tr) σ H QP := h
theorem w_dsE {ps : List (V × V)} (kvs : List (Key × V)) (ha : H p = some (.dK [])) (e : ps = kvs.map (fun kv => (kV kv.1, kv.2))) (l : Nat.ble kvs.length 15 = true) (m : mergeK [] kvs = kvs') (h : Q (.ref p) (upd H p (.dK kvs'))) : DsE Q p ps H :=
  ⟨ha, kvs, e, ble l, by rw [m]; exact h⟩
/-! ### enumerate -/
def ItE (K : PySem.W.Frag) (R : It → Hp → Prop) (vs : List V) (H1 : Hp) : Prop := ∃ a xs, vs = [.ref a] ∧ SqL K H1 a xs ∧ R (Ite K a) H1
theorem w_iE {ta : TA} {R : It → Hp → Prop} (h : ta σ H fun vs H1 => ItE K R vs H1) : iEnum K ta σ H R := h
theorem for_E {xs : List V} {g : TG} {tb : TS} (Pv : Nat → L2.St → Hp → Prop) (hS : SqL K H a xs) (h0 : Pv 0 σ H) (hl : ∀ i σ H, i ≤ xs.length → Pv i σ H → SqL K H a xs)
    (hs : ∀ i x σ H T, xs[i]? = some x → Pv i σ H → H T = none → g (.ref T) σ (upd H T (.tup [.int (i : Nat), x])) fun σ2 H2 => tb ⟨Pv (i + 1), rt, nx, Pv (i + 1)⟩ σ2 H2) (hd : ∀ σ H, Pv xs.length σ H → nx σ H) :
    ItE K (fun J H1 => ForB J g tb nx rt σ H1) [.ref a] H := by
  refine ⟨a, xs, rfl, hS, fun i m σ H => m = xs.length - i ∧ i ≤ xs.length ∧ Pv i σ H, ⟨xs.length, by simp, Nat.zero_le _, h0⟩, ?_⟩
  rintro i m σ H ⟨rfl, hi, p⟩
  have q := hl i σ H hi p
  by_cases hlt : i < xs.length
  · refine .inr ⟨⟨xs, xs[i], q, by simp [hlt]⟩, Pv (i + 1), fun σ' H' p' => ⟨xs.length - (i + 1), by omega, rfl, hlt, p'⟩, fun x H' y => ?_⟩
    obtain ⟨T, z, e, hT, e2, y⟩ := y
    subst e e2
    exact hs i z σ H T (y xs q) p hT
  · have e : i = xs.length := by omega
    subst e
    exact .inl ⟨⟨xs, q, Nat.le_refl _⟩, hd σ H p⟩
end
/-! ### lists joined and repeated -/
section
variable {W : List Addr} {R0 B R H R1 H1 : Hp} {L : List (Addr × HO)} {K : PySem.W.Frag} {Q : VK} {a b p l : Addr} {xs ys vs : List V} {o : HO} {ds es : List PyData}
theorem w_cat (ha : H a = some (.lst xs)) (hb : H b = some (.lst ys)) (hl : xs.length + ys.length ≤ 100000) (h : ∀ p, H p = none → Q (.ref p) (upd H p (.lst (xs ++ ys)))) : rCat (.ref a) (.ref b) H Q := ⟨a, b, xs, ys, rfl, rfl, ha, hb, sz hl, h⟩
theorem w_rep {k : Int} (ha : H a = some (.lst xs)) (h0 : -1000 ≤ k) (h1 : k ≤ 1000) (hl : xs.length * k.toNat ≤ 100000) (h : ∀ p, H p = none → Q (.ref p) (upd H p (.lst (List.replicate k.toNat xs).flatten))) : rRep (.ref a) (.int k) H Q :=
  ⟨a, k, xs, rfl, rfl, ha, by omega, by omega, sz hl, h⟩
/-- a new thing, made by a step, is one's own from now on -/
theorem Sta.take (S : Sta W R0 B R H L) (g : Gw [] R H R1 H1) (n : H p = none) (h : H1 p = some o) (r : R1 p = none) : Sta W R0 B R1 H1 ((p, o) :: L) where
  g := S.g.then g fun _ h => nomatch h
  o := by
    have S1 := S.step g fun _ h => nomatch h
    refine ⟨List.nodup_cons.mpr ⟨fun m => ?_, S.o.1⟩, fun q hq => ?_⟩
    · obtain ⟨q, hq, e⟩ := List.mem_map.mp m
      exact S.ne_new n hq e
    · rcases List.mem_cons.mp hq with rfl | h'
      · exact ⟨h, S.g.no n, r⟩
      · exact S1.o.2 q h'
theorem Sta.sm (S : Sta W R0 B R H L) (s : Same H H1) : Sta W R0 B R H1 L := S.step (W' := []) (Gw.of_same S.sub' s) fun _ h => nomatch h
theorem Sta.nR (S : Sta W R0 B R H L) (n : H p = none) : R p = none := S.g.noR n
/-- one more tuple of data behind those so far, in the region -/
theorem Sta.row (S : Sta W R0 B R H L) (n : H p = none) (as : DpAll K R vs es) (a : DpAll K R xs ds) : DpAll K (upd R p (.tup xs)) (vs ++ [.ref p]) (es ++ [.tuple ds]) :=
  (as.up (same_new (S.nR n) _)).snoc (dp_tupN (S.nR n) a)
theorem Sta.row0 (S : Sta W R0 B R H L) (n : H p = none) (a : DpAll K R xs ds) : DpAll K (upd R p (.tup xs)) [.ref p] [.tuple ds] := S.row n .nil a
theorem Sta.upR (S : Sta W R0 B R H L) (n : H p = none) (o : HO) (as : DpAll K R vs es) : DpAll K (upd R p o) vs es := as.up (same_new (S.nR n) _)
end
theorem dpAll_rep {K : PySem.W.Frag} {H : Hp} {xs : List V} {ds : List PyData} (h : DpAll K H xs ds) : ∀ n : Nat, DpAll K H (List.replicate n xs).flatten (List.replicate n ds).flatten
  | 0 => .nil
  | n + 1 => by
    rw [List.replicate_succ, List.replicate_succ, List.flatten_cons, List.flatten_cons]
    exact h.app (dpAll_rep h n)
end U

/-! MM: the machine as a function of plain Lean (own work). -/
namespace MM
open PySem L2 U
inductive Op4 where
  | add | sub | less | share
  deriving DecidableEq
@[reducible] def Op4.word : Op4 → Str
  | .add => "add"
  | .sub => "sub"
  | .less => "less"
  | .share => "share"
def reck : Op4 → Int → Int → Option Int
  | .add, a, b => some (a + b)
  | .sub, a, b => some (a - b)
  | .less, a, b => some (if a < b then 1 else 0)
  | .share, a, b => if b = 0 then none else some (a.fdiv b)
inductive Rw where
  | put (n : Int) | get (k : Int) | set (k : Int) | say | rek (o : Op4) | go (p : Int) | nought (p : Int) | on (k : Int) | turn | call (f : Int) | back | raise
  deriving DecidableEq
def Rw.enc : Rw → PyData
  | .put n => .tuple [.str "put", .int n]
  | .get n => .tuple [.str "get", .int n]
  | .set n => .tuple [.str "set", .int n]
  | .say => .tuple [.str "say"]
  | .rek o => .tuple [.str o.word]
  | .go n => .tuple [.str "go", .int n]
  | .nought n => .tuple [.str "nought", .int n]
  | .on n => .tuple [.str "on", .int n]
  | .turn => .tuple [.str "turn"]
  | .call n => .tuple [.str "call", .int n]
  | .back => .tuple [.str "back"]
  | .raise => .tuple [.str "raise"]
abbrev St3 := Int × Int × Int
def enc3 (t : St3) : PyData := .tuple [.int t.1, .int t.2.1, .int t.2.2]
structure Cd where
  rows : List Rw
  str : List St3
  begins : List Int
  boxes : Int
def Cd.enc (C : Cd) : PyData := .tuple [.list (C.rows.map Rw.enc), .list (C.str.map enc3), .list (C.begins.map .int), .int C.boxes]
theorem Rw.enc_ok (r : Rw) : r.enc.canLay0 = true ∧ r.enc.depth ≤ 1 := by
  cases r with
  | rek o => cases o <;> exact ⟨by decide +kernel, by decide +kernel⟩
  | put n => exact ⟨by simp only [Rw.enc, PyData.canLay0, PyData.canLayAll0]; decide +kernel, by simp [Rw.enc, PyData.depth, PyData.depthAll]⟩
  | get n => exact ⟨by simp only [Rw.enc, PyData.canLay0, PyData.canLayAll0]; decide +kernel, by simp [Rw.enc, PyData.depth, PyData.depthAll]⟩
  | set n => exact ⟨by simp only [Rw.enc, PyData.canLay0, PyData.canLayAll0]; decide +kernel, by simp [Rw.enc, PyData.depth, PyData.depthAll]⟩
  | go n => exact ⟨by simp only [Rw.enc, PyData.canLay0, PyData.canLayAll0]; decide +kernel, by simp [Rw.enc, PyData.depth, PyData.depthAll]⟩
  | nought n => exact ⟨by simp only [Rw.enc, PyData.canLay0, PyData.canLayAll0]; decide +kernel, by simp [Rw.enc, PyData.depth, PyData.depthAll]⟩
  | on n => exact ⟨by simp only [Rw.enc, PyData.canLay0, PyData.canLayAll0]; decide +kernel, by simp [Rw.enc, PyData.depth, PyData.depthAll]⟩
  | call n => exact ⟨by simp only [Rw.enc, PyData.canLay0, PyData.canLayAll0]; decide +kernel, by simp [Rw.enc, PyData.depth, PyData.depthAll]⟩
  | say => exact ⟨by decide +kernel, by decide +kernel⟩
  | turn => exact ⟨by decide +kernel, by decide +kernel⟩
  | back => exact ⟨by decide +kernel, by decide +kernel⟩
  | raise => exact ⟨by decide +kernel, by decide +kernel⟩
theorem rows_shaped (l : List Rw) : SeqAt.shaped (.list (l.map Rw.enc)) = true := shaped_list (n := 1) (fun d hd => by
  obtain ⟨r, _, rfl⟩ := List.mem_map.mp hd
  exact r.enc_ok) (by decide)
theorem str_shaped (l : List St3) : SeqAt.shaped (.list (l.map enc3)) = true := shaped_list (n := 1) (fun d hd => by
  obtain ⟨r, _, rfl⟩ := List.mem_map.mp hd
  exact ⟨rfl, Nat.le_refl 1⟩) (by decide)
theorem ints_shaped (l : List Int) : SeqAt.shaped (.list (l.map PyData.int)) = true := shaped_list (n := 0) (fun d hd => by
  obtain ⟨r, _, rfl⟩ := List.mem_map.mp hd
  exact ⟨rfl, Nat.le_refl 0⟩) (by decide)
structure Fr where
  place : Int
  boxes : List Int
  pile : List Int
inductive Ou where
  | answer (n : Int) | fault (n : Int) | tired
@[reducible] def Ou.word : Ou → Str
  | .answer _ => "answer"
  | .fault _ => "fault"
  | .tired => "tired"
@[reducible] def Ou.num : Ou → Int
  | .answer n => n
  | .fault n => n
  | .tired => 0
structure MS where
  turns : Int
  fs : List Fr
  said : List Int
  out : Option Ou
@[reducible] def optV : Option Int → V
  | none => .non
  | some i => .int i
def outEnc (said : List Int) (o : Ou) : PyData := .tuple [.list (said.map .int), .str o.word, .int o.num]
/-- the goal of the first stretch that holds a place -/
def goal (place : Int) : List St3 → Option Int
  | [] => none
  | t :: r => if t.1 ≤ place ∧ place < t.2.1 then some t.2.2 else goal place r
theorem goal_cons {place : Int} {t : St3} {r : List St3} : goal place (t :: r) = if t.1 ≤ place ∧ place < t.2.1 then some t.2.2 else goal place r := rfl
/-- a fault: the functions that stand then, and the outcome, if any -/
def fault (S : List St3) (n : Int) : List Fr → List Fr × Option Ou
  | [] => ([], some (.fault n))
  | f :: r => match goal (f.place - 1) S with
    | some g => ({ f with place := g, pile := [n] } :: r, none)
    | none => fault S n r
def MS.faulted (s : MS) (S : List St3) (n : Int) : MS := { s with fs := (fault S n s.fs).1, out := (fault S n s.fs).2 }
def newFr (C : Cd) (b n : Int) : Fr := ⟨b, n :: List.replicate (C.boxes - 1).toNat 0, []⟩
/-- a function is entered -/
def enter (C : Cd) (f n : Int) (s : MS) : Option MS :=
  if s.fs.length = 8 then some (s.faulted C.str 102)
  else match atI C.begins f with
    | some b => some { s with fs := newFr C b n :: s.fs }
    | none => none
/-- a row is done; the place of the uppermost function is already the next one -/
def act (C : Cd) (s : MS) : Rw → Option MS := fun r => match s.fs with
  | [] => none
  | f :: fs => match r with
    | .put n => some { s with fs := { f with pile := n :: f.pile } :: fs }
    | .get k => match atI f.boxes k with
      | some n => some { s with fs := { f with pile := n :: f.pile } :: fs }
      | none => none
    | .set k => match f.pile, ixN f.boxes.length k with
      | n :: p, some j => some { s with fs := { f with pile := p, boxes := f.boxes.set j n } :: fs }
      | _, _ => none
    | .say => match f.pile with
      | n :: p => some { s with fs := { f with pile := p } :: fs, said := s.said ++ [n] }
      | _ => none
    | .rek o => match f.pile with
      | b :: a :: p => match reck o a b with
        | some n => some { s with fs := { f with pile := n :: p } :: fs }
        | none => some ({ s with fs := { f with pile := p } :: fs }.faulted C.str 101)
      | _ => none
    | .go p => some { s with fs := { f with place := p } :: fs }
    | .nought q => match f.pile with
      | n :: p => some { s with fs := { f with pile := p, place := if n = 0 then q else f.place } :: fs }
      | _ => none
    | .on k => match atI f.boxes k with
      | some n => some { s with fs := { f with place := n } :: fs }
      | none => none
    | .turn => if s.turns < 1 then some { s with out := some .tired } else some { s with turns := s.turns - 1 }
    | .call g => match f.pile with
      | n :: p => if s.turns < 1 then some { s with fs := { f with pile := p } :: fs, out := some .tired } else enter C g n { s with fs := { f with pile := p } :: fs, turns := s.turns - 1 }
      | _ => none
    | .back => match f.pile with
      | n :: _ => match fs with
        | [] => some { s with fs := [], out := some (.answer n) }
        | g :: gs => some { s with fs := { g with pile := n :: g.pile } :: gs }
      | _ => none
    | .raise => match f.pile with
      | n :: p => some ({ s with fs := { f with pile := p } :: fs }.faulted C.str n)
      | _ => none
def step (C : Cd) (s : MS) : Option MS := match s.fs with
  | [] => none
  | f :: fs => match atI C.rows f.place with
    | some r => act C { s with fs := { f with place := f.place + 1 } :: fs } r
    | none => none
/-- n steps, each ahead of an outcome -/
def runs (C : Cd) : Nat → MS → Option MS
  | 0, s => some s
  | n + 1, s => match s.out with
    | some _ => none
    | none => (step C s).bind (runs C n)
def init (C : Cd) (number turns : Int) : Option MS := enter C 0 number ⟨turns, [], [], none⟩
/-! ### piles and what was said stay small -/
def Small (b : Nat) (s : MS) : Prop := s.said.length ≤ b ∧ ∀ f ∈ s.fs, f.pile.length ≤ b
theorem Small.mono {b c : Nat} {s : MS} (h : Small b s) (l : b ≤ c) : Small c s := ⟨Nat.le_trans h.1 l, fun f hf => Nat.le_trans (h.2 f hf) l⟩
theorem fault_small {S : List St3} {n : Int} {b : Nat} : ∀ {l : List Fr}, (∀ f ∈ l, f.pile.length ≤ b + 1) → ∀ f ∈ (fault S n l).1, f.pile.length ≤ b + 1
  | [], _, f, h => by cases h
  | g :: r, hl, f, h => by
    unfold fault at h
    split at h
    · rcases List.mem_cons.mp h with rfl | h
      · simp
      · exact hl f (List.mem_cons_of_mem _ h)
    · exact fault_small (fun f hf => hl f (List.mem_cons_of_mem _ hf)) f h
theorem faulted_small {S : List St3} {n : Int} {b : Nat} {s : MS} (h : Small (b + 1) s) : Small (b + 1) (s.faulted S n) := ⟨h.1, fun f hf => fault_small h.2 f hf⟩
theorem small_top {b : Nat} {s : MS} {f g : Fr} {fs : List Fr} (h : Small b s) (e : s.fs = f :: fs) (l : g.pile.length ≤ b + 1) {t : Int} {sd : List Int} {o : Option Ou} (ls : sd.length ≤ b + 1) : Small (b + 1) ⟨t, g :: fs, sd, o⟩ :=
  ⟨ls, fun x hx => by
    rcases List.mem_cons.mp hx with rfl | hx
    · exact l
    · exact Nat.le_succ_of_le (h.2 x (by rw [e]; exact List.mem_cons_of_mem _ hx))⟩
theorem enter_small {C : Cd} {f n : Int} {b : Nat} {s s' : MS} (h : Small (b + 1) s) (e : enter C f n s = some s') : Small (b + 1) s' := by
  unfold enter at e
  split at e
  · cases e
    exact faulted_small h
  · split at e
    · cases e
      refine ⟨h.1, fun x hx => ?_⟩
      rcases List.mem_cons.mp hx with rfl | hx
      · simp [newFr]
      · exact h.2 x hx
    · cases e
theorem act_small {C : Cd} {b : Nat} {s s' : MS} {r : Rw} (h : Small b s) (e : act C s r = some s') : Small (b + 1) s' := by
  unfold act at e
  split at e
  · cases e
  · rename_i f fs ef
    have hf : f.pile.length ≤ b := h.2 f (by rw [ef]; exact List.mem_cons_self ..)
    have ls : s.said.length ≤ b + 1 := Nat.le_succ_of_le h.1
    cases r with
    | put n => cases e; exact small_top h ef (by simpa using hf) ls
    | get k =>
      simp only at e
      split at e
      · cases e; exact small_top h ef (by simpa using hf) ls
      · cases e
    | set k =>
      simp only at e
      split at e
      · rename_i n p j ep ej
        cases e
        exact small_top h ef (by rw [ep] at hf; simp at hf ⊢; omega) ls
      · cases e
    | say =>
      simp only at e
      split at e
      · rename_i n p ep
        cases e
        exact small_top h ef (by rw [ep] at hf; simp at hf ⊢; omega) (by have := h.1; simp; omega)
      · cases e
    | rek o =>
      simp only at e
      split at e
      · rename_i n m p ep
        rw [ep] at hf
        simp at hf
        split at e
        · cases e
          exact small_top h ef (by simp; omega) ls
        · cases e
          exact faulted_small (small_top h ef (by simp; omega) ls)
      · cases e
    | go p => cases e; exact small_top h ef (by simpa using Nat.le_succ_of_le hf) ls
    | nought q =>
      simp only at e
      split at e
      · rename_i n p ep
        cases e
        exact small_top h ef (by rw [ep] at hf; simp at hf ⊢; omega) ls
      · cases e
    | on k =>
      simp only at e
      split at e
      · cases e; exact small_top h ef (by simpa using Nat.le_succ_of_le hf) ls
      · cases e
    | turn =>
      simp only at e
      split at e
      · cases e; exact ⟨ls, fun x hx => Nat.le_succ_of_le (h.2 x hx)⟩
      · cases e; exact ⟨ls, fun x hx => Nat.le_succ_of_le (h.2 x hx)⟩
    | call g =>
      simp only at e
      split at e
      · rename_i n p ep
        rw [ep] at hf
        simp at hf
        split at e
        · cases e
          exact small_top h ef (by simp; omega) ls
        · exact enter_small (small_top h ef (by simp; omega) ls) e
      · cases e
    | back =>
      simp only at e
      split at e
      · rename_i n p ep
        split at e
        · cases e
          exact ⟨ls, fun x hx => by cases hx⟩
        · rename_i g gs
          cases e
          have hg : g.pile.length ≤ b := h.2 g (by rw [ef]; simp)
          refine ⟨ls, fun x hx => ?_⟩
          rcases List.mem_cons.mp hx with rfl | hx
          · simpa using hg
          · exact Nat.le_succ_of_le (h.2 x (by rw [ef]; simp [hx]))
      · cases e
    | raise =>
      simp only at e
      split at e
      · rename_i n p ep
        rw [ep] at hf
        simp at hf
        cases e
        exact faulted_small (small_top h ef (by simp; omega) ls)
      · cases e
theorem step_small {C : Cd} {b : Nat} {s s' : MS} (h : Small b s) (e : step C s = some s') : Small (b + 1) s' := by
  unfold step at e
  split at e
  · cases e
  · rename_i f fs ef
    split at e
    · refine act_small (s := { s with fs := { f with place := f.place + 1 } :: fs }) ⟨h.1, fun x hx => ?_⟩ e
      rcases List.mem_cons.mp hx with rfl | hx
      · exact h.2 f (by rw [ef]; exact List.mem_cons_self ..)
      · exact h.2 x (by rw [ef]; exact List.mem_cons_of_mem _ hx)
    · cases e
theorem runs_succ {C : Cd} {n : Nat} {s s' : MS} (h : runs C (n + 1) s = some s') : s.out = none ∧ ∃ t, step C s = some t ∧ runs C n t = some s' := by
  unfold runs at h
  split at h
  · cases h
  · rename_i e
    obtain ⟨t, h1, h2⟩ := Option.bind_eq_some_iff.mp h
    exact ⟨e, t, h1, h2⟩
theorem runs_of {C : Cd} {n : Nat} {s t s' : MS} (e : s.out = none) (h1 : step C s = some t) (h2 : runs C n t = some s') : runs C (n + 1) s = some s' := by
  unfold runs
  rw [e]
  show (step C s).bind (runs C n) = some s'
  rw [h1]
  exact h2
theorem runs_add {C : Cd} : ∀ {m n : Nat} {s t s' : MS}, runs C m s = some t → runs C n t = some s' → runs C (m + n) s = some s'
  | 0, n, s, t, s', h1, h2 => by
    have e : s = t := Option.some.inj h1
    rw [e, Nat.zero_add]
    exact h2
  | m + 1, n, s, t, s', h1, h2 => by
    obtain ⟨e, u, hu, h3⟩ := runs_succ h1
    rw [Nat.add_right_comm]
    exact runs_of e hu (runs_add h3 h2)
theorem fault_len {S : List St3} {n : Int} : ∀ {l : List Fr}, (fault S n l).1.length ≤ l.length
  | [] => Nat.le_refl _
  | g :: r => by
    unfold fault
    split
    · exact Nat.le_refl _
    · exact Nat.le_succ_of_le fault_len
theorem enter_len {C : Cd} {f n : Int} {s s' : MS} (h : s.fs.length ≤ 8) (e : enter C f n s = some s') : s'.fs.length ≤ 8 := by
  unfold enter at e
  split at e
  · cases e
    exact Nat.le_trans fault_len h
  · split at e
    · cases e
      show s.fs.length + 1 ≤ 8
      omega
    · cases e
theorem act_len {C : Cd} {s s' : MS} {r : Rw} (h : s.fs.length ≤ 8) (e : act C s r = some s') : s'.fs.length ≤ 8 := by
  unfold act at e
  split at e
  · cases e
  · rename_i f fs ef
    rw [ef] at h
    cases r with
    | put n => cases e; exact h
    | get k => simp only at e; split at e <;> first | (cases e; exact h) | cases e
    | set k => simp only at e; split at e <;> first | (cases e; exact h) | cases e
    | say => simp only at e; split at e <;> first | (cases e; exact h) | cases e
    | rek o =>
      simp only at e
      split at e
      · split at e
        · cases e; exact h
        · cases e; exact Nat.le_trans fault_len h
      · cases e
    | go p => cases e; exact h
    | nought q => simp only at e; split at e <;> first | (cases e; exact h) | cases e
    | on k => simp only at e; split at e <;> first | (cases e; exact h) | cases e
    | turn => simp only at e; split at e <;> (cases e; rw [ef]; exact h)
    | call g =>
      simp only at e
      split at e
      · split at e
        · cases e; exact h
        · exact enter_len (by exact h) e
      · cases e
    | back =>
      simp only at e
      split at e
      · split at e
        · cases e; exact Nat.zero_le _
        · cases e
          simp at h ⊢
          omega
      · cases e
    | raise =>
      simp only at e
      split at e
      · cases e; exact Nat.le_trans fault_len h
      · cases e
theorem step_len {C : Cd} {s s' : MS} (h : s.fs.length ≤ 8) (e : step C s = some s') : s'.fs.length ≤ 8 := by
  unfold step at e
  split at e
  · cases e
  · rename_i f fs ef
    rw [ef] at h
    split at e
    · exact act_len (s := { s with fs := { f with place := f.place + 1 } :: fs }) h e
    · cases e
end MM

/-! K04a: k04's code, and what the machine does with it (own work). -/
namespace K04
open PySem L2 U MM
/-- within N steps -/
def Rn (C : Cd) (N : Nat) (s s' : MS) : Prop := ∃ n, n ≤ N ∧ runs C n s = some s'
theorem Rn.zero {C : Cd} {s : MS} : Rn C 0 s s := ⟨0, Nat.le_refl _, rfl⟩
theorem Rn.step {C : Cd} {N : Nat} {s t s' : MS} (e : s.out = none) (h : MM.step C s = some t) (r : Rn C N t s') : Rn C (N + 1) s s' := by
  obtain ⟨n, l, h1⟩ := r
  exact ⟨n + 1, by omega, runs_of e h h1⟩
theorem Rn.mono {C : Cd} {N M : Nat} {s s' : MS} (r : Rn C N s s') (h : N ≤ M) : Rn C M s s' := by
  obtain ⟨n, l, h1⟩ := r
  exact ⟨n, by omega, h1⟩
section
variable {C : Cd} {t p : Int} {b q sd : List Int} {fs : List MM.Fr}
abbrev mkf (t p : Int) (b q : List Int) (fs : List MM.Fr) (sd : List Int) : MS := ⟨t, ⟨p, b, q⟩ :: fs, sd, none⟩
theorem s_put {n : Int} (h : atI C.rows p = some (.put n)) : MM.step C (mkf t p b q fs sd) = some (mkf t (p + 1) b (n :: q) fs sd) := by
  unfold MM.step; dsimp only; rw [h]; rfl
theorem s_get0 {n : Int} {b : List Int} (h : atI C.rows p = some (.get 0)) : MM.step C (mkf t p (n :: b) q fs sd) = some (mkf t (p + 1) (n :: b) (n :: q) fs sd) := by
  unfold MM.step; dsimp only; rw [h]; dsimp only [act]; rw [show atI (n :: b) 0 = some n from atI_nat (j := 0) rfl]
theorem s_say {n : Int} (h : atI C.rows p = some .say) : MM.step C (mkf t p b (n :: q) fs sd) = some (mkf t (p + 1) b q fs (sd ++ [n])) := by
  unfold MM.step; dsimp only; rw [h]; rfl
theorem s_add {n m : Int} (h : atI C.rows p = some (.rek .add)) : MM.step C (mkf t p b (n :: m :: q) fs sd) = some (mkf t (p + 1) b ((m + n) :: q) fs sd) := by
  unfold MM.step; dsimp only; rw [h]; rfl
theorem s_back0 {n : Int} (h : atI C.rows p = some .back) : MM.step C (mkf t p b (n :: q) [] sd) = some ⟨t, [], sd, some (.answer n)⟩ := by
  unfold MM.step; dsimp only; rw [h]; rfl
theorem s_back1 {n : Int} {g : MM.Fr} (h : atI C.rows p = some .back) : MM.step C (mkf t p b (n :: q) (g :: fs) sd) = some ⟨t, { g with pile := n :: g.pile } :: fs, sd, none⟩ := by
  unfold MM.step; dsimp only; rw [h]; rfl
theorem s_raise {n : Int} (h : atI C.rows p = some .raise) : MM.step C (mkf t p b (n :: q) fs sd) = some (MS.faulted ⟨t, ⟨p + 1, b, q⟩ :: fs, sd, none⟩ C.str n) := by
  unfold MM.step; dsimp only; rw [h]; rfl
theorem s_callT {g n : Int} (h : atI C.rows p = some (.call g)) (ht : t < 1) : MM.step C (mkf t p b (n :: q) fs sd) = some ⟨t, ⟨p + 1, b, q⟩ :: fs, sd, some .tired⟩ := by
  unfold MM.step; dsimp only; rw [h]; dsimp only [act]; rw [if_pos ht]
theorem s_callF {g n : Int} (h : atI C.rows p = some (.call g)) (ht : ¬ t < 1) (h8 : fs.length = 7) : MM.step C (mkf t p b (n :: q) fs sd) = some (MS.faulted ⟨t - 1, ⟨p + 1, b, q⟩ :: fs, sd, none⟩ C.str 102) := by
  unfold MM.step; dsimp only; rw [h]; dsimp only [act]; rw [if_neg ht]; unfold enter; rw [if_pos (by show fs.length + 1 = 8; omega)]
theorem s_callE {g n z : Int} (h : atI C.rows p = some (.call g)) (ht : ¬ t < 1) (h8 : fs.length < 7) (hz : atI C.begins g = some z) : MM.step C (mkf t p b (n :: q) fs sd) = some ⟨t - 1, newFr C z n :: ⟨p + 1, b, q⟩ :: fs, sd, none⟩ := by
  unfold MM.step; dsimp only; rw [h]; dsimp only [act]; rw [if_neg ht]; unfold enter; rw [if_neg (by show ¬ fs.length + 1 = 8; omega), hz]
end
/-- what is known of the code: the functions' places, what stands there, which goals hold -/
structure CF (C : Cd) (many : Nat) (z : Nat) (raises : Bool) (wide : Int) (marks : Nat → Bool) (more : Nat → Int) (st : Nat → Int) (L : Int) : Prop where
  boxes : C.boxes = 1
  beg : ∀ k : Nat, k < many → atI C.begins (k : Int) = some (st k)
  r0 : ∀ k : Nat, k + 1 < many → atI C.rows (st k) = some (.put (more k))
  r1 : ∀ k : Nat, k + 1 < many → atI C.rows (st k + 1) = some (.get 0)
  r2 : ∀ k : Nat, k + 1 < many → atI C.rows (st k + 1 + 1) = some (.call ((k + 1 : Nat) : Int))
  r3 : ∀ k : Nat, k + 1 < many → atI C.rows (st k + 3) = some (.rek .add)
  r4 : ∀ k : Nat, k + 1 < many → atI C.rows (st k + 3 + 1) = some .back
  r5 : ∀ k : Nat, k + 1 < many → atI C.rows (st k + 5) = some .say
  r6 : ∀ k : Nat, k + 1 < many → atI C.rows (st k + 5 + 1) = some (.put (50 + (k : Int)))
  r7 : ∀ k : Nat, k + 1 < many → atI C.rows (st k + 5 + 1 + 1) = some .back
  l0 : ∀ j : Nat, j < z → atI C.rows (st (many - 1) + j) = some (.put 9)
  l1 : atI C.rows (st (many - 1) + z) = some (.get 0)
  l2 : atI C.rows (st (many - 1) + z + 1) = some (if raises then .raise else .back)
  w0 : atI C.rows L = some .say
  w1 : atI C.rows (L + 1) = some (.put 40)
  w2 : atI C.rows (L + 1 + 1) = some .back
  g : ∀ k : Nat, k + 1 < many → goal (st k + 2) C.str = if wide = 1 then some L else if marks k = true then some (st k + 5) else if wide = 2 then some L else none
  gl : goal (st (many - 1) + z + 1) C.str = if wide = 1 ∨ wide = 2 then some L else none
/-- the functions that wait -/
def low (st : Nat → Int) (more : Nat → Int) (n : Int) : Nat → List MM.Fr
  | 0 => []
  | d + 1 => ⟨st d + 3, [n], [more d]⟩ :: low st more n d
theorem low_len {st more : Nat → Int} {n : Int} : ∀ d, (low st more n d).length = d
  | 0 => rfl
  | d + 1 => congrArg (· + 1) (low_len d)
/-- the sum of what the first d put -/
def sm (more : Nat → Int) : Nat → Int
  | 0 => 0
  | d + 1 => sm more d + more d
/-- the innermost one with a mark, below d -/
def inner (marks : Nat → Bool) : Nat → Option Nat
  | 0 => none
  | d + 1 => if marks d = true then some d else inner marks d
section
variable {C : Cd} {many z : Nat} {raises : Bool} {wide : Int} {marks : Nat → Bool} {more st : Nat → Int} {L n : Int}
/-- back, and all the adds -/
theorem up (F : CF C many z raises wide marks more st L) {t : Int} {sd : List Int} : ∀ (d : Nat) (p x : Int) (b q : List Int), d < many → atI C.rows p = some .back →
    Rn C (2 * d + 1) (mkf t p b (x :: q) (low st more n d) sd) ⟨t, [], sd, some (.answer (x + sm more d))⟩
  | 0, p, x, b, q, _, h => by
    refine Rn.step rfl (s_back0 h) ?_
    rw [show x + sm more 0 = x from Int.add_zero x]
    exact Rn.zero
  | d + 1, p, x, b, q, hd, h => by
    refine (Rn.step rfl (s_back1 h) (Rn.step rfl (s_add (F.r3 d hd)) ?_)).mono (N := 2 * d + 1 + 1 + 1) (by omega)
    have z := up F (t := t) (sd := sd) d (st d + 3 + 1) (more d + x) [n] [] (by omega) (F.r4 d hd)
    rw [show more d + x + sm more d = x + sm more (d + 1) by show _ = x + (sm more d + more d); omega] at z
    exact z
/-- a goal that says the fault -/
theorem said1 (F : CF C many z raises wide marks more st L) {t x : Int} {b : List Int} {d : Nat} (hd : d + 1 < many) : Rn C (2 * d + 3) (mkf t (st d + 5) b [x] (low st more n d) []) ⟨t, [], [x], some (.answer (50 + (d : Int) + sm more d))⟩ :=
  Rn.step rfl (s_say (F.r5 d hd)) (Rn.step rfl (s_put (F.r6 d hd)) (up F d _ _ _ _ (by omega) (F.r7 d hd)))
theorem saidL (F : CF C many z raises wide marks more st L) {t x : Int} {b : List Int} {d : Nat} (hd : d < many) : Rn C (2 * d + 3) (mkf t L b [x] (low st more n d) []) ⟨t, [], [x], some (.answer (40 + sm more d))⟩ :=
  Rn.step rfl (s_say F.w0) (Rn.step rfl (s_put F.w1) (up F d _ _ _ _ hd F.w2))
/-- what becomes of a fault in the end -/
def Out (more : Nat → Int) (x : Int) : Option Nat → List Int × Ou
  | some k => ([x], .answer (50 + (k : Int) + sm more k))
  | none => ([], .fault x)
theorem fc {S : List St3} {n : Int} {f : MM.Fr} {r : List MM.Fr} : MM.fault S n (f :: r) = (match goal (f.place - 1) S with | some g => ({ f with place := g, pile := [n] } :: r, none) | none => MM.fault S n r) := rfl
theorem fault_low (F : CF C many z raises 0 marks more st L) {x : Int} : ∀ d : Nat, d < many → MM.fault C.str x (low st more n d) = match inner marks d with
    | some k => (⟨st k + 5, [n], [x]⟩ :: low st more n k, none)
    | none => ([], some (.fault x))
  | 0, _ => rfl
  | d + 1, hd => by
    show MM.fault C.str x (⟨st d + 3, [n], [more d]⟩ :: low st more n d) = match (if marks d = true then some d else inner marks d) with
      | some k => (⟨st k + 5, [n], [x]⟩ :: low st more n k, none)
      | none => ([], some (.fault x))
    rw [fc]
    dsimp only
    rw [show st d + 3 - 1 = st d + 2 by omega, F.g d hd, if_neg (by decide), if_neg (show ¬ (0 : Int) = 2 by decide)]
    by_cases h : marks d = true
    · rw [if_pos h, if_pos h]
    · rw [if_neg h, if_neg h]
      exact fault_low F d (by omega)
theorem inner_lt {marks : Nat → Bool} : ∀ {d k : Nat}, inner marks d = some k → k < d
  | d + 1, k, h => by
    unfold inner at h
    split at h
    · cases h; exact Nat.lt_succ_self _
    · exact Nat.lt_succ_of_lt (inner_lt h)
/-- a fault goes out of the functions that wait -/
theorem out_low (F : CF C many z raises 0 marks more st L) {t x : Int} (d : Nat) (hd : d < many) : ∃ s, Rn C (2 * d + 3) ⟨t, (MM.fault C.str x (low st more n d)).1, [], (MM.fault C.str x (low st more n d)).2⟩ s ∧ s.out = some (Out more x (inner marks d)).2 ∧ s.said = (Out more x (inner marks d)).1 := by
  rw [fault_low F d hd]
  cases h : inner marks d with
  | none => exact ⟨_, Rn.zero.mono (by omega), rfl, rfl⟩
  | some k =>
    have hk := inner_lt h
    exact ⟨_, (said1 F (by omega)).mono (by omega), rfl, rfl⟩
/-- what it comes to -/
def due (many : Nat) (marks : Nat → Bool) (raises : Bool) (n wide : Int) (more : Nat → Int) : List Int × Ou :=
  if many ≤ 8 ∧ raises = false then ([], .answer (n + sm more (many - 1)))
  else if wide = 1 ∨ wide = 2 then ([if many > 8 then 102 else n], .answer ((if many > 8 ∧ marks 7 = true ∧ wide = 2 then 57 else 40) + sm more (min many 8 - 1)))
  else Out more (if many > 8 then 102 else n) (inner marks (min (many - 1) 8))
/-- the last function -/
theorem last (F : CF C many z raises wide marks more st L) (hw : wide = 0 ∨ wide = 1 ∨ wide = 2) (hm : 1 ≤ many) (h8 : many ≤ 8) {t : Int} : ∃ s, Rn C (z + 2 * many + 10) (mkf t (st (many - 1)) [n] [] (low st more n (many - 1)) []) s ∧ s.out = some (due many marks raises n wide more).2 ∧ s.said = (due many marks raises n wide more).1 := by
  have puts : ∀ (r i : Nat) (q : List Int) (s : MS) (N : Nat), i + r = z → (∀ q, Rn C N (mkf t (st (many - 1) + z) [n] q (low st more n (many - 1)) []) s) → Rn C (r + N) (mkf t (st (many - 1) + i) [n] q (low st more n (many - 1)) []) s := by
    intro r
    induction r with
    | zero => intro i q s N e h; rw [show i = z by omega]; exact (h q).mono (by omega)
    | succ r ih =>
      intro i q s N e h
      have y := ih (i + 1) (9 :: q) s N (by omega) h
      rw [show st (many - 1) + ((i + 1 : Nat) : Int) = st (many - 1) + i + 1 by omega] at y
      exact (Rn.step rfl (s_put (F.l0 i (by omega))) y).mono (by omega)
  have fin : ∀ s N, (∀ q, Rn C N (mkf t (st (many - 1) + z) [n] q (low st more n (many - 1)) []) s) → Rn C (z + N) (mkf t (st (many - 1)) [n] [] (low st more n (many - 1)) []) s := fun s N h => by
    have y := puts z 0 [] s N (by omega) h
    rwa [show st (many - 1) + ((0 : Nat) : Int) = st (many - 1) by omega] at y
  have hl2 := F.l2
  unfold due
  cases raises with
  | false =>
    rw [if_pos ⟨h8, rfl⟩]
    exact ⟨_, (fin _ (2 * (many - 1) + 1 + 1) fun q => Rn.step rfl (s_get0 F.l1) (up F (many - 1) _ _ _ _ (by omega) hl2)).mono (by omega), rfl, rfl⟩
  | true =>
    rw [if_neg (fun h => by cases h.2), if_neg (show ¬ many > 8 by omega)]
    have hx : ∀ q, MM.step C (mkf t (st (many - 1) + z + 1) [n] (n :: q) (low st more n (many - 1)) []) = some (MS.faulted ⟨t, ⟨st (many - 1) + z + 1 + 1, [n], q⟩ :: low st more n (many - 1), [], none⟩ C.str n) := fun q => s_raise hl2
    have hg := F.gl
    by_cases w : wide = 1 ∨ wide = 2
    · rw [if_pos w] at hg ⊢
      rw [if_neg (show ¬ (many > 8 ∧ marks 7 = true ∧ wide = 2) from fun h => by omega), show min many 8 - 1 = many - 1 by omega]
      refine ⟨⟨t, [], [n], some (.answer (40 + sm more (many - 1)))⟩, (fin _ (2 * (many - 1) + 3 + 1 + 1) fun q => Rn.step rfl (s_get0 F.l1) (Rn.step rfl (hx q) ?_)).mono (by omega), rfl, rfl⟩
      unfold MS.faulted MM.fault
      dsimp only
      rw [show st (many - 1) + z + 1 + 1 - 1 = st (many - 1) + z + 1 by omega, hg]
      exact saidL F (by omega)
    · rw [if_neg w] at hg ⊢
      have w0 : wide = 0 := by omega
      subst w0
      obtain ⟨s, h1, h2, h3⟩ := out_low (n := n) F (t := t) (x := n) (many - 1) (by omega)
      refine ⟨s, (fin _ (2 * (many - 1) + 3 + 1 + 1) fun q => Rn.step rfl (s_get0 F.l1) (Rn.step rfl (hx q) ?_)).mono (by omega), ?_, ?_⟩
      · unfold MS.faulted MM.fault
        dsimp only
        rw [show st (many - 1) + z + 1 + 1 - 1 = st (many - 1) + z + 1 by omega, hg]
        exact h1
      · rw [show min (many - 1) 8 = many - 1 by omega]; exact h2
      · rw [show min (many - 1) 8 = many - 1 by omega]; exact h3
/-- the ninth one -/
theorem ninth (F : CF C many z raises wide marks more st L) (hw : wide = 0 ∨ wide = 1 ∨ wide = 2) (h8 : 8 < many) {t : Int} : ∃ s, Rn C 30 (MS.faulted ⟨t, ⟨st 7 + 1 + 1 + 1, [n], [more 7]⟩ :: low st more n 7, [], none⟩ C.str 102) s ∧ s.out = some (due many marks raises n wide more).2 ∧ s.said = (due many marks raises n wide more).1 := by
  unfold due
  rw [if_neg (show ¬ (many ≤ 8 ∧ raises = false) from fun h => by omega), if_pos (show many > 8 from h8)]
  have hg := F.g 7 (by omega)
  by_cases w : wide = 1 ∨ wide = 2
  · rw [if_pos w]
    have e : min many 8 - 1 = 7 := by omega
    rw [e]
    rcases w with w | w
    · rw [if_pos w] at hg
      refine ⟨⟨t, [], [102], some (.answer (40 + sm more 7))⟩, ?_, ?_, rfl⟩
      · unfold MS.faulted MM.fault
        dsimp only
        rw [show st 7 + 1 + 1 + 1 - 1 = st 7 + 2 by omega, hg]
        exact (saidL F (by omega)).mono (by omega)
      · rw [if_neg (show ¬ (many > 8 ∧ marks 7 = true ∧ wide = 2) from fun h => by omega)]
    · rw [if_neg (show ¬ wide = 1 by omega), if_pos w] at hg
      by_cases hm : marks 7 = true
      · rw [if_pos hm] at hg
        refine ⟨⟨t, [], [102], some (.answer (50 + ((7 : Nat) : Int) + sm more 7))⟩, ?_, ?_, rfl⟩
        · unfold MS.faulted MM.fault
          dsimp only
          rw [show st 7 + 1 + 1 + 1 - 1 = st 7 + 2 by omega, hg]
          exact (said1 F (by omega)).mono (by omega)
        · rw [if_pos ⟨h8, hm, w⟩]
          rfl
      · rw [if_neg hm] at hg
        refine ⟨⟨t, [], [102], some (.answer (40 + sm more 7))⟩, ?_, ?_, rfl⟩
        · unfold MS.faulted MM.fault
          dsimp only
          rw [show st 7 + 1 + 1 + 1 - 1 = st 7 + 2 by omega, hg]
          exact (saidL F (by omega)).mono (by omega)
        · rw [if_neg (fun h => hm h.2.1)]
  · rw [if_neg w]
    have w0 : wide = 0 := by omega
    subst w0
    obtain ⟨s, h1, h2, h3⟩ := out_low (n := n) F (t := t) (x := 102) 8 (by omega)
    have e : min (many - 1) 8 = 8 := by omega
    rw [e]
    refine ⟨s, ?_, h2, h3⟩
    have ez : MS.faulted ⟨t, ⟨st 7 + 1 + 1 + 1, [n], [more 7]⟩ :: low st more n 7, [], none⟩ C.str 102 = ⟨t, (MM.fault C.str 102 (low st more n 8)).1, [], (MM.fault C.str 102 (low st more n 8)).2⟩ := by
      unfold MS.faulted
      show MS.mk _ (MM.fault C.str 102 (⟨st 7 + 1 + 1 + 1, [n], [more 7]⟩ :: low st more n 7)).1 _ (MM.fault C.str 102 (⟨st 7 + 1 + 1 + 1, [n], [more 7]⟩ :: low st more n 7)).2 = _
      rw [show st 7 + 1 + 1 + 1 = st 7 + 3 by omega]
      rfl
    rw [ez]
    exact h1.mono (by omega)
/-- the whole, as asked -/
def dueT (turns : Nat) (many : Nat) (marks : Nat → Bool) (raises : Bool) (n wide : Int) (more : Nat → Int) : List Int × Ou := if turns ≥ min many 9 - 1 then due many marks raises n wide more else ([], .tired)
theorem down (F : CF C many z raises wide marks more st L) (hw : wide = 0 ∨ wide = 1 ∨ wide = 2) (hm : 1 ≤ many) (hz : z ≤ 2) (turns : Nat) : ∀ (r d : Nat), d + r = min many 9 - 1 → d ≤ turns → d < 8 →
    ∃ s, Rn C (3 * r + 60) (mkf ((turns : Int) - d) (st d) [n] [] (low st more n d) []) s ∧ s.out = some (dueT turns many marks raises n wide more).2 ∧ s.said = (dueT turns many marks raises n wide more).1 := by
  intro r
  induction r with
  | zero =>
    intro d e hd h8
    have em : many ≤ 8 := by omega
    have ed : d = many - 1 := by omega
    subst ed
    unfold dueT
    rw [if_pos (by omega)]
    obtain ⟨s, h1, h2⟩ := last (n := n) F hw hm em (t := (turns : Int) - ((many - 1 : Nat) : Int))
    exact ⟨s, h1.mono (by omega), h2⟩
  | succ r ih =>
    intro d e hd h8
    have hd1 : d + 1 < many := by omega
    by_cases ht : (turns : Int) - d < 1
    · refine ⟨_, (Rn.step rfl (s_put (F.r0 d hd1)) (Rn.step rfl (s_get0 (F.r1 d hd1)) (Rn.step rfl (s_callT (F.r2 d hd1) ht) Rn.zero))).mono (by omega), ?_, ?_⟩
      · unfold dueT; rw [if_neg (by omega)]
      · unfold dueT; rw [if_neg (by omega)]
    · by_cases h7 : d = 7
      · subst h7
        have h9 : 8 < many := by omega
        obtain ⟨s, h1, h2⟩ := ninth (n := n) F hw h9 (t := (turns : Int) - ((7 : Nat) : Int) - 1)
        refine ⟨s, (Rn.step rfl (s_put (F.r0 7 hd1)) (Rn.step rfl (s_get0 (F.r1 7 hd1)) (Rn.step rfl (s_callF (F.r2 7 hd1) ht (low_len 7)) h1))).mono (by omega), ?_⟩
        unfold dueT
        rw [if_pos (by omega)]
        exact h2
      · obtain ⟨s, h1, h2⟩ := ih (d + 1) (by omega) (by omega) (by omega)
        refine ⟨s, (Rn.step rfl (s_put (F.r0 d hd1)) (Rn.step rfl (s_get0 (F.r1 d hd1)) (Rn.step rfl (s_callE (F.r2 d hd1) ht (by rw [low_len]; omega) (F.beg (d + 1) hd1)) ?_))).mono (N := 3 * r + 60 + 1 + 1 + 1) (by omega), h2⟩
        have en : newFr C (st (d + 1)) n = ⟨st (d + 1), [n], []⟩ := by
          unfold newFr
          rw [F.boxes]
          rfl
        rw [en, show (turns : Int) - d - 1 = (turns : Int) - ((d + 1 : Nat) : Int) by omega, show st d + 1 + 1 + 1 = st d + 3 by omega]
        exact h1
end
end K04

/-! K04b: how k04's code is laid out (own work). -/
namespace K04
open PySem L2 U MM
def blk (many z : Nat) (raises : Bool) (more : Nat → Int) (k : Nat) : List Rw :=
  if k + 1 = many then List.replicate z (.put 9) ++ [.get 0, if raises then .raise else .back] else [.put (more k), .get 0, .call ((k + 1 : Nat) : Int), .rek .add, .back, .say, .put (50 + (k : Int)), .back]
def kO (many rot p : Nat) : Nat := (p + rot) % many
def hd (h : Nat) : List Rw := ([.put 77, .say, .put 78, .back] : List Rw).drop h
structure Ly where
  many : Nat
  z : Nat
  raises : Bool
  more : Nat → Int
  marks : Nat → Bool
  rot : Nat
  h : Nat
def Ly.b (y : Ly) (p : Nat) : List Rw := blk y.many y.z y.raises y.more (kO y.many y.rot p)
def Ly.code (y : Ly) : Nat → List Rw
  | 0 => hd y.h
  | n + 1 => y.code n ++ y.b n
def Ly.off (y : Ly) (n : Nat) : Nat := (y.code n).length
def Ly.one (y : Ly) (p : Nat) : List St3 := if kO y.many y.rot p + 1 ≠ y.many ∧ y.marks (kO y.many y.rot p) = true then [((y.off p : Int), (y.off p : Int) + 3, (y.off p : Int) + 5)] else []
def Ly.strs (y : Ly) : Nat → List St3
  | 0 => []
  | n + 1 => y.strs n ++ y.one n
def Ly.full (y : Ly) (wide : Int) : List St3 :=
  if wide = 1 then [((0 : Int), (y.off y.many : Int), (y.off y.many : Int))] ++ y.strs y.many else if wide = 2 then y.strs y.many ++ [((0 : Int), (y.off y.many : Int), (y.off y.many : Int))] else y.strs y.many
def Ly.cd (y : Ly) (wide : Int) (xs : List Int) : Cd := ⟨y.code y.many ++ [.say, .put 40, .back], y.full wide, xs, 1⟩
section
variable {y : Ly}
theorem off_succ (p : Nat) : y.off (p + 1) = y.off p + (y.b p).length := List.length_append
theorem code_pre {p : Nat} : ∀ {n : Nat}, p ≤ n → ∃ rest, y.code n = y.code p ++ rest
  | 0, h => ⟨[], by rw [List.append_nil, Nat.le_zero.mp h]⟩
  | n + 1, h => by
    by_cases e : p = n + 1
    · exact ⟨[], by rw [List.append_nil, e]⟩
    · obtain ⟨r, hr⟩ := code_pre (p := p) (n := n) (by omega)
      exact ⟨r ++ y.b n, by show y.code n ++ y.b n = _; rw [hr, List.append_assoc]⟩
theorem code_at {p n j : Nat} {r : Rw} (h : p < n) (e : (y.b p)[j]? = some r) (more : List Rw) : (y.code n ++ more)[y.off p + j]? = some r := by
  obtain ⟨rest, hr⟩ := code_pre (y := y) (p := p + 1) (n := n) h
  have lt := (List.getElem?_eq_some_iff.mp e).1
  have e2 : y.code n ++ more = y.code p ++ (y.b p ++ (rest ++ more)) := by
    rw [hr]
    show y.code p ++ y.b p ++ rest ++ more = _
    simp only [List.append_assoc]
  rw [e2, List.getElem?_append_right (by unfold Ly.off; omega)]
  unfold Ly.off
  rw [Nat.add_sub_cancel_left, List.getElem?_append_left lt]
  exact e
theorem off_mono {p q : Nat} (h : p < q) : y.off p + (y.b p).length ≤ y.off q := by
  induction q with
  | zero => omega
  | succ q ih =>
    rw [off_succ]
    by_cases e : p = q
    · subst e; omega
    · have := ih (by omega); omega
theorem b_len (p : Nat) : (y.b p).length = if kO y.many y.rot p + 1 = y.many then y.z + 2 else 8 := by
  unfold Ly.b blk
  split
  · rw [List.length_append, List.length_replicate]; rfl
  · rfl
theorem off_le (n : Nat) : y.off n ≤ 4 + (y.z + 8) * n := by
  induction n with
  | zero =>
    show (hd y.h).length ≤ _
    unfold hd
    rw [List.length_drop]
    show 4 - y.h ≤ _
    omega
  | succ n ih =>
    rw [off_succ, b_len, Nat.mul_succ]
    split <;> omega
theorem strs_mem : ∀ {n : Nat} {t : St3}, t ∈ y.strs n → ∃ q, q < n ∧ kO y.many y.rot q + 1 ≠ y.many ∧ y.marks (kO y.many y.rot q) = true ∧ t = ((y.off q : Int), (y.off q : Int) + 3, (y.off q : Int) + 5)
  | n + 1, t, h => by
    rcases List.mem_append.mp h with h | h
    · obtain ⟨q, h1, h2⟩ := strs_mem h
      exact ⟨q, by omega, h2⟩
    · unfold Ly.one at h
      split at h
      · rename_i c
        exact ⟨n, Nat.lt_succ_self _, c.1, c.2, List.mem_singleton.mp h⟩
      · cases h
theorem mem_strs {q : Nat} (c : kO y.many y.rot q + 1 ≠ y.many ∧ y.marks (kO y.many y.rot q) = true) : ∀ {n : Nat}, q < n → ((y.off q : Int), (y.off q : Int) + 3, (y.off q : Int) + 5) ∈ y.strs n
  | n + 1, h => by
    refine List.mem_append.mpr ?_
    by_cases e : q = n
    · subst e
      right
      unfold Ly.one
      rw [if_pos c]
      exact List.mem_singleton.mpr rfl
    · exact .inl (mem_strs c (by omega))
theorem strs_len : ∀ n : Nat, (y.strs n).length ≤ n
  | 0 => Nat.le_refl 0
  | n + 1 => by
    show (y.strs n ++ y.one n).length ≤ _
    rw [List.length_append]
    have h1 := strs_len n
    have h2 : (y.one n).length ≤ 1 := by unfold Ly.one; split <;> simp
    omega
theorem goal_one {p g : Int} : ∀ {l : List St3}, (∀ t ∈ l, t.1 ≤ p ∧ p < t.2.1 → t.2.2 = g) → (∃ t ∈ l, t.1 ≤ p ∧ p < t.2.1) → goal p l = some g
  | [], _, ⟨t, h, _⟩ => by cases h
  | t :: r, h, ⟨u, hu, e⟩ => by
    rw [goal_cons]
    by_cases c : t.1 ≤ p ∧ p < t.2.1
    · rw [if_pos c, h t List.mem_cons_self c]
    · rw [if_neg c]
      rcases List.mem_cons.mp hu with rfl | hu
      · exact absurd e c
      · exact goal_one (fun t ht => h t (List.mem_cons_of_mem _ ht)) ⟨u, hu, e⟩
theorem goal_none {p : Int} : ∀ {l : List St3}, (∀ t ∈ l, ¬ (t.1 ≤ p ∧ p < t.2.1)) → goal p l = none
  | [], _ => rfl
  | t :: r, h => by
    rw [goal_cons, if_neg (h t List.mem_cons_self)]
    exact goal_none fun t ht => h t (List.mem_cons_of_mem _ ht)
theorem goal_app {p : Int} (m : List St3) : ∀ l : List St3, goal p (l ++ m) = match goal p l with | some g => some g | none => goal p m
  | [] => rfl
  | t :: r => by
    show goal p (t :: (r ++ m)) = _
    rw [goal_cons, goal_cons]
    split
    · rfl
    · exact goal_app m r
/-- the call of a function at p: only its own stretch holds it -/
theorem goal_call {p n : Nat} (hp : p < n) (hk : kO y.many y.rot p + 1 ≠ y.many) : goal ((y.off p : Int) + 2) (y.strs n) = if y.marks (kO y.many y.rot p) = true then some ((y.off p : Int) + 5) else none := by
  have only : ∀ q, q < n → kO y.many y.rot q + 1 ≠ y.many → (y.off q : Int) ≤ (y.off p : Int) + 2 → (y.off p : Int) + 2 < (y.off q : Int) + 3 → q = p := by
    intro q hq hkq h1 h2
    rcases Nat.lt_trichotomy q p with h | h | h
    · have := off_mono (y := y) h
      rw [b_len, if_neg hkq] at this
      omega
    · exact h
    · have := off_mono (y := y) h
      rw [b_len, if_neg hk] at this
      omega
  by_cases c : y.marks (kO y.many y.rot p) = true
  · rw [if_pos c]
    refine goal_one (fun t ht e => ?_) ⟨_, mem_strs ⟨hk, c⟩ hp, by dsimp only; omega, by dsimp only; omega⟩
    obtain ⟨q, hq, hkq, _, rfl⟩ := strs_mem ht
    rw [only q hq hkq e.1 e.2]
  · rw [if_neg c]
    refine goal_none fun t ht e => ?_
    obtain ⟨q, hq, hkq, hm, rfl⟩ := strs_mem ht
    rw [only q hq hkq e.1 e.2] at hm
    exact c hm
theorem goal_last {p n : Nat} (hp : p < n) (hk : kO y.many y.rot p + 1 = y.many) : goal ((y.off p : Int) + y.z + 1) (y.strs n) = none := by
  refine goal_none fun t ht e => ?_
  obtain ⟨q, hq, hkq, hm, rfl⟩ := strs_mem ht
  dsimp only at e
  rcases Nat.lt_trichotomy q p with h | h | h
  · have := off_mono (y := y) h
    rw [b_len, if_neg hkq] at this
    omega
  · rw [h] at hkq; exact hkq hk
  · have := off_mono (y := y) h
    rw [b_len, if_pos hk] at this
    omega
theorem goal_full {p : Int} (h0 : 0 ≤ p) (h1 : p < (y.off y.many : Int)) (wide : Int) : goal p (y.full wide) = if wide = 1 then some (y.off y.many : Int) else match goal p (y.strs y.many) with | some g => some g | none => if wide = 2 then some (y.off y.many : Int) else none := by
  have hw : goal p [((0 : Int), (y.off y.many : Int), (y.off y.many : Int))] = some (y.off y.many : Int) := by rw [goal_cons, if_pos ⟨h0, h1⟩]
  unfold Ly.full
  by_cases w1 : wide = 1
  · rw [if_pos w1, if_pos w1, goal_app, hw]
  · rw [if_neg w1, if_neg w1]
    by_cases w2 : wide = 2
    · rw [if_pos w2, if_pos w2, goal_app, hw]
    · rw [if_neg w2, if_neg w2]
      cases goal p (y.strs y.many) <;> rfl
/-! ### which place -/
def inv (many rot k : Nat) : Nat := (k + (many - rot % many)) % many
theorem inv_lt {many : Nat} (h : 0 < many) (rot k : Nat) : inv many rot k < many := Nat.mod_lt _ h
theorem kO_lt {many : Nat} (h : 0 < many) (rot p : Nat) : kO many rot p < many := Nat.mod_lt _ h
theorem kO_inv {many rot k : Nat} (h : k < many) : kO many rot (inv many rot k) = k := by
  unfold kO inv
  rw [Nat.mod_add_mod]
  have h1 := Nat.div_add_mod rot many
  have h2 := Nat.mod_lt rot (show many > 0 by omega)
  have e : k + (many - rot % many) + rot = k + many * (1 + rot / many) := by
    rw [Nat.mul_add, Nat.mul_one]
    omega
  rw [e, Nat.add_mul_mod_self_left, Nat.mod_eq_of_lt h]
theorem kO_ne {many rot p q : Nat} (hp : p < q) (hq : q < many) : kO many rot p ≠ kO many rot q := by
  intro e
  unfold kO at e
  have h := Nat.sub_mod_eq_zero_of_mod_eq e.symm
  rw [show q + rot - (p + rot) = q - p by omega, Nat.mod_eq_of_lt (by omega)] at h
  omega
def begOk (y : Ly) (n : Nat) (xs : List Int) : Prop := xs.length = y.many ∧ ∀ p, p < n → xs[kO y.many y.rot p]? = some (y.off p : Int)
theorem begOk_set {n : Nat} {xs : List Int} (h : begOk y n xs) (hn : n < y.many) : begOk y (n + 1) (xs.set (kO y.many y.rot n) (y.off n : Int)) := by
  refine ⟨by rw [List.length_set]; exact h.1, fun p hp => ?_⟩
  by_cases e : p = n
  · subst e
    rw [List.getElem?_set_self (by rw [h.1]; exact kO_lt (by omega) _ _)]
  · rw [List.getElem?_set_ne (kO_ne (show p < n by omega) hn).symm]
    exact h.2 p (by omega)
/-- all that is known of it -/
theorem cf {wide : Int} {xs : List Int} (hm : 1 ≤ y.many) (hb : begOk y y.many xs) : CF (y.cd wide xs) y.many y.z y.raises wide y.marks y.more (fun k => (y.off (inv y.many y.rot k) : Int)) (y.off y.many : Int) := by
  have at' : ∀ (k j : Nat) (r : Rw), k < y.many → (blk y.many y.z y.raises y.more k)[j]? = some r → atI (y.cd wide xs).rows ((y.off (inv y.many y.rot k) : Int) + j) = some r := by
    intro k j r hk e
    rw [show (y.off (inv y.many y.rot k) : Int) + j = ((y.off (inv y.many y.rot k) + j : Nat) : Int) by omega]
    refine atI_nat (code_at (inv_lt (by omega) _ _) ?_ _)
    unfold Ly.b
    rw [kO_inv hk]
    exact e
  have nl : ∀ k, k + 1 < y.many → blk y.many y.z y.raises y.more k = [.put (y.more k), .get 0, .call ((k + 1 : Nat) : Int), .rek .add, .back, .say, .put (50 + (k : Int)), .back] := fun k h => by unfold blk; rw [if_neg (by omega)]
  have la : blk y.many y.z y.raises y.more (y.many - 1) = List.replicate y.z (.put 9) ++ [.get 0, if y.raises then .raise else .back] := by unfold blk; rw [if_pos (by omega)]
  have tl : ∀ (j : Nat) (r : Rw), ([.say, .put 40, .back] : List Rw)[j]? = some r → atI (y.cd wide xs).rows ((y.off y.many : Int) + j) = some r := by
    intro j r e
    rw [show (y.off y.many : Int) + j = ((y.off y.many + j : Nat) : Int) by omega]
    refine atI_nat ?_
    show (y.code y.many ++ [.say, .put 40, .back])[y.off y.many + j]? = _
    rw [List.getElem?_append_right (by unfold Ly.off; omega)]
    unfold Ly.off
    rw [Nat.add_sub_cancel_left]
    exact e
  have lt : ∀ k, k < y.many → y.off (inv y.many y.rot k) + (y.b (inv y.many y.rot k)).length ≤ y.off y.many := fun k hk => off_mono (inv_lt (by omega) _ _)
  refine ⟨rfl, ?_, ?_, ?_, ?_, ?_, ?_, ?_, ?_, ?_, ?_, ?_, ?_, ?_, ?_, ?_, ?_, ?_⟩
  · intro k hk
    have h := hb.2 (inv y.many y.rot k) (inv_lt (by omega) _ _)
    rw [kO_inv hk] at h
    exact atI_nat h
  · intro k hk; have z := at' k 0 _ (by omega) (by rw [nl k hk]; rfl); rwa [show ((y.off (inv y.many y.rot k) : Nat) : Int) + ((0 : Nat) : Int) = y.off (inv y.many y.rot k) by omega] at z
  · intro k hk; exact at' k 1 _ (by omega) (by rw [nl k hk]; rfl)
  · intro k hk; have z := at' k 2 _ (by omega) (by rw [nl k hk]; rfl); rwa [show ((y.off (inv y.many y.rot k) : Nat) : Int) + ((2 : Nat) : Int) = (y.off (inv y.many y.rot k) : Int) + 1 + 1 by omega] at z
  · intro k hk; exact at' k 3 _ (by omega) (by rw [nl k hk]; rfl)
  · intro k hk; have z := at' k 4 _ (by omega) (by rw [nl k hk]; rfl); rwa [show ((y.off (inv y.many y.rot k) : Nat) : Int) + ((4 : Nat) : Int) = (y.off (inv y.many y.rot k) : Int) + 3 + 1 by omega] at z
  · intro k hk; exact at' k 5 _ (by omega) (by rw [nl k hk]; rfl)
  · intro k hk; have z := at' k 6 _ (by omega) (by rw [nl k hk]; rfl); rwa [show ((y.off (inv y.many y.rot k) : Nat) : Int) + ((6 : Nat) : Int) = (y.off (inv y.many y.rot k) : Int) + 5 + 1 by omega] at z
  · intro k hk; have z := at' k 7 _ (by omega) (by rw [nl k hk]; rfl); rwa [show ((y.off (inv y.many y.rot k) : Nat) : Int) + ((7 : Nat) : Int) = (y.off (inv y.many y.rot k) : Int) + 5 + 1 + 1 by omega] at z
  · intro j hj
    exact at' (y.many - 1) j _ (by omega) (by rw [la, List.getElem?_append_left (by simpa using hj), List.getElem?_replicate, if_pos hj])
  · exact at' (y.many - 1) y.z _ (by omega) (by rw [la, List.getElem?_append_right (by simp)]; simp)
  · have z := at' (y.many - 1) (y.z + 1) _ (by omega) (by rw [la, List.getElem?_append_right (by simp)]; simp; rfl)
    rwa [show ((y.off (inv y.many y.rot (y.many - 1)) : Nat) : Int) + ((y.z + 1 : Nat) : Int) = (y.off (inv y.many y.rot (y.many - 1)) : Int) + y.z + 1 by omega] at z
  · have z := tl 0 _ rfl; rwa [show (y.off y.many : Int) + ((0 : Nat) : Int) = y.off y.many by omega] at z
  · exact tl 1 _ rfl
  · have z := tl 2 _ rfl; rwa [show (y.off y.many : Int) + ((2 : Nat) : Int) = (y.off y.many : Int) + 1 + 1 by omega] at z
  · intro k hk
    have l := lt k (by omega)
    rw [b_len, kO_inv (show k < y.many by omega), if_neg (by omega)] at l
    show goal _ (y.full wide) = _
    rw [goal_full (by omega) (by omega) wide, goal_call (inv_lt (by omega) _ _) (by rw [kO_inv (by omega)]; omega), kO_inv (show k < y.many by omega)]
    by_cases w1 : wide = 1
    · rw [if_pos w1, if_pos w1]
    · rw [if_neg w1, if_neg w1]
      by_cases c : y.marks k = true
      · rw [if_pos c, if_pos c]
      · rw [if_neg c, if_neg c]
  · have l := lt (y.many - 1) (by omega)
    rw [b_len, kO_inv (show y.many - 1 < y.many by omega), if_pos (by omega)] at l
    show goal _ (y.full wide) = _
    rw [goal_full (by omega) (by omega) wide, goal_last (inv_lt (by omega) _ _) (by rw [kO_inv (by omega)]; omega)]
    by_cases w1 : wide = 1
    · rw [if_pos w1, if_pos (.inl w1)]
    · rw [if_neg w1]
      by_cases w2 : wide = 2
      · rw [if_pos w2, if_pos (.inr w2)]
      · rw [if_neg w2, if_neg (by omega)]
end
end K04

local macro_rules | `(tactic| walk_at "hp") => `(tactic| first
  | assumption
  | exact L2.upd_same
  | (refine U.Sta.get (W := ?gsW) (R0 := ?gs0) (B := ?gsB) (R := ?gsR) (L := ?gsL) ?gss 0 ?gse; (case gss => assumption); (case gse => exact rfl))
  | (refine U.Sta.get (W := ?gsW) (R0 := ?gs0) (B := ?gsB) (R := ?gsR) (L := ?gsL) ?gss 1 ?gse; (case gss => assumption); (case gse => exact rfl))
  | (refine U.Sta.get (W := ?gsW) (R0 := ?gs0) (B := ?gsB) (R := ?gsR) (L := ?gsL) ?gss 2 ?gse; (case gss => assumption); (case gse => exact rfl))
  | (refine U.Sta.get (W := ?gsW) (R0 := ?gs0) (B := ?gsB) (R := ?gsR) (L := ?gsL) ?gss 3 ?gse; (case gss => assumption); (case gse => exact rfl))
  | (refine U.Sta.get (W := ?gsW) (R0 := ?gs0) (B := ?gsB) (R := ?gsR) (L := ?gsL) ?gss 4 ?gse; (case gss => assumption); (case gse => exact rfl))
  | (refine U.Sta.get (W := ?gsW) (R0 := ?gs0) (B := ?gsB) (R := ?gsR) (L := ?gsL) ?gss 5 ?gse; (case gss => assumption); (case gse => exact rfl))
  | (refine (L2.upd_ne ?hpn).trans ?hpk; (case hpn => walk_at "ne"); (case hpk => walk_at "hp")))
local macro_rules | `(tactic| walk_at "ne") => `(tactic| first
  | assumption
  | exact Ne.symm (by assumption)
  | (refine L2.ne_of_none (H := ?neH) (o := ?neo) ?nea ?neb; (case neb => assumption); (case nea => walk_at "hp"))
  | (refine Ne.symm (L2.ne_of_none (H := ?neH) (o := ?neo) ?nea ?neb); (case neb => assumption); (case nea => walk_at "hp")))
local macro_rules | `(tactic| walk_at "sq") => `(tactic| first
  | assumption
  | (refine L2.SqL.of ?sqh; walk_at "hp")
  | (refine L2.SqT.of ?sqh; walk_at "hp")
  | (refine L2.Same.seqL (H := ?sqH) ?sqs ?sqh; (case sqh => assumption); (case sqs => walk_at "sm"))
  | (refine L2.Same.seqT (H := ?sqH) ?sqs ?sqh; (case sqh => assumption); (case sqs => walk_at "sm")))
local macro_rules | `(tactic| walk_at "sm") => `(tactic| first
  | assumption
  | exact L2.Same.refl _
  | (refine U.Sta.old (W := ?gsW) (B := ?gsB) (R := ?gsR) (L := ?gsL) ?gss; (case gss => assumption))
  | (refine U.Sta.sub' (W := ?gsW) (R0 := ?gs0) (B := ?gsB) (L := ?gsL) ?gss; (case gss => assumption))
  | (refine U.same_new2 ?sma ?smb _; (case smb => assumption); (case sma => walk_at "sm"))
  | (refine L2.Same.trans (H1 := ?smH) ?sma ?smb; (case smb => assumption); (case sma => walk_at "sm")))
local macro_rules | `(tactic| walk_at "go1") => `(tactic| first
  | (with_reducible refine U.w_seqStop ?_)
  | (with_reducible refine U.w_stopF ?_)
  | (with_reducible refine U.w_stopW ?_)
  | ((with_reducible refine U.w_seqN (σ' := ?wss) ?wse ?_); (case wse => ((try simp only [List.set_cons_zero, List.set_cons_succ]); exact rfl)))
  | ((with_reducible refine U.w_var (v := ?wvv) ?wve ?_); (case wve => exact rfl))
  | (with_reducible refine U.w_c ?_)
  | (with_reducible refine U.w_op ?_)
  | (with_reducible refine U.w_rI0 ?_)
  | ((with_reducible refine U.w_rI ?wri ?_); (case wri => first
      | (show (0 : Int) < _; first | omega | decide)
      | exact ⟨by omega, by omega⟩
      | exact ⟨by decide, by decide⟩
      | exact ⟨by decide, by decide, by decide⟩
      | exact .inr ⟨by omega, by omega⟩
      | exact .inr ⟨by decide, by decide⟩
      | exact .inl ⟨by omega, by omega⟩
      | exact .inl ⟨by decide, by decide⟩))
  | ((with_reducible refine U.w_fdA ?wfd ?_); (case wfd => assumption))
  | (with_reducible refine U.w_asgN ?_)
  | (with_reducible refine U.w_nil ?_)
  | (with_reducible refine U.w_cons ?_)
  | (with_reducible refine U.w_call ?_)
  | (with_reducible refine U.w_cb ?_)
  | (with_reducible refine U.w_eqI ?_)
  | (with_reducible refine U.w_neI ?_)
  | (with_reducible refine U.w_ifS ?_)
  | (with_reducible refine U.w_test ?_)
  | (with_reducible refine U.w_tB ?_)
  | (with_reducible refine U.w_bl ?_)
  | (with_reducible refine U.w_itT ?_)
  | (with_reducible refine U.w_itF ?_)
  | (with_reducible refine U.w_itNT ?_)
  | (with_reducible refine U.w_itNF ?_)
  | (with_reducible refine U.w_asg ?_)
  | (with_reducible refine U.w_gName ?_)
  | (with_reducible refine U.w_gNil ?_)
  | (with_reducible refine U.w_gCons ?_)
  | ((with_reducible refine U.w_gTup (xs := ?wgx) ?wgt ?wgn ?_); (case wgt => walk_at "sq"); (case wgn => exact rfl))
  | (with_reducible refine U.w_gSub ?_)
  | (with_reducible refine U.w_next ?_)
  | (with_reducible refine U.w_break ?_)
  | (with_reducible refine U.w_cont ?_)
  | (with_reducible refine U.w_drop ?_)
  | (with_reducible refine U.w_ret ?_)
  | (with_reducible refine U.w_retN ?_)
  | (with_reducible refine U.w_un ?_)
  | (with_reducible refine U.w_rU ?_)
  | (with_reducible refine U.w_chain ?_)
  | (with_reducible refine U.w_tup ?_)
  | (with_reducible refine U.w_lst ?_)
  | ((with_reducible refine U.w_size ?wsz ?_); (case wsz => exact rfl))
  | (with_reducible refine U.w_bm ?_)
  | (with_reducible refine U.w_bm0 ?_)
  | ((with_reducible refine U.w_tyL (xs := ?wtx) ?wty ?_); (case wty => walk_at "hp"))
  | ((with_reducible refine U.w_lenL (xs := ?wlx) ?wll ?_); (case wll => walk_at "sq"))
  | ((with_reducible refine U.w_lenT (xs := ?wlx) ?wll ?_); (case wll => walk_at "sq"))
  | (with_reducible refine U.w_sl ?_)
  | (with_reducible refine U.w_noPart ?_)
  | (with_reducible refine U.w_part ?_)
  | (with_reducible refine U.w_partE ?_)
  | (with_reducible refine U.w_and ?_)
  | (with_reducible refine U.w_or ?_)
  | (with_reducible refine U.w_not ?_)
  | (with_reducible refine U.w_andV ?_)
  | (with_reducible refine U.w_orV ?_)
  | (with_reducible refine U.w_notV ?_)
  | (with_reducible refine U.w_ifE ?_)
  | (with_reducible refine U.w_for ?_)
  | (with_reducible refine U.w_lc ?_)
  | (with_reducible refine U.w_iL ?_)
  | (with_reducible refine U.w_iT ?_)
  | (with_reducible refine U.w_iR1 ?_)
  | (with_reducible refine U.w_iR2 ?_)
  | (with_reducible refine U.w_ttYes ?_)
  | ((with_reducible refine U.w_wipe ?wwe ?_); (case wwe => exact rfl))
  | ((with_reducible refine U.w_slL (xs := ?wlx) ?wll ?_); (case wll => walk_at "sq"))
  | (with_reducible refine U.w_fldX ?_)
  | ((with_reducible refine U.w_fldEE (C := ?wfC) (dx := ?wfd) (fs := ?wff) (v := ?wfv) (cs := ?wfc) ?wfa ?wfi ?wfn ?wfl ?_); (case wfa => walk_at "hp"); (case wfi => assumption); (case wfn => exact rfl); (case wfl => exact rfl))
  | (with_reducible refine U.w_sFld ?_)
  | ((with_reducible refine U.w_fldS (C := ?wfC) (dx := ?wfd) (fs := ?wff) (gs := ?wfg) (cs := ?wfc) ?wfa ?wfi ?wfn ?wfl ?wfe ?_); (case wfa => walk_at "hp"); (case wfi => assumption); (case wfn => exact rfl); (case wfl => exact rfl); (case wfe => exact rfl))
  | (with_reducible refine U.w_sFldAug ?_)
  | ((with_reducible refine U.w_fldA1 (C := ?wfC) (dx := ?wfd) (fs := ?wff) (v := ?wfv) (cs := ?wfc) ?wfa ?wfi ?wfn ?wfl ?_); (case wfa => walk_at "hp"); (case wfi => assumption); (case wfn => exact rfl); (case wfl => exact rfl))
  | ((with_reducible refine U.w_fldA2 (dx := ?wfd) (fs := ?wff) (gs := ?wfg) ?wfa ?wfl ?wfe ?_); (case wfa => walk_at "hp"); (case wfl => exact rfl); (case wfe => exact rfl))
  | (with_reducible refine U.w_rAdd ?_)
  | (with_reducible refine U.w_rSub ?_)
  | (with_reducible refine U.w_meth ?_)
  | ((with_reducible refine U.w_methE (C := ?wfC) (dx := ?wfd) (fs := ?wff) ?wfa ?wfl ?_); (case wfa => walk_at "hp"); (case wfl => exact rfl))
  | (with_reducible refine U.w_make ?_)
  | (with_reducible refine U.w_tru ?_)
  | ((with_reducible refine U.w_truL (xs := ?wlx) ?wll ?_); (case wll => walk_at "sq"))
  | ((with_reducible refine U.w_append (xs := ?wax) ?waa ?wal ?_); (case waa => walk_at "hp"); (case wal => assumption))
  | ((with_reducible refine U.w_pop (xs := ?wax) (y := ?way) ?waa ?_); (case waa => walk_at "hp"))
  | (with_reducible refine U.w_ttt ?_)
  | (with_reducible refine U.w_isNoT ?_)
  | (with_reducible refine U.w_isNoI ?_)
  | (with_reducible refine U.w_isNoR ?_)
  | (with_reducible refine U.w_notNoT ?_)
  | (with_reducible refine U.w_notNoI ?_)
  | (with_reducible refine U.w_notNoR ?_)
  | (with_reducible refine U.w_intI ?_)
  | (with_reducible refine U.w_intB ?_)
  | (with_reducible refine U.w_min ?_)
  | (with_reducible refine U.w_max ?_)
  | ((with_reducible refine U.w_listL (xs := ?wlx) ?wll ?_); (case wll => walk_at "sq"))
  | ((with_reducible refine U.w_tupL (xs := ?wlx) ?wll ?_); (case wll => walk_at "sq"))
  | (with_reducible refine U.w_isi_ii ?_)
  | (with_reducible refine U.w_isi_ib ?_)
  | (with_reducible refine U.w_isi_it ?_)
  | (with_reducible refine U.w_isi_il ?_)
  | (with_reducible refine U.w_isi_ss ?_)
  | (with_reducible refine U.w_isi_st ?_)
  | (with_reducible refine U.w_isi_sl ?_)
  | (with_reducible refine U.w_isi_nt ?_)
  | (with_reducible refine U.w_isi_nl ?_)
  | (with_reducible refine U.w_isi_ni ?_)
  | ((with_reducible refine U.w_isi_tt (xs := ?wix) ?wis ?_); (case wis => walk_at "sq"))
  | ((with_reducible refine U.w_isi_lt (xs := ?wix) ?wis ?_); (case wis => walk_at "sq"))
  | ((with_reducible refine U.w_isi_ll (xs := ?wix) ?wis ?_); (case wis => walk_at "sq"))
  | ((with_reducible refine U.w_isi_tl (xs := ?wix) ?wis ?_); (case wis => walk_at "sq"))
  | ((with_reducible refine U.w_eqT ?wes ?_); (case wes => exact rfl))
  | ((with_reducible refine U.w_neT ?wes ?_); (case wes => exact rfl))
  | ((with_reducible refine U.w_eqF ?wes ?wef ?_); (case wes => exact rfl); (case wef => decide +kernel))
  | ((with_reducible refine U.w_neF ?wes ?wef ?_); (case wes => exact rfl); (case wef => decide +kernel))
  | ((with_reducible refine U.w_ixLL (xs := ?wxx) (v := ?wxv) ?wxl ?wxi ?_); (case wxl => walk_at "sq"); (case wxi => exact rfl))
  | ((with_reducible refine U.w_ixTT0 (xs := ?wxx) (v := ?wxv) ?wxl ?_); (case wxl => walk_at "sq"))
  | ((with_reducible refine U.w_ixTT (xs := ?wxx) (v := ?wxv) ?wxl ?wxi ?_); (case wxl => walk_at "sq"); (case wxi => exact rfl))
  | walk_at "own1")
local macro_rules | `(tactic| walk_at "go") => `(tactic| repeat walk_at "go1")
local macro_rules | `(tactic| walk_at "st") => `(tactic| ((try dsimp only [U.cxk, U.cxkn, U.cxw, U.cxwn]); walk_at "go"))
local macro_rules | `(tactic| walk_at "if") => `(tactic| (with_reducible refine U.w_seqIf (σ' := ?wss) ?wse ?_); (case wse => ((try simp only [List.set_cons_zero, List.set_cons_succ]); exact rfl)); walk_at "go")
local macro_rules | `(tactic| walk_at "set") => `(tactic| ((try simp only [List.set_cons_zero, List.set_cons_succ]); exact rfl))
local macro_rules | `(tactic| walk_at "lp") => `(tactic| (with_reducible refine U.w_seqLp (σ' := ?wss) ?wse ?_); (case wse => ((try simp only [List.set_cons_zero, List.set_cons_succ]); exact rfl)); walk_at "go")
namespace M
open PySem PySem.Spec PyProof.Rows L2 U MM
def top (i : Nat) : Stmt := PySem.Challenge.pw_unwind_k04_faults_go_out.main.body.getD i (.Pass ⟨0, 0, 0, 0⟩)
/-! ### what stands in the heap for a machine -/
/-- a pile, its uppermost thing last -/
def plV : List Int → List V
  | [] => []
  | n :: p => plV p ++ [.int n]
theorem plV_len : ∀ p : List Int, (plV p).length = p.length
  | [] => rfl
  | n :: p => by
    show (plV p ++ [V.int n]).length = p.length + 1
    rw [List.length_append, plV_len p]
    rfl
abbrev Gh := Addr × Addr × Addr × Addr
def srV : List Gh → List V
  | [] => []
  | g :: r => srV r ++ [.ref g.1]
theorem srV_len : ∀ p : List Gh, (srV p).length = p.length
  | [] => rfl
  | g :: p => by
    show (srV p ++ [V.ref g.1]).length = p.length + 1
    rw [List.length_append, srV_len p]
    rfl
/-- the parts that stay: the code, where its lists stand, the classes, the heap at the start, the machine -/
structure Mc where
  K : PySem.W.Frag
  cM : Addr
  cE : Addr
  R0 : Hp
  B : Hp
  C : Cd
  aR : Addr
  aS : Addr
  aB : Addr
  m : Addr
structure Mc.Ok (c : Mc) : Prop where
  rows : ∃ xs, SqL c.K c.R0 c.aR xs ∧ DpAll c.K c.R0 xs (c.C.rows.map Rw.enc)
  str : ∃ xs, SqL c.K c.R0 c.aS xs ∧ DpAll c.K c.R0 xs (c.C.str.map enc3)
  beg : SqL c.K c.R0 c.aB (c.C.begins.map .int)
  bxs0 : 0 ≤ c.C.boxes
  bxs : c.C.boxes ≤ 100000
def frO (c : Mc) (g : Gh) (f : Fr) : HO := .ins c.cE g.2.1 [("place", .int f.place), ("boxes", .ref g.2.2.1), ("pile", .ref g.2.2.2)]
def frs (c : Mc) : List Gh → List Fr → List (Addr × HO)
  | g :: gs, f :: fs => (g.1, .ins c.cE g.2.1 [("place", .int f.place), ("boxes", .ref g.2.2.1), ("pile", .ref g.2.2.2)]) :: (g.2.2.1, .lst (f.boxes.map .int)) :: (g.2.2.2, .lst (plV f.pile)) :: frs c gs fs
  | _, _ => []
def mO (c : Mc) (dx st sd : Addr) (turns : Int) (ov : V) : HO := .ins c.cM dx [("rows", .ref c.aR), ("stretches", .ref c.aS), ("begins", .ref c.aB), ("boxes", .int c.C.boxes), ("turns", .int turns), ("standing", .ref st), ("said", .ref sd), ("outcome", ov)]
abbrev mL (c : Mc) (dx st sd : Addr) (turns : Int) (said : List Int) (ov : V) (gs : List Gh) (fs : List Fr) : List (Addr × HO) :=
  (c.m, .ins c.cM dx [("rows", .ref c.aR), ("stretches", .ref c.aS), ("begins", .ref c.aB), ("boxes", .int c.C.boxes), ("turns", .int turns), ("standing", .ref st), ("said", .ref sd), ("outcome", ov)]) :: (sd, .lst (said.map .int)) :: (st, .lst (srV gs)) :: frs c gs fs
def OutV (R : Hp) (ov : V) : Option Ou → Prop
  | none => ov = .non
  | some o => ∃ p, ov = .ref p ∧ R p = some (.tup [.str o.word, .int o.num])
structure InvM (c : Mc) (s : MS) (H : Hp) : Prop where
  ex : ∃ R dx st sd ov gs, Sta [] c.R0 c.B R H (mL c dx st sd s.turns s.said ov gs s.fs) ∧ gs.length = s.fs.length ∧ OutV R ov s.out
/-- .. with its uppermost function, at e, in hand -/
structure InvT (c : Mc) (e : Addr) (s : MS) (H : Hp) : Prop where
  ex : ∃ R dx st sd g gs f fs, s.fs = f :: fs ∧ g.1 = e ∧ Sta [] c.R0 c.B R H (mL c dx st sd s.turns s.said .non (g :: gs) (f :: fs)) ∧ gs.length = fs.length
theorem InvM.of {c : Mc} {R H : Hp} {dx st sd : Addr} {ov : V} {gs : List Gh} {fs : List Fr} {t : Int} {sd' : List Int} {o : Option Ou} (S : Sta [] c.R0 c.B R H (mL c dx st sd t sd' ov gs fs)) (h : gs.length = fs.length) (ho : OutV R ov o) : InvM c ⟨t, fs, sd', o⟩ H := ⟨R, dx, st, sd, ov, gs, S, h, ho⟩
/-- which def does a row -/
def Rw.fi : Rw → Nat
  | .put _ => 0
  | .get _ => 1
  | .set _ => 2
  | .say => 3
  | .rek _ => 4
  | .go _ => 5
  | .nought _ => 6
  | .on _ => 7
  | .turn => 8
  | .call _ => 9
  | .back => 10
  | .raise => 11
@[reducible] def Rw.word : Rw → Str
  | .put _ => "put"
  | .get _ => "get"
  | .set _ => "set"
  | .say => "say"
  | .rek o => o.word
  | .go _ => "go"
  | .nought _ => "nought"
  | .on _ => "on"
  | .turn => "turn"
  | .call _ => "call"
  | .back => "back"
  | .raise => "raise"
def spAct (K : PySem.W.Frag) (cM cE : Addr) (x : Nat) : Sp := fun vs H Q _ => ∃ (c : Mc) (e : Addr) (s s' : MS) (rv : V) (r : Rw), vs = [.ref c.m, .ref e, rv] ∧ c.K = K ∧ c.cM = cM ∧ c.cE = cE ∧ c.Ok ∧ Rw.fi r = x ∧ Dp K c.R0 rv r.enc ∧ InvT c e s H ∧ s.out = none ∧
  Small 16000000 s ∧ s.fs.length ≤ 8 ∧ act c.C s r = some s' ∧ ∀ H', InvM c s' H' → Q .non H'
section
variable {P : Program} {w : World} {K : PySem.W.Frag} {mg : Str → Option Value} {base : Heap} {cM cE : Addr}
abbrev fE : List Str := ["place", "boxes", "pile"]
abbrev fM : List Str := ["rows", "stretches", "begins", "boxes", "turns", "standing", "said", "outcome"]
theorem atI_map {xs : List Int} {k z : Int} (h : atI xs k = some z) : atI (xs.map V.int) k = some (.int z) := by
  unfold atI at h ⊢
  rw [List.length_map]
  obtain ⟨j, h1, h2⟩ := Option.bind_eq_some_iff.mp h
  rw [h1]
  show (xs.map V.int)[j]? = _
  rw [List.getElem?_map, h2]
  rfl
theorem szl {n : Nat} (h : n ≤ 16000000) : n < sizeLine := by rw [sizeLine_eq]; omega
def spReck : Sp := fun vs H Q _ => ∃ (o : Op4) (a b : Int), vs = [.str o.word, .int a, .int b] ∧ Q (optV (reck o a b)) H
theorem ca_reckoned (hS : seerB K = true) (hP : P.given.tree = none) (D : Df K mg "reckoned" (top 4)) : Ca P w K mg base CX0 40 "reckoned" spReck := by
  have sc : FnScope ["word", "one", "other"] ["word", "one", "other"] (defScope (top 4)) := ⟨rfl, rfl, rfl, by decide +kernel, rfl, by decide +kernel, by decide +kernel⟩
  have nd := sc.nd
  refine D.ca0 sc (fun _ _ _ _ _ _ us hl => match us, hl with | [_, _, _], _ => rfl) (fun vs H Q E h => by obtain ⟨_, _, _, rfl, _⟩ := h; rfl) (fun f cdv A outer s H vs Q E hr h => ?_)
  obtain ⟨o, a, b, rfl, q⟩ := h
  refine ⟨_, (pss_cons (ps_if (pt_cmpR op_eq (pv 0) pe_str (nomark _)) (pss_one (ps_ret (pe_op op_add (pv 1) (pv 2)))) pss_nil)
    (pss_cons (ps_if (pt_cmpR op_eq (pv 0) pe_str (nomark _)) (pss_one (ps_ret (pe_op op_sub (pv 1) (pv 2)))) pss_nil)
    (pss_cons (ps_if (pt_cmpR op_eq (pv 0) pe_str (nomark _)) (pss_one (ps_ret (pe_ifExp (pt_cmpR op_lt (pv 1) (pv 2) (nomark _)) pe_int pe_int))) pss_nil)
    (pss_cons (ps_if (pt_cmpR op_eq (pv 2) pe_int (nomark _)) (pss_one (ps_ret pe_non)) pss_nil)
    (pss_one (ps_ret (pe_op (op_fdivA hS hP rfl sc.gen sc.co (room_deep hr (by omega))) (pv 1) (pv 2)))))))), ?_⟩
  refine U.w_start (σ' := [some _, some _, some _]) rfl ?_
  walk_at "st"
  cases o with
  | add => walk_at "if"; exact q
  | sub =>
    walk_at "if"
    walk_at "if"
    exact q
  | less =>
    walk_at "if"
    walk_at "if"
    walk_at "if"
    refine it_cases (fun c => ?_) fun c => ?_
    · walk_at "go"
      simp only [reck, if_pos c] at q
      exact q
    · walk_at "go"
      simp only [reck, if_neg c] at q
      exact q
  | share =>
    walk_at "if"
    walk_at "if"
    walk_at "if"
    walk_at "if"
    refine it_cases (fun c => ?_) fun c => ?_
    · walk_at "go"
      simp only [reck, if_pos c] at q
      exact q
    · walk_at "go"
      simp only [reck, if_neg c] at q
      exact q
def spGoal (K : PySem.W.Frag) : Sp := fun vs H Q _ => ∃ (a : Addr) (xs : List V) (ts : List St3) (place : Int), vs = [.ref a, .int place] ∧ SqL K H a xs ∧ DpAll K H xs (ts.map enc3) ∧ Q (optV (goal place ts)) H
theorem ca_goal (D : Df K mg "goal_of" (top 8)) : Ca P w K mg base CX0 1 "goal_of" (spGoal K) := by
  have sc : FnScope ["stretches", "place", "first", "behind", "goal"] ["stretches", "place"] (defScope (top 8)) := ⟨rfl, rfl, rfl, by decide +kernel, rfl, by decide +kernel, by decide +kernel⟩
  have nd := sc.nd
  refine D.ca0 sc (fun _ _ _ _ _ _ us hl => match us, hl with | [_, _], _ => rfl) (fun vs H Q E h => by obtain ⟨_, _, _, _, rfl, _⟩ := h; rfl) (fun f cdv A outer s H vs Q E hr h => ?_)
  obtain ⟨a, xs, ts, place, rfl, hS, hD, q⟩ := h
  refine ⟨_, (pss_cons (ps_for PassesOwn.never rfl (pi_list (pv 0)) (pg_tup rfl (pgs_cons (pg_name (i := 2) nd rfl (by first | exact Or.inl rfl | exact Or.inr rfl)) (pgs_cons (pg_name (i := 3) nd rfl (by first | exact Or.inl rfl | exact Or.inr rfl)) (pgs_cons (pg_name (i := 4) nd rfl (by first | exact Or.inl rfl | exact Or.inr rfl)) pgs_nil)))) (pss_one (ps_if (pt_chain op_le op_lt (pv 2) (pv 1) (pv 3)) (pss_one (ps_ret (pv 4))) pss_nil)))
    (pss_one (ps_ret pe_non))), ?_⟩
  refine U.w_start (σ' := [some _, some _, none, none, none]) rfl ?_
  walk_at "st"
  walk_at "lp"
  refine for_L (fun i σ H' => H' = H ∧ (∃ v2 v3 v4, σ = [some (.ref a), some (.int place), v2, v3, v4]) ∧ goal place ts = goal place (ts.drop i)) hS ⟨rfl, ⟨none, none, none, rfl⟩, rfl⟩ (fun i σ H' _ p => by rw [p.1]; exact hS) (fun i x σ H' hx p => ?_) (fun σ H' p => ?_)
  · obtain ⟨rfl, ⟨v2, v3, v4, rfl⟩, e⟩ := p
    obtain ⟨d, hd, hdx⟩ := hD.get hx
    rw [List.getElem?_map] at hd
    obtain ⟨t, ht, rfl⟩ := Option.map_eq_some_iff.mp hd
    obtain ⟨p, w1, w2, w3, rfl, hT, h1, h2, h3⟩ := dp_tup3 hdx
    cases dp_int h1
    cases dp_int h2
    cases dp_int h3
    have e2 := List.drop_eq_getElem_cons (List.getElem?_eq_some_iff.mp ht).1
    rw [(List.getElem?_eq_some_iff.mp ht).2] at e2
    rw [e2, goal_cons] at e
    walk_at "go"
    refine it_cases (fun c => ?_) fun c => ?_
    · walk_at "go"
      refine it_cases (fun c' => ?_) fun c' => ?_
      · walk_at "go"
        rw [if_pos ⟨c, c'⟩] at e
        rw [e] at q
        exact q
      · walk_at "go"
        rw [if_neg (fun z => c' z.2)] at e
        exact ⟨rfl, ⟨_, _, _, rfl⟩, e⟩
    · walk_at "go"
      rw [if_neg (fun z => c z.1)] at e
      exact ⟨rfl, ⟨_, _, _, rfl⟩, e⟩
  · obtain ⟨rfl, ⟨v2, v3, v4, rfl⟩, e⟩ := p
    have l : xs.length = ts.length := by rw [hD.len, List.length_map]
    rw [l, List.drop_length] at e
    rw [e] at q
    walk_at "go"
    exact q
end
end M

namespace M
open PySem PySem.Spec PyProof.Rows L2 U MM
section
variable {P : Program} {w : World} {K : PySem.W.Frag} {mg : Str → Option Value} {base : Heap} {cM cE : Addr}
theorem ca_put (D : Df K mg "_put" (top 11)) (iE : CI K cE fE) (iM : CI K cM fM) : Ca P w K mg base CX0 1 "_put" (spAct K cM cE 0) := by
  have sc : FnScope ["machine", "now", "row"] ["machine", "now", "row"] (defScope (top 11)) := ⟨rfl, rfl, rfl, by decide +kernel, rfl, by decide +kernel, by decide +kernel⟩
  have nd := sc.nd
  refine D.ca0 sc (fun _ _ _ _ _ _ us hl => match us, hl with | [_, _, _], _ => rfl) (fun vs H Q E h => by obtain ⟨_, _, _, _, _, _, rfl, _⟩ := h; rfl) (fun f cdv A outer s H vs Q E hr h => ?_)
  obtain ⟨c, e, s, s', rv, r, rfl, rfl, rfl, rfl, ok, hf, hr', ⟨R, dx, st, sd, g, gs, f, fs, ef, rfl, S, hl⟩, ho, hb, h8, ha, q⟩ := h
  refine ⟨_, (pss_one (ps_expr (pe_bm PySem.F.plainAttrs_list PySem.F.slot_list_append PySem.F.type_list_append mt_append (pe_fld (pv 1) rfl) (pa_cons (pe_ix ix_lt (pv 2) pe_int (fun _ _ => rfl)) pa_nil)))), ?_⟩
  refine U.w_start (σ' := [some _, some _, some _]) rfl ?_
  walk_at "st"
  obtain ⟨n, rfl⟩ : ∃ n, r = .put n := by
    cases r <;> first | exact ⟨_, rfl⟩ | simp [Rw.fi] at hf
  obtain ⟨p, v1, v2, rfl, hT, h1, h2⟩ := dp_tup2 hr'
  cases dp_int h2
  have hp : f.pile.length ≤ 16000000 := hb.2 f (by rw [ef]; exact List.mem_cons_self ..)
  have hp2 : (plV f.pile).length < sizeLine := by rw [plV_len]; exact szl hp
  walk_at "go"
  have S1 := S.set 5 rfl (.lst (plV f.pile ++ [.int n]))
  unfold act at ha
  rw [ef] at ha
  cases ha
  refine q _ ?_
  rw [ho]
  exact InvM.of (gs := g :: gs) (fs := { f with pile := n :: f.pile } :: fs) S1 (congrArg (· + 1) hl) rfl
theorem ca_get (D : Df K mg "_get" (top 12)) (iE : CI K cE fE) (iM : CI K cM fM) : Ca P w K mg base CX0 1 "_get" (spAct K cM cE 1) := by
  have sc : FnScope ["machine", "now", "row"] ["machine", "now", "row"] (defScope (top 12)) := ⟨rfl, rfl, rfl, by decide +kernel, rfl, by decide +kernel, by decide +kernel⟩
  have nd := sc.nd
  refine D.ca0 sc (fun _ _ _ _ _ _ us hl => match us, hl with | [_, _, _], _ => rfl) (fun vs H Q E h => by obtain ⟨_, _, _, _, _, _, rfl, _⟩ := h; rfl) (fun f cdv A outer s H vs Q E hr h => ?_)
  obtain ⟨c, e, s, s', rv, r, rfl, rfl, rfl, rfl, ok, hf, hr', ⟨R, dx, st, sd, g, gs, f, fs, ef, rfl, S, hl⟩, ho, hb, h8, ha, q⟩ := h
  refine ⟨_, (pss_one (ps_expr (pe_bm PySem.F.plainAttrs_list PySem.F.slot_list_append PySem.F.type_list_append mt_append (pe_fld (pv 1) rfl) (pa_cons (pe_ix ix_lt (pe_fld (pv 1) rfl) (pe_ix ix_lt (pv 2) pe_int (fun _ _ => rfl)) (fun _ _ => rfl)) pa_nil)))), ?_⟩
  refine U.w_start (σ' := [some _, some _, some _]) rfl ?_
  walk_at "st"
  obtain ⟨n, rfl⟩ : ∃ n, r = .get n := by
    cases r <;> first | exact ⟨_, rfl⟩ | simp [Rw.fi] at hf
  obtain ⟨p, v1, v2, rfl, hT, h1, h2⟩ := dp_tup2 hr'
  cases dp_int h2
  have hp : f.pile.length ≤ 16000000 := hb.2 f (by rw [ef]; exact List.mem_cons_self ..)
  have hp2 : (plV f.pile).length < sizeLine := by rw [plV_len]; exact szl hp
  unfold act at ha
  rw [ef] at ha
  simp only at ha
  split at ha
  case h_2 => cases ha
  rename_i z hz
  cases ha
  walk_at "go"
  refine w_ixLL (xs := f.boxes.map .int) (SqL.of (S.get 4 rfl)) (v := .int z) (atI_map hz) ?_
  walk_at "go"
  have S1 := S.set 5 rfl (.lst (plV f.pile ++ [.int z]))
  refine q _ ?_
  rw [ho]
  exact InvM.of (gs := g :: gs) (fs := { f with pile := z :: f.pile } :: fs) S1 (congrArg (· + 1) hl) rfl
theorem ca_set (D : Df K mg "_set" (top 13)) (iE : CI K cE fE) (iM : CI K cM fM) : Ca P w K mg base CX0 1 "_set" (spAct K cM cE 2) := by
  have sc : FnScope ["machine", "now", "row"] ["machine", "now", "row"] (defScope (top 13)) := ⟨rfl, rfl, rfl, by decide +kernel, rfl, by decide +kernel, by decide +kernel⟩
  have nd := sc.nd
  refine D.ca0 sc (fun _ _ _ _ _ _ us hl => match us, hl with | [_, _, _], _ => rfl) (fun vs H Q E h => by obtain ⟨_, _, _, _, _, _, rfl, _⟩ := h; rfl) (fun f cdv A outer s H vs Q E hr h => ?_)
  obtain ⟨c, e, s, s', rv, r, rfl, rfl, rfl, rfl, ok, hf, hr', ⟨R, dx, st, sd, g, gs, f, fs, ef, rfl, S, hl⟩, ho, hb, h8, ha, q⟩ := h
  refine ⟨_, (pss_one (ps_asg (pe_bm0 PySem.F.plainAttrs_list PySem.F.slot_list_pop PySem.F.type_list_pop mt_pop (pe_fld (pv 1) rfl)) (pg_sub (pe_fld (pv 1) rfl) (pe_ix ix_lt (pv 2) pe_int (fun _ _ => rfl)) set_list))), ?_⟩
  refine U.w_start (σ' := [some _, some _, some _]) rfl ?_
  walk_at "st"
  obtain ⟨n, rfl⟩ : ∃ n, r = .set n := by
    cases r <;> first | exact ⟨_, rfl⟩ | simp [Rw.fi] at hf
  obtain ⟨p, v1, v2, rfl, hT, h1, h2⟩ := dp_tup2 hr'
  cases dp_int h2
  have hp : f.pile.length ≤ 16000000 := hb.2 f (by rw [ef]; exact List.mem_cons_self ..)
  unfold act at ha
  rw [ef] at ha
  simp only at ha
  split at ha
  case h_2 => cases ha
  rename_i z pl j hz hj
  cases ha
  rw [show f = ⟨f.place, f.boxes, z :: pl⟩ from by rw [← hz]] at S
  walk_at "go"
  have S1 := S.set 5 rfl (.lst (plV pl))
  walk_at "go"
  refine w_setL (xs := f.boxes.map .int) (S1.get 4 rfl) (j := j) (by rw [List.length_map]; exact hj) ?_
  rw [show (f.boxes.map V.int).set j (V.int z) = (f.boxes.set j z).map V.int from List.map_set.symm]
  have S2 := S1.set 4 rfl (.lst ((f.boxes.set j z).map .int))
  refine q _ ?_
  rw [ho]
  exact InvM.of (gs := g :: gs) (fs := { f with pile := pl, boxes := f.boxes.set j z } :: fs) S2 (congrArg (· + 1) hl) rfl
theorem ca_say (D : Df K mg "_say" (top 14)) (iE : CI K cE fE) (iM : CI K cM fM) : Ca P w K mg base CX0 1 "_say" (spAct K cM cE 3) := by
  have sc : FnScope ["machine", "now", "row"] ["machine", "now", "row"] (defScope (top 14)) := ⟨rfl, rfl, rfl, by decide +kernel, rfl, by decide +kernel, by decide +kernel⟩
  have nd := sc.nd
  refine D.ca0 sc (fun _ _ _ _ _ _ us hl => match us, hl with | [_, _, _], _ => rfl) (fun vs H Q E h => by obtain ⟨_, _, _, _, _, _, rfl, _⟩ := h; rfl) (fun f cdv A outer s H vs Q E hr h => ?_)
  obtain ⟨c, e, s, s', rv, r, rfl, rfl, rfl, rfl, ok, hf, hr', ⟨R, dx, st, sd, g, gs, f, fs, ef, rfl, S, hl⟩, ho, hb, h8, ha, q⟩ := h
  refine ⟨_, (pss_one (ps_expr (pe_bm PySem.F.plainAttrs_list PySem.F.slot_list_append PySem.F.type_list_append mt_append (pe_fld (pv 0) rfl) (pa_cons (pe_bm0 PySem.F.plainAttrs_list PySem.F.slot_list_pop PySem.F.type_list_pop mt_pop (pe_fld (pv 1) rfl)) pa_nil)))), ?_⟩
  refine U.w_start (σ' := [some _, some _, some _]) rfl ?_
  walk_at "st"
  obtain rfl : r = .say := by
    cases r <;> first | rfl | simp [Rw.fi] at hf
  obtain ⟨p, v1, rfl, hT, h1⟩ := dp_tup1 hr'
  have hp : f.pile.length ≤ 16000000 := hb.2 f (by rw [ef]; exact List.mem_cons_self ..)
  unfold act at ha
  rw [ef] at ha
  simp only at ha
  split at ha
  case h_2 => cases ha
  rename_i z pl hz
  cases ha
  rw [show f = ⟨f.place, f.boxes, z :: pl⟩ from by rw [← hz]] at S
  have hs2 : (s.said.map V.int).length < sizeLine := by rw [List.length_map]; exact szl hb.1
  walk_at "go"
  have S1 := S.set 5 rfl (.lst (plV pl))
  refine w_append (S1.get 1 rfl) hs2 ?_
  rw [show s.said.map V.int ++ [V.int z] = (s.said ++ [z]).map V.int from by rw [List.map_append]; rfl]
  have S2 := S1.set 1 rfl (.lst ((s.said ++ [z]).map .int))
  refine q _ ?_
  rw [ho]
  exact InvM.of (gs := g :: gs) (fs := { f with pile := pl } :: fs) (sd' := s.said ++ [z]) S2 (congrArg (· + 1) hl) rfl
theorem ca_go (D : Df K mg "_go" (top 16)) (iE : CI K cE fE) (iM : CI K cM fM) : Ca P w K mg base CX0 1 "_go" (spAct K cM cE 5) := by
  have sc : FnScope ["machine", "now", "row"] ["machine", "now", "row"] (defScope (top 16)) := ⟨rfl, rfl, rfl, by decide +kernel, rfl, by decide +kernel, by decide +kernel⟩
  have nd := sc.nd
  refine D.ca0 sc (fun _ _ _ _ _ _ us hl => match us, hl with | [_, _, _], _ => rfl) (fun vs H Q E h => by obtain ⟨_, _, _, _, _, _, rfl, _⟩ := h; rfl) (fun f cdv A outer s H vs Q E hr h => ?_)
  obtain ⟨c, e, s, s', rv, r, rfl, rfl, rfl, rfl, ok, hf, hr', ⟨R, dx, st, sd, g, gs, f, fs, ef, rfl, S, hl⟩, ho, hb, h8, ha, q⟩ := h
  refine ⟨_, (pss_one (ps_fld (pv 1) (pe_ix ix_lt (pv 2) pe_int (fun _ _ => rfl)) rfl)), ?_⟩
  refine U.w_start (σ' := [some _, some _, some _]) rfl ?_
  walk_at "st"
  obtain ⟨n, rfl⟩ : ∃ n, r = .go n := by
    cases r <;> first | exact ⟨_, rfl⟩ | simp [Rw.fi] at hf
  obtain ⟨p, v1, v2, rfl, hT, h1, h2⟩ := dp_tup2 hr'
  cases dp_int h2
  have hp : f.pile.length ≤ 16000000 := hb.2 f (by rw [ef]; exact List.mem_cons_self ..)
  unfold act at ha
  rw [ef] at ha
  cases ha
  walk_at "go"
  have S1 := S.set 3 rfl (.ins c.cE g.2.1 [("place", .int n), ("boxes", .ref g.2.2.1), ("pile", .ref g.2.2.2)])
  refine q _ ?_
  rw [ho]
  exact InvM.of (gs := g :: gs) (fs := { f with place := n } :: fs) S1 (congrArg (· + 1) hl) rfl
theorem ca_nought (D : Df K mg "_nought" (top 17)) (iE : CI K cE fE) (iM : CI K cM fM) : Ca P w K mg base CX0 1 "_nought" (spAct K cM cE 6) := by
  have sc : FnScope ["machine", "now", "row"] ["machine", "now", "row"] (defScope (top 17)) := ⟨rfl, rfl, rfl, by decide +kernel, rfl, by decide +kernel, by decide +kernel⟩
  have nd := sc.nd
  refine D.ca0 sc (fun _ _ _ _ _ _ us hl => match us, hl with | [_, _, _], _ => rfl) (fun vs H Q E h => by obtain ⟨_, _, _, _, _, _, rfl, _⟩ := h; rfl) (fun f cdv A outer s H vs Q E hr h => ?_)
  obtain ⟨c, e, s, s', rv, r, rfl, rfl, rfl, rfl, ok, hf, hr', ⟨R, dx, st, sd, g, gs, f, fs, ef, rfl, S, hl⟩, ho, hb, h8, ha, q⟩ := h
  refine ⟨_, (pss_one (ps_if (pt_cmpR op_eq (pe_bm0 PySem.F.plainAttrs_list PySem.F.slot_list_pop PySem.F.type_list_pop mt_pop (pe_fld (pv 1) rfl)) pe_int (nomark _)) (pss_one (ps_fld (pv 1) (pe_ix ix_lt (pv 2) pe_int (fun _ _ => rfl)) rfl)) pss_nil)), ?_⟩
  refine U.w_start (σ' := [some _, some _, some _]) rfl ?_
  walk_at "st"
  obtain ⟨n, rfl⟩ : ∃ n, r = .nought n := by
    cases r <;> first | exact ⟨_, rfl⟩ | simp [Rw.fi] at hf
  obtain ⟨p, v1, v2, rfl, hT, h1, h2⟩ := dp_tup2 hr'
  cases dp_int h2
  have hp : f.pile.length ≤ 16000000 := hb.2 f (by rw [ef]; exact List.mem_cons_self ..)
  unfold act at ha
  rw [ef] at ha
  simp only at ha
  split at ha
  case h_2 => cases ha
  rename_i z pl hz
  cases ha
  rw [show f = ⟨f.place, f.boxes, z :: pl⟩ from by rw [← hz]] at S
  walk_at "go"
  have S1 := S.set 5 rfl (.lst (plV pl))
  walk_at "go"
  refine it_cases (fun c1 => ?_) fun c1 => ?_
  · walk_at "go"
    have S2 := S1.set 3 rfl (.ins c.cE g.2.1 [("place", .int n), ("boxes", .ref g.2.2.1), ("pile", .ref g.2.2.2)])
    refine q _ ?_
    rw [ho, if_pos c1]
    exact InvM.of (gs := g :: gs) (fs := { f with pile := pl, place := n } :: fs) S2 (congrArg (· + 1) hl) rfl
  · walk_at "go"
    refine q _ ?_
    rw [ho, if_neg c1]
    exact InvM.of (gs := g :: gs) (fs := { f with pile := pl } :: fs) S1 (congrArg (· + 1) hl) rfl
theorem ca_on (D : Df K mg "_on" (top 18)) (iE : CI K cE fE) (iM : CI K cM fM) : Ca P w K mg base CX0 1 "_on" (spAct K cM cE 7) := by
  have sc : FnScope ["machine", "now", "row"] ["machine", "now", "row"] (defScope (top 18)) := ⟨rfl, rfl, rfl, by decide +kernel, rfl, by decide +kernel, by decide +kernel⟩
  have nd := sc.nd
  refine D.ca0 sc (fun _ _ _ _ _ _ us hl => match us, hl with | [_, _, _], _ => rfl) (fun vs H Q E h => by obtain ⟨_, _, _, _, _, _, rfl, _⟩ := h; rfl) (fun f cdv A outer s H vs Q E hr h => ?_)
  obtain ⟨c, e, s, s', rv, r, rfl, rfl, rfl, rfl, ok, hf, hr', ⟨R, dx, st, sd, g, gs, f, fs, ef, rfl, S, hl⟩, ho, hb, h8, ha, q⟩ := h
  refine ⟨_, (pss_one (ps_fld (pv 1) (pe_ix ix_lt (pe_fld (pv 1) rfl) (pe_ix ix_lt (pv 2) pe_int (fun _ _ => rfl)) (fun _ _ => rfl)) rfl)), ?_⟩
  refine U.w_start (σ' := [some _, some _, some _]) rfl ?_
  walk_at "st"
  obtain ⟨n, rfl⟩ : ∃ n, r = .on n := by
    cases r <;> first | exact ⟨_, rfl⟩ | simp [Rw.fi] at hf
  obtain ⟨p, v1, v2, rfl, hT, h1, h2⟩ := dp_tup2 hr'
  cases dp_int h2
  have hp : f.pile.length ≤ 16000000 := hb.2 f (by rw [ef]; exact List.mem_cons_self ..)
  unfold act at ha
  rw [ef] at ha
  simp only at ha
  split at ha
  case h_2 => cases ha
  rename_i z hz
  cases ha
  walk_at "go"
  refine w_ixLL (xs := f.boxes.map .int) (SqL.of (S.get 4 rfl)) (v := .int z) (atI_map hz) ?_
  walk_at "go"
  have S1 := S.set 3 rfl (.ins c.cE g.2.1 [("place", .int z), ("boxes", .ref g.2.2.1), ("pile", .ref g.2.2.2)])
  refine q _ ?_
  rw [ho]
  exact InvM.of (gs := g :: gs) (fs := { f with place := z } :: fs) S1 (congrArg (· + 1) hl) rfl
end
end M

namespace M
open PySem PySem.Spec PyProof.Rows L2 U MM
section
variable {P : Program} {w : World} {K : PySem.W.Frag} {mg : Str → Option Value} {base : Heap} {cM cE : Addr}
/-! ### methods -/
def spFault (K : PySem.W.Frag) (cM cE : Addr) : Sp := fun vs H Q _ => ∃ (c : Mc) (s : MS) (n : Int), vs = [.ref c.m, .int n] ∧ c.K = K ∧ c.cM = cM ∧ c.cE = cE ∧ c.Ok ∧ InvM c s H ∧ s.out = none ∧ ∀ H', InvM c (s.faulted c.C.str n) H' → Q .non H'
def spTurn (K : PySem.W.Frag) (cM cE : Addr) : Sp := fun vs H Q _ => ∃ (c : Mc) (s : MS), vs = [.ref c.m] ∧ c.K = K ∧ c.cM = cM ∧ c.cE = cE ∧ InvM c s H ∧ s.out = none ∧
  (s.turns < 1 → ∀ H', InvM c { s with out := some .tired } H' → Q (.bl false) H') ∧ (¬ s.turns < 1 → ∀ H', InvM c { s with turns := s.turns - 1 } H' → Q (.bl true) H')
def spEnter (K : PySem.W.Frag) (cM cE : Addr) : Sp := fun vs H Q _ => ∃ (c : Mc) (s s' : MS) (f n : Int), vs = [.ref c.m, .int f, .int n] ∧ c.K = K ∧ c.cM = cM ∧ c.cE = cE ∧ c.Ok ∧ InvM c s H ∧ s.out = none ∧ s.fs.length ≤ 8 ∧ enter c.C f n s = some s' ∧ ∀ H', InvM c s' H' → Q .non H'
def spNew (cE : Addr) : Sp := fun vs H Q _ => ∃ (R0 B R : Hp) (L : List (Addr × HO)) (a dx : Addr) (place n b : Int), vs = [.ref a, .int place, .int n, .int b] ∧ 0 ≤ b ∧ b ≤ 100000 ∧ Sta [] R0 B R H ((a, .ins cE dx []) :: L) ∧
  ∀ bx pl H', Sta [] R0 B R H' ((a, .ins cE dx [("place", .int place), ("boxes", .ref bx), ("pile", .ref pl)]) :: (bx, .lst ((n :: List.replicate (b - 1).toNat 0).map .int)) :: (pl, .lst []) :: L) → Q .non H'
theorem ca_turn_ (D : DfM K mg "Machine" cM "take_turn" "Machine.take_turn" (inClass (top 7) 1)) (iM : CI K cM fM) : CaM P w K mg base CX0 1 cM "take_turn" (spTurn K cM cE) := by
  have sc : FnScope ["self"] ["self"] (defScope (inClass (top 7) 1)) := ⟨rfl, rfl, rfl, by decide +kernel, rfl, by decide +kernel, by decide +kernel⟩
  have nd := sc.nd
  refine D.ca0 sc (fun _ _ _ _ _ _ us hl => match us, hl with | [_], _ => rfl) (fun vs H Q E h => by obtain ⟨_, _, rfl, _⟩ := h; rfl) (fun f cdv A outer s H vs Q E hr h => ?_)
  obtain ⟨c, s, rfl, rfl, rfl, rfl, ⟨R, dx, st, sd, ov, gs, S, hl, hov⟩, ho, q1, q2⟩ := h
  refine ⟨_, (pss_cons (ps_if (pt_cmpR op_lt (pe_fld (pv 0) rfl) pe_int (nomark _)) (pss_cons (ps_fld (pv 0) (pe_tup (pa_cons pe_str (pa_cons pe_int pa_nil))) rfl)
    (pss_one (ps_ret pe_bl))) pss_nil)
    (pss_cons (ps_fldaug (pv 0) pe_int in_sub)
    (pss_one (ps_ret pe_bl)))), ?_⟩
  refine U.w_start (σ' := [some _]) rfl ?_
  walk_at "st"
  walk_at "if"
  refine it_cases (fun c1 => ?_) fun c1 => ?_
  · walk_at "go"
    intro p np
    walk_at "go"
    have S1 := (S.newR np (.tup [.str "tired", .int 0])).set 0 rfl (.ins c.cM dx [("rows", .ref c.aR), ("stretches", .ref c.aS), ("begins", .ref c.aB), ("boxes", .int c.C.boxes), ("turns", .int s.turns), ("standing", .ref st), ("said", .ref sd), ("outcome", .ref p)])
    exact q1 c1 _ (InvM.of S1 hl ⟨p, rfl, upd_same⟩)
  · walk_at "go"
    have S1 := S.set 0 rfl (.ins c.cM dx [("rows", .ref c.aR), ("stretches", .ref c.aS), ("begins", .ref c.aB), ("boxes", .int c.C.boxes), ("turns", .int (s.turns - 1)), ("standing", .ref st), ("said", .ref sd), ("outcome", ov)])
    exact q2 c1 _ (InvM.of S1 hl hov)
theorem rep1 (k : Nat) : (List.replicate k [V.int 0]).flatten = (List.replicate k 0).map V.int := by
  induction k with
  | zero => rfl
  | succ k ih =>
    rw [List.replicate_succ, List.replicate_succ, List.flatten_cons, ih]
    rfl
theorem ca_new (D : DfI K mg "Entered" cE "Entered.__init__" (inClass (top 6) 0)) (iE : CI K cE fE) : CaI P w K mg base CX0 1 "Entered" cE (spNew cE) := by
  have sc : FnScope ["self", "place", "number", "boxes"] ["self", "place", "number", "boxes"] (defScope (inClass (top 6) 0)) := ⟨rfl, rfl, rfl, by decide +kernel, rfl, by decide +kernel, by decide +kernel⟩
  have nd := sc.nd
  refine D.ca0 sc (fun _ _ _ _ _ _ us hl => match us, hl with | [_, _, _, _], _ => rfl) (fun vs H Q E h => by obtain ⟨_, _, _, _, _, _, _, _, _, rfl, _⟩ := h; rfl) (fun f cdv A outer s H vs Q E hr h => ?_)
  obtain ⟨R0, B, R, L, a, dx, place, n, b, rfl, hb0, hb, S, q⟩ := h
  refine ⟨_, (pss_cons (ps_fld (pv 0) (pv 1) rfl)
    (pss_cons (ps_fld (pv 0) (pe_op op_cat (pe_lst (pa_cons (pv 2) pa_nil)) (pe_op op_rep (pe_lst (pa_cons pe_int pa_nil)) (pe_op op_sub (pv 3) pe_int))) rfl)
    (pss_one (ps_fld (pv 0) (pe_lst pa_nil) rfl)))), ?_⟩
  refine U.w_start (σ' := [some _, some _, some _, some _]) rfl ?_
  walk_at "st"
  have S1 := S.set 0 rfl (.ins cE dx [("place", .int place)])
  intro p np
  walk_at "go"
  have S2 := S1.new np (.lst [.int n])
  intro p2 np2
  walk_at "go"
  have S3 := S2.new np2 (.lst [.int 0])
  refine ⟨p2, b - 1, [.int 0], rfl, rfl, S3.get 0 rfl, by omega, by omega, (by show 1 * (b - 1).toNat ≤ sizeLine; rw [sizeLine_eq]; omega), fun p3 np3 => ?_⟩
  rw [rep1] at *
  have S4 := S3.new np3 (.lst ((List.replicate (b - 1).toNat 0).map .int))
  refine ⟨p, p3, _, _, rfl, rfl, S4.get 2 rfl, S4.get 0 rfl, (by rw [List.length_map, List.length_replicate]; show 1 + (b - 1).toNat ≤ sizeLine; rw [sizeLine_eq]; omega), fun p4 np4 => ?_⟩
  have S5 := S4.new np4 (.lst ((n :: List.replicate (b - 1).toNat 0).map .int))
  walk_at "go"
  have S6 := S5.set 4 rfl (.ins cE dx [("place", .int place), ("boxes", .ref p4)])
  intro p5 np5
  walk_at "go"
  have S7 := S6.new np5 (.lst [])
  have S8 := S7.set 5 rfl (.ins cE dx [("place", .int place), ("boxes", .ref p4), ("pile", .ref p5)])
  have S9 := S8.less (L' := (p5, .lst []) :: (p4, .lst ((n :: List.replicate (b - 1).toNat 0).map .int)) :: (a, .ins cE dx [("place", .int place), ("boxes", .ref p4), ("pile", .ref p5)]) :: L) (.cons₂ _ (.cons₂ _ (.cons _ (.cons _ (.cons _ (.refl _))))))
  exact q p4 p5 _ (S9.perm ((List.reverse_perm [((p5, .lst []) : Addr × HO), (p4, .lst ((n :: List.replicate (b - 1).toNat 0).map .int)), (a, .ins cE dx [("place", .int place), ("boxes", .ref p4), ("pile", .ref p5)])]).symm.append_right L))
theorem fault_cons {S : List St3} {n : Int} {f : MM.Fr} {r : List MM.Fr} : fault S n (f :: r) = (match goal (f.place - 1) S with | some g => ({ f with place := g, pile := [n] } :: r, none) | none => fault S n r) := rfl
theorem ca_fault (D : DfM K mg "Machine" cM "fault" "Machine.fault" (inClass (top 7) 3)) (iE : CI K cE fE) (iM : CI K cM fM) (c_goal_of : Ca P w K mg base CX0 1 "goal_of" (spGoal K)) : CaM P w K mg base CX0 2 cM "fault" (spFault K cM cE) := by
  have sc : FnScope ["self", "number", "now", "goal"] ["self", "number"] (defScope (inClass (top 7) 3)) := ⟨rfl, rfl, rfl, by decide +kernel, rfl, by decide +kernel, by decide +kernel⟩
  have nd := sc.nd
  refine D.ca0 sc (fun _ _ _ _ _ _ us hl => match us, hl with | [_, _], _ => rfl) (fun vs H Q E h => by obtain ⟨_, _, _, rfl, _⟩ := h; rfl) (fun f cdv A outer s H vs Q E hr h => ?_)
  obtain ⟨c, s, n, rfl, rfl, rfl, rfl, ok, ⟨R, dx, st, sd, ov, gs, S, hl, hov⟩, ho, q⟩ := h
  refine ⟨_, (pss_cons (ps_while PassesOwn.never (pt_tru (pe_fld (pv 0) rfl)) (pss_cons (ps_set (i := 2) nd rfl (by first | exact Or.inl rfl | exact Or.inr rfl) (pe_ix ix_lt (pe_fld (pv 0) rfl) (pe_un un_neg pe_int) (fun _ _ => rfl)))
    (pss_cons (ps_set (i := 3) nd rfl (by first | exact Or.inl rfl | exact Or.inr rfl) (pe_ca c_goal_of hr (by omega) rfl pass0 (pa_cons (pe_fld (pv 0) rfl) (pa_cons (pe_op op_sub (pe_fld (pv 2) rfl) pe_int) pa_nil))))
    (pss_cons (ps_if (pt_cmpR op_notNo (pv 3) pe_non (nomark _)) (pss_cons (ps_fld (pv 2) (pe_lst (pa_cons (pv 1) pa_nil)) rfl)
    (pss_cons (ps_fld (pv 2) (pv 3) rfl)
    (pss_one ps_retN))) pss_nil)
    (pss_one (ps_expr (pe_bm0 PySem.F.plainAttrs_list PySem.F.slot_list_pop PySem.F.type_list_pop mt_pop (pe_fld (pv 0) rfl))))))))
    (pss_one (ps_fld (pv 0) (pe_tup (pa_cons pe_str (pa_cons (pv 1) pa_nil))) rfl))), ?_⟩
  refine U.w_start (σ' := [some _, some _, none, none]) rfl ?_
  walk_at "st"
  refine w_lpJ (by walk_at "set") (fun σ' H' => ∃ R v2 v3, σ' = [some (.ref c.m), some (.int n), v2, v3] ∧ Sta [] c.R0 c.B R H' (mL c dx st sd s.turns s.said ov [] []) ∧ OutV R ov s.out ∧ fault c.C.str n s.fs = fault c.C.str n []) (fun nx' kj => ?_) (fun σ' H' hj => ?_)
  · refine w_while (fun k σ' H' => ∃ gs fs v2 v3, σ' = [some (.ref c.m), some (.int n), v2, v3] ∧ Sta [] c.R0 c.B R H' (mL c dx st sd s.turns s.said ov gs fs) ∧ gs.length = fs.length ∧ k = fs.length ∧ fault c.C.str n s.fs = fault c.C.str n fs) s.fs.length ⟨gs, s.fs, none, none, rfl, S, hl, rfl, rfl⟩ (fun k σ' H' hw => ?_)
    obtain ⟨gs, fs, v2, v3, rfl, S, hl, rfl, e⟩ := hw
    walk_at "go"
    cases gs with
    | nil =>
      cases fs with
      | cons f fs => simp at hl
      | nil =>
        refine w_whF ?_
        exact kj _ _ ⟨R, _, _, rfl, S, hov, e⟩
    | cons g gs =>
      cases fs with
      | nil => simp at hl
      | cons f fs =>
        have hb : (!(srV (g :: gs)).isEmpty) = true := by
          show (!(srV gs ++ [V.ref g.1]).isEmpty) = true
          simp
        rw [hb]
        refine w_whT ?_
        walk_at "go"
        refine w_ixLL (xs := srV gs ++ [V.ref g.1]) (SqL.of (S.get 2 rfl)) (v := .ref g.1) (atI_last _ _) ?_
        walk_at "go"
        obtain ⟨xs, h1, h2⟩ := ok.str
        refine ⟨c.aS, xs, c.C.str, f.place - 1, rfl, Same.seqL S.old h1, h2.up S.old, ?_⟩
        rw [fault_cons] at e
        walk_at "go"
        walk_at "if"
        cases hg : goal (f.place - 1) c.C.str with
        | some z =>
          rw [hg] at e
          walk_at "go"
          intro p np
          walk_at "go"
          have S1 := S.new np (.lst [.int n])
          walk_at "go"
          have S2 := S1.set 4 rfl (.ins c.cE g.2.1 [("place", .int f.place), ("boxes", .ref g.2.2.1), ("pile", .ref p)])
          walk_at "go"
          have S3 := S2.set 4 rfl (.ins c.cE g.2.1 [("place", .int z), ("boxes", .ref g.2.2.1), ("pile", .ref p)])
          refine q _ ?_
          unfold MS.faulted
          rw [e]
          have S4 := S3.less (L' := (p, .lst [.int n]) :: (c.m, _) :: (sd, _) :: (st, _) :: (g.1, _) :: (g.2.2.1, _) :: frs c gs fs) (.cons₂ _ (.cons₂ _ (.cons₂ _ (.cons₂ _ (.cons₂ _ (.cons₂ _ (.cons _ (.refl _))))))))
          have hov' : ov = .non := by rw [ho] at hov; exact hov
          rw [hov'] at S4
          refine InvM.of (gs := (g.1, g.2.1, g.2.2.1, p) :: gs) (fs := { f with place := z, pile := [n] } :: fs) (S4.perm ((List.perm_append_comm (l₁ := [((p, .lst [.int n]) : Addr × HO)]) (l₂ := [(c.m, _), (sd, _), (st, _), (g.1, _), (g.2.2.1, _)])).append_right (frs c gs fs))) (congrArg (· + 1) (by simpa using hl)) rfl
        | none =>
          rw [hg] at e
          walk_at "go"
          have S1 := S.set 2 rfl (.lst (srV gs))
          have S2 := S1.less (L' := mL c dx st sd s.turns s.said ov gs fs) (.cons₂ _ (.cons₂ _ (.cons₂ _ (.cons _ (.cons _ (.cons _ (.refl _)))))))
          exact ⟨fs.length, Nat.lt_succ_self _, gs, fs, _, _, rfl, S2, by simpa using hl, rfl, e⟩
  · obtain ⟨R, v2, v3, rfl, S, hov, e⟩ := hj
    walk_at "go"
    intro p np
    walk_at "go"
    have S1 := (S.newR np (.tup [.str "fault", .int n])).set 0 rfl (.ins c.cM dx [("rows", .ref c.aR), ("stretches", .ref c.aS), ("begins", .ref c.aB), ("boxes", .int c.C.boxes), ("turns", .int s.turns), ("standing", .ref st), ("said", .ref sd), ("outcome", .ref p)])
    refine q _ ?_
    unfold MS.faulted
    rw [e]
    exact InvM.of (gs := []) (fs := []) S1 rfl ⟨p, rfl, upd_same⟩
theorem ca_enter (D : DfM K mg "Machine" cM "enter" "Machine.enter" (inClass (top 7) 2)) (iE : CI K cE fE) (iM : CI K cM fM) (g_DEEPEST : ∃ t, mg "DEEPEST" = some (.int 8 t)) (g_DEEP : ∃ t, mg "DEEP" = some (.int 102 t)) (B : Bi mg)
    (M_fault : CaM P w K mg base CX0 2 cM "fault" (spFault K cM cE)) (c_Entered : CaI P w K mg base CX0 1 "Entered" cE (spNew cE)) : CaM P w K mg base CX0 4 cM "enter" (spEnter K cM cE) := by
  obtain ⟨f_fault, fd_fault, ps_fault, F_fault, hm_fault, b_fault⟩ := M_fault.ex
  have cls_fault := iM.cls
  have sc : FnScope ["self", "function", "number"] ["self", "function", "number"] (defScope (inClass (top 7) 2)) := ⟨rfl, rfl, rfl, by decide +kernel, rfl, by decide +kernel, by decide +kernel⟩
  have nd := sc.nd
  refine D.ca0 sc (fun _ _ _ _ _ _ us hl => match us, hl with | [_, _, _], _ => rfl) (fun vs H Q E h => by obtain ⟨_, _, _, _, _, rfl, _⟩ := h; rfl) (fun f cdv A outer s H vs Q E hr h => ?_)
  obtain ⟨c, s, s', fn, n, rfl, rfl, rfl, rfl, ok, ⟨R, dx, st, sd, ov, gs, S, hl, hov⟩, ho, h8, he, q⟩ := h
  refine ⟨_, (pss_one (ps_if (pt_cmpR op_eq (pe_callB call_lenA rfl B.len PySem.boot_len (pa_cons (pe_fld (pv 0) rfl) pa_nil)) (pe_gi rfl g_DEEPEST) (nomark _)) (pss_one (ps_expr (pe_meth (pv 0) cls_fault hm_fault F_fault (hr.mono (by omega)) b_fault .nil pass0 (pa_cons (pe_gi rfl g_DEEP) pa_nil)))) (pss_one (ps_expr (pe_bm PySem.F.plainAttrs_list PySem.F.slot_list_append PySem.F.type_list_append mt_append (pe_fld (pv 0) rfl) (pa_cons (pe_mk c_Entered hr (by omega) rfl pass0 (pa_cons (pe_ix ix_lt (pe_fld (pv 0) rfl) (pv 1) (fun _ _ => rfl)) (pa_cons (pv 2) (pa_cons (pe_fld (pv 0) rfl) pa_nil)))) pa_nil)))))), ?_⟩
  refine U.w_start (σ' := [some _, some _, some _]) rfl ?_
  walk_at "st"
  have hsr : (srV gs).length = s.fs.length := by rw [srV_len, hl]
  rw [hsr]
  unfold enter at he
  refine it_cases (fun c1 => ?_) fun c1 => ?_
  · rw [if_pos (by omega)] at he
    cases he
    walk_at "go"
    exact ⟨c, s, 102, rfl, rfl, rfl, rfl, ok, ⟨R, dx, st, sd, ov, gs, S, hl, hov⟩, ho, q⟩
  · rw [if_neg (by omega)] at he
    split at he
    case h_2 => cases he
    rename_i b hb
    cases he
    walk_at "go"
    refine w_ixLL (xs := c.C.begins.map .int) (Same.seqL S.old ok.beg) (v := .int b) (atI_map hb) ?_
    walk_at "go"
    intro x dx' nx ndx ne
    have S1 := (S.newX ndx (.own x)).new (p := x) (by rw [upd_ne (Ne.symm ne)]; exact nx) (.ins c.cE dx' [])
    refine ⟨c.R0, c.B, R, _, x, dx', b, n, c.C.boxes, rfl, ok.bxs0, ok.bxs, S1, fun bx pl H' S2 => ⟨rfl, ?_⟩⟩
    have hz : (srV gs).length < sizeLine := by rw [hsr, sizeLine_eq]; omega
    have e4 : H' st = some (.lst (srV gs)) := S2.get 5 rfl
    walk_at "go"
    have S3 := S2.set 5 rfl (.lst (srV gs ++ [.ref x]))
    refine q _ ?_
    have S4 := S3.perm ((List.perm_append_comm (l₁ := [((x, _) : Addr × HO), (bx, _), (pl, _)]) (l₂ := [(c.m, _), (sd, _), (st, _)])).append_right (frs c gs s.fs))
    exact InvM.of (gs := (x, dx', bx, pl) :: gs) (fs := newFr c.C b n :: s.fs) S4 (congrArg (· + 1) hl) hov
end
end M

namespace M
open PySem PySem.Spec PyProof.Rows L2 U MM
section
variable {P : Program} {w : World} {K : PySem.W.Frag} {mg : Str → Option Value} {base : Heap} {cM cE : Addr}
theorem ca_turn (D : Df K mg "_turn" (top 19)) (iE : CI K cE fE) (iM : CI K cM fM) (M_turn : CaM P w K mg base CX0 1 cM "take_turn" (spTurn K cM cE)) : Ca P w K mg base CX0 2 "_turn" (spAct K cM cE 8) := by
  obtain ⟨f_take_turn, fd_take_turn, ps_take_turn, F_take_turn, hm_take_turn, b_take_turn⟩ := M_turn.ex
  have cls_take_turn := iM.cls
  have sc : FnScope ["machine", "now", "row"] ["machine", "now", "row"] (defScope (top 19)) := ⟨rfl, rfl, rfl, by decide +kernel, rfl, by decide +kernel, by decide +kernel⟩
  have nd := sc.nd
  refine D.ca0 sc (fun _ _ _ _ _ _ us hl => match us, hl with | [_, _, _], _ => rfl) (fun vs H Q E h => by obtain ⟨_, _, _, _, _, _, rfl, _⟩ := h; rfl) (fun f cdv A outer s H vs Q E hr h => ?_)
  obtain ⟨c, e, s, s', rv, r, rfl, rfl, rfl, rfl, ok, hf, hr', ⟨R, dx, st, sd, g, gs, f, fs, ef, rfl, S, hl⟩, ho, hb, h8, ha, q⟩ := h
  refine ⟨_, (pss_one (ps_expr (pe_meth0 (pv 0) cls_take_turn hm_take_turn F_take_turn (hr.mono (by omega)) b_take_turn .nil pass0))), ?_⟩
  refine U.w_start (σ' := [some _, some _, some _]) rfl ?_
  walk_at "st"
  obtain rfl : r = .turn := by
    cases r <;> first | rfl | simp [Rw.fi] at hf
  unfold act at ha
  rw [ef] at ha
  simp only at ha
  walk_at "go"
  rw [← ef] at S
  refine ⟨c, s, rfl, rfl, rfl, rfl, ⟨R, dx, st, sd, .non, g :: gs, S, by rw [ef]; exact congrArg (· + 1) hl, by rw [ho]; rfl⟩, ho, fun h H' i => ?_, fun h H' i => ?_⟩
  · rw [if_pos h] at ha
    cases ha
    walk_at "go"
    rw [ef] at i
    exact q _ i
  · rw [if_neg h] at ha
    cases ha
    walk_at "go"
    rw [ef] at i
    exact q _ i
theorem ca_raise (D : Df K mg "_raise" (top 22)) (iE : CI K cE fE) (iM : CI K cM fM) (M_fault : CaM P w K mg base CX0 2 cM "fault" (spFault K cM cE)) : Ca P w K mg base CX0 3 "_raise" (spAct K cM cE 11) := by
  obtain ⟨f_fault, fd_fault, ps_fault, F_fault, hm_fault, b_fault⟩ := M_fault.ex
  have cls_fault := iM.cls
  have sc : FnScope ["machine", "now", "row"] ["machine", "now", "row"] (defScope (top 22)) := ⟨rfl, rfl, rfl, by decide +kernel, rfl, by decide +kernel, by decide +kernel⟩
  have nd := sc.nd
  refine D.ca0 sc (fun _ _ _ _ _ _ us hl => match us, hl with | [_, _, _], _ => rfl) (fun vs H Q E h => by obtain ⟨_, _, _, _, _, _, rfl, _⟩ := h; rfl) (fun f cdv A outer s H vs Q E hr h => ?_)
  obtain ⟨c, e, s, s', rv, r, rfl, rfl, rfl, rfl, ok, hf, hr', ⟨R, dx, st, sd, g, gs, f, fs, ef, rfl, S, hl⟩, ho, hb, h8, ha, q⟩ := h
  refine ⟨_, (pss_one (ps_expr (pe_meth (pv 0) cls_fault hm_fault F_fault (hr.mono (by omega)) b_fault .nil pass0 (pa_cons (pe_bm0 PySem.F.plainAttrs_list PySem.F.slot_list_pop PySem.F.type_list_pop mt_pop (pe_fld (pv 1) rfl)) pa_nil)))), ?_⟩
  refine U.w_start (σ' := [some _, some _, some _]) rfl ?_
  walk_at "st"
  obtain rfl : r = .raise := by
    cases r <;> first | rfl | simp [Rw.fi] at hf
  unfold act at ha
  rw [ef] at ha
  simp only at ha
  split at ha
  case h_2 => cases ha
  rename_i z pl hz
  cases ha
  rw [show f = ⟨f.place, f.boxes, z :: pl⟩ from by rw [← hz]] at S
  walk_at "go"
  have S1 := S.set 5 rfl (.lst (plV pl))
  refine ⟨c, { s with fs := { f with pile := pl } :: fs }, z, rfl, rfl, rfl, rfl, ok, ⟨R, dx, st, sd, .non, g :: gs, S1, congrArg (· + 1) hl, by show OutV R .non s.out; rw [ho]; rfl⟩, ho, fun H' i => ?_⟩
  walk_at "go"
  exact q _ i
theorem ca_reckon (D : Df K mg "_reckon" (top 15)) (iE : CI K cE fE) (iM : CI K cM fM) (g_NOUGHT : ∃ t, mg "NOUGHT" = some (.int 101 t)) (M_fault : CaM P w K mg base CX0 2 cM "fault" (spFault K cM cE))
    (c_reckoned : Ca P w K mg base CX0 40 "reckoned" spReck) : Ca P w K mg base CX0 41 "_reckon" (spAct K cM cE 4) := by
  obtain ⟨f_fault, fd_fault, ps_fault, F_fault, hm_fault, b_fault⟩ := M_fault.ex
  have cls_fault := iM.cls
  have sc : FnScope ["machine", "now", "row", "other", "one", "both"] ["machine", "now", "row"] (defScope (top 15)) := ⟨rfl, rfl, rfl, by decide +kernel, rfl, by decide +kernel, by decide +kernel⟩
  have nd := sc.nd
  refine D.ca0 sc (fun _ _ _ _ _ _ us hl => match us, hl with | [_, _, _], _ => rfl) (fun vs H Q E h => by obtain ⟨_, _, _, _, _, _, rfl, _⟩ := h; rfl) (fun f cdv A outer s H vs Q E hr h => ?_)
  obtain ⟨c, e, s, s', rv, r, rfl, rfl, rfl, rfl, ok, hf, hr', ⟨R, dx, st, sd, g, gs, f, fs, ef, rfl, S, hl⟩, ho, hb, h8, ha, q⟩ := h
  refine ⟨_, (pss_cons (ps_set (i := 3) nd rfl (by first | exact Or.inl rfl | exact Or.inr rfl) (pe_bm0 PySem.F.plainAttrs_list PySem.F.slot_list_pop PySem.F.type_list_pop mt_pop (pe_fld (pv 1) rfl)))
    (pss_cons (ps_set (i := 4) nd rfl (by first | exact Or.inl rfl | exact Or.inr rfl) (pe_bm0 PySem.F.plainAttrs_list PySem.F.slot_list_pop PySem.F.type_list_pop mt_pop (pe_fld (pv 1) rfl)))
    (pss_cons (ps_set (i := 5) nd rfl (by first | exact Or.inl rfl | exact Or.inr rfl) (pe_ca c_reckoned hr (by omega) rfl pass0 (pa_cons (pe_ix ix_lt (pv 2) pe_int (fun _ _ => rfl)) (pa_cons (pv 4) (pa_cons (pv 3) pa_nil)))))
    (pss_one (ps_if (pt_cmpR op_isNo (pv 5) pe_non (nomark _)) (pss_one (ps_expr (pe_meth (pv 0) cls_fault hm_fault F_fault (hr.mono (by omega)) b_fault .nil pass0 (pa_cons (pe_gi rfl g_NOUGHT) pa_nil)))) (pss_one (ps_expr (pe_bm PySem.F.plainAttrs_list PySem.F.slot_list_append PySem.F.type_list_append mt_append (pe_fld (pv 1) rfl) (pa_cons (pv 5) pa_nil))))))))), ?_⟩
  refine U.w_start (σ' := [some _, some _, some _, none, none, none]) rfl ?_
  walk_at "st"
  obtain ⟨o, rfl⟩ : ∃ o, r = .rek o := by
    cases r <;> first | exact ⟨_, rfl⟩ | simp [Rw.fi] at hf
  obtain ⟨p, v1, rfl, hT, h1⟩ := dp_tup1 hr'
  cases dp_str h1
  have hp : f.pile.length ≤ 16000000 := hb.2 f (by rw [ef]; exact List.mem_cons_self ..)
  unfold act at ha
  rw [ef] at ha
  simp only at ha
  split at ha
  case h_2 => cases ha
  rename_i b a pl hz
  rw [hz] at hp
  rw [show f = ⟨f.place, f.boxes, b :: a :: pl⟩ from by rw [← hz]] at S
  walk_at "go"
  have S1 := S.set 5 rfl (.lst (plV (a :: pl)))
  walk_at "go"
  have S2 := S1.set 5 rfl (.lst (plV pl))
  walk_at "go"
  refine ⟨o, a, b, rfl, ?_⟩
  have hp2 : (plV pl).length < sizeLine := by rw [plV_len]; simp at hp; exact szl (by omega)
  split at ha
  · rename_i z hz2
    rw [hz2]
    cases ha
    walk_at "go"
    have S3 := S2.set 5 rfl (.lst (plV pl ++ [.int z]))
    refine q _ ?_
    rw [ho]
    exact InvM.of (gs := g :: gs) (fs := { f with pile := z :: pl } :: fs) S3 (congrArg (· + 1) hl) rfl
  · rename_i hz2
    rw [hz2]
    cases ha
    walk_at "go"
    refine ⟨c, { s with fs := { f with pile := pl } :: fs }, 101, rfl, rfl, rfl, rfl, ok, ⟨R, dx, st, sd, .non, g :: gs, S2, congrArg (· + 1) hl, by show OutV R .non s.out; rw [ho]; rfl⟩, ho, fun H' i => ?_⟩
    walk_at "go"
    exact q _ i
theorem ca_call (D : Df K mg "_call" (top 20)) (iE : CI K cE fE) (iM : CI K cM fM) (M_turn : CaM P w K mg base CX0 1 cM "take_turn" (spTurn K cM cE)) (M_enter : CaM P w K mg base CX0 4 cM "enter" (spEnter K cM cE)) : Ca P w K mg base CX0 5 "_call" (spAct K cM cE 9) := by
  obtain ⟨f_take_turn, fd_take_turn, ps_take_turn, F_take_turn, hm_take_turn, b_take_turn⟩ := M_turn.ex
  obtain ⟨f_enter, fd_enter, ps_enter, F_enter, hm_enter, b_enter⟩ := M_enter.ex
  have cls_take_turn := iM.cls
  have cls_enter := iM.cls
  have sc : FnScope ["machine", "now", "row", "number"] ["machine", "now", "row"] (defScope (top 20)) := ⟨rfl, rfl, rfl, by decide +kernel, rfl, by decide +kernel, by decide +kernel⟩
  have nd := sc.nd
  refine D.ca0 sc (fun _ _ _ _ _ _ us hl => match us, hl with | [_, _, _], _ => rfl) (fun vs H Q E h => by obtain ⟨_, _, _, _, _, _, rfl, _⟩ := h; rfl) (fun f cdv A outer s H vs Q E hr h => ?_)
  obtain ⟨c, e, s, s', rv, r, rfl, rfl, rfl, rfl, ok, hf, hr', ⟨R, dx, st, sd, g, gs, f, fs, ef, rfl, S, hl⟩, ho, hb, h8, ha, q⟩ := h
  refine ⟨_, (pss_cons (ps_set (i := 3) nd rfl (by first | exact Or.inl rfl | exact Or.inr rfl) (pe_bm0 PySem.F.plainAttrs_list PySem.F.slot_list_pop PySem.F.type_list_pop mt_pop (pe_fld (pv 1) rfl)))
    (pss_one (ps_if (pt_val (pe_meth0 (pv 0) cls_take_turn hm_take_turn F_take_turn (hr.mono (by omega)) b_take_turn .nil pass0)) (pss_one (ps_expr (pe_meth (pv 0) cls_enter hm_enter F_enter (hr.mono (by omega)) b_enter .nil pass0 (pa_cons (pe_ix ix_lt (pv 2) pe_int (fun _ _ => rfl)) (pa_cons (pv 3) pa_nil))))) pss_nil))), ?_⟩
  refine U.w_start (σ' := [some _, some _, some _, none]) rfl ?_
  walk_at "st"
  obtain ⟨n, rfl⟩ : ∃ n, r = .call n := by
    cases r <;> first | exact ⟨_, rfl⟩ | simp [Rw.fi] at hf
  obtain ⟨p, v1, v2, rfl, hT, h1, h2⟩ := dp_tup2 hr'
  cases dp_int h2
  unfold act at ha
  rw [ef] at ha
  simp only at ha
  split at ha
  case h_2 => cases ha
  rename_i z pl hz
  rw [show f = ⟨f.place, f.boxes, z :: pl⟩ from by rw [← hz]] at S
  walk_at "go"
  have S1 := S.set 5 rfl (.lst (plV pl))
  walk_at "go"
  refine ⟨c, { s with fs := { f with pile := pl } :: fs }, rfl, rfl, rfl, rfl, ⟨R, dx, st, sd, .non, g :: gs, S1, congrArg (· + 1) hl, by show OutV R .non s.out; rw [ho]; rfl⟩, ho, fun h H' i => ?_, fun h H' i => ?_⟩
  · rw [if_pos h] at ha
    cases ha
    walk_at "go"
    exact q _ i
  · rw [if_neg h] at ha
    walk_at "go"
    obtain ⟨R, dx, st, sd, ov, gs', S2, hl2, hov⟩ := i.ex
    walk_at "go"
    exact ⟨c, _, s', n, z, rfl, rfl, rfl, rfl, ok, i, ho, by show (_ :: fs).length ≤ 8; rw [ef] at h8; exact h8, ha, fun H2 i2 => by walk_at "go"; exact q _ i2⟩
theorem ca_back (D : Df K mg "_back" (top 21)) (iE : CI K cE fE) (iM : CI K cM fM) : Ca P w K mg base CX0 1 "_back" (spAct K cM cE 10) := by
  have sc : FnScope ["machine", "now", "row", "number"] ["machine", "now", "row"] (defScope (top 21)) := ⟨rfl, rfl, rfl, by decide +kernel, rfl, by decide +kernel, by decide +kernel⟩
  have nd := sc.nd
  refine D.ca0 sc (fun _ _ _ _ _ _ us hl => match us, hl with | [_, _, _], _ => rfl) (fun vs H Q E h => by obtain ⟨_, _, _, _, _, _, rfl, _⟩ := h; rfl) (fun f cdv A outer s H vs Q E hr h => ?_)
  obtain ⟨c, e, s, s', rv, r, rfl, rfl, rfl, rfl, ok, hf, hr', ⟨R, dx, st, sd, g, gs, f, fs, ef, rfl, S, hl⟩, ho, hb, h8, ha, q⟩ := h
  refine ⟨_, (pss_cons (ps_set (i := 3) nd rfl (by first | exact Or.inl rfl | exact Or.inr rfl) (pe_bm0 PySem.F.plainAttrs_list PySem.F.slot_list_pop PySem.F.type_list_pop mt_pop (pe_fld (pv 1) rfl)))
    (pss_cons (ps_expr (pe_bm0 PySem.F.plainAttrs_list PySem.F.slot_list_pop PySem.F.type_list_pop mt_pop (pe_fld (pv 0) rfl)))
    (pss_one (ps_if (pt_tru (pe_fld (pv 0) rfl)) (pss_one (ps_expr (pe_bm PySem.F.plainAttrs_list PySem.F.slot_list_append PySem.F.type_list_append mt_append (pe_fld (pe_ix ix_lt (pe_fld (pv 0) rfl) (pe_un un_neg pe_int) (fun _ _ => rfl)) rfl) (pa_cons (pv 3) pa_nil)))) (pss_one (ps_fld (pv 0) (pe_tup (pa_cons pe_str (pa_cons (pv 3) pa_nil))) rfl)))))), ?_⟩
  refine U.w_start (σ' := [some _, some _, some _, none]) rfl ?_
  walk_at "st"
  obtain rfl : r = .back := by
    cases r <;> first | rfl | simp [Rw.fi] at hf
  unfold act at ha
  rw [ef] at ha
  simp only at ha
  split at ha
  case h_2 => cases ha
  rename_i z pl hz
  rw [show f = ⟨f.place, f.boxes, z :: pl⟩ from by rw [← hz]] at S
  walk_at "go"
  have S1 := S.set 5 rfl (.lst (plV pl))
  walk_at "go"
  have S2 := S1.set 2 rfl (.lst (srV gs))
  have S3 := S2.less (L' := mL c dx st sd s.turns s.said .non gs fs) (.cons₂ _ (.cons₂ _ (.cons₂ _ (.cons _ (.cons _ (.cons _ (.refl _)))))))
  walk_at "go"
  cases gs with
  | nil =>
    cases fs with
    | cons f fs => simp at hl
    | nil =>
      cases ha
      rw [show (!(srV ([] : List Gh)).isEmpty) = false from rfl]
      walk_at "go"
      intro p np
      walk_at "go"
      have S4 := (S3.newR np (.tup [.str "answer", .int z])).set 0 rfl (.ins c.cM dx [("rows", .ref c.aR), ("stretches", .ref c.aS), ("begins", .ref c.aB), ("boxes", .int c.C.boxes), ("turns", .int s.turns), ("standing", .ref st), ("said", .ref sd), ("outcome", .ref p)])
      exact q _ (InvM.of (gs := []) (fs := []) S4 rfl ⟨p, rfl, upd_same⟩)
  | cons g2 gs =>
    cases fs with
    | nil => simp at hl
    | cons f2 fs =>
      cases ha
      have hp2 : (plV f2.pile).length < sizeLine := by rw [plV_len]; exact szl (hb.2 f2 (by rw [ef]; simp))
      have hb1 : (!(srV (g2 :: gs)).isEmpty) = true := by
        show (!(srV gs ++ [V.ref g2.1]).isEmpty) = true
        simp
      rw [hb1]
      walk_at "go"
      refine w_ixLL (xs := srV gs ++ [V.ref g2.1]) (SqL.of (S3.get 2 rfl)) (v := .ref g2.1) (atI_last _ _) ?_
      walk_at "go"
      have S4 := S3.set 5 rfl (.lst (plV f2.pile ++ [.int z]))
      refine q _ ?_
      rw [ho]
      exact InvM.of (gs := g2 :: gs) (fs := { f2 with pile := z :: f2.pile } :: fs) S4 (by simpa using hl) rfl
end
end M

namespace M
open PySem PySem.Spec PyProof.Rows L2 U MM
section
variable {P : Program} {w : World} {K : PySem.W.Frag} {mg : Str → Option Value} {base : Heap} {cM cE : Addr}
theorem enc_head {R : Hp} {v : V} {r : Rw} (h : Dp K R v r.enc) : ∃ p vs, v = .ref p ∧ SqT K R p (.str (Rw.word r) :: vs) := by
  cases r <;> (
    obtain ⟨p, vs, rfl, hs, ha⟩ := dp_tup h
    obtain ⟨v1, w1, rfl, h1, _⟩ := dpa_cons ha
    cases dp_str h1
    exact ⟨p, w1, rfl, hs⟩)
theorem _root_.L2.DpAll.atI {K : PySem.W.Frag} {R : Hp} {xs : List V} {ds : List PyData} {i : Int} {d : PyData} (h : DpAll K R xs ds) (e : atI ds i = some d) : ∃ v, L2.atI xs i = some v ∧ Dp K R v d := by
  unfold L2.atI at e ⊢
  rw [h.len]
  obtain ⟨j, h1, h2⟩ := Option.bind_eq_some_iff.mp e
  obtain ⟨v, h3, h4⟩ := h.getD h2
  exact ⟨v, by rw [h1]; exact h3, h4⟩
theorem atI_mapE {α β : Type} {f : α → β} {xs : List α} {i : Int} {x : α} (e : L2.atI xs i = some x) : L2.atI (xs.map f) i = some (f x) := by
  unfold L2.atI at e ⊢
  obtain ⟨j, h1, h2⟩ := Option.bind_eq_some_iff.mp e
  rw [List.length_map, h1]
  show (xs.map f)[j]? = _
  rw [List.getElem?_map, h2]
  rfl
theorem atI_zero {α : Type} (x : α) (xs : List α) : L2.atI (x :: xs) 0 = some x := atI_nat (j := 0) rfl
def spStep (K : PySem.W.Frag) (cM cE : Addr) : Sp := fun vs H Q _ => ∃ (c : Mc) (s s' : MS), vs = [.ref c.m] ∧ c.K = K ∧ c.cM = cM ∧ c.cE = cE ∧ c.Ok ∧ InvM c s H ∧ s.out = none ∧ Small 16000000 s ∧ s.fs.length ≤ 8 ∧ MM.step c.C s = some s' ∧ ∀ H', InvM c s' H' → Q .non H'
/-- what the table of acts holds -/
def Acts (w : World) (K : PySem.W.Frag) (cM cE aA : Addr) (Hl : Addr → Sp → Prop) : Prop := ∀ r : Rw, ∃ f, KDct K w aA (Rw.word r) (.ref f) ∧ Hl f (spAct K cM cE (Rw.fi r))
theorem ca_step (D : Df K mg "_step" (top 10)) (iE : CI K cE fE) (iM : CI K cM fM) {aA : Addr} {Hl : Addr → Sp → Prop} (g_ACTS : mg "ACTS" = some (.ref aA)) (tab : Acts w K cM cE aA Hl)
    (hA : ∀ f sp, Hl f sp → Cf P w K mg base CX0 41 f sp) : Ca P w K mg base CX0 42 "_step" (spStep K cM cE) := by
  have sc : FnScope ["machine", "now", "row", "act"] ["machine"] (defScope (top 10)) := ⟨rfl, rfl, rfl, by decide +kernel, rfl, by decide +kernel, by decide +kernel⟩
  have nd := sc.nd
  refine D.ca0 sc (fun _ _ _ _ _ _ us hl => match us, hl with | [_], _ => rfl) (fun vs H Q E h => by obtain ⟨_, _, _, rfl, _⟩ := h; rfl) (fun f cdv A outer s H vs Q E hr h => ?_)
  obtain ⟨c, s, s', rfl, rfl, rfl, rfl, ok, ⟨R, dx, st, sd, ov, gs, S, hl, hov⟩, ho, hb, h8, he, q⟩ := h
  refine ⟨_, (pss_cons (ps_set (i := 1) nd rfl (by first | exact Or.inl rfl | exact Or.inr rfl) (pe_ix ix_lt (pe_fld (pv 0) rfl) (pe_un un_neg pe_int) (fun _ _ => rfl)))
    (pss_cons (ps_set (i := 2) nd rfl (by first | exact Or.inl rfl | exact Or.inr rfl) (pe_ix ix_lt (pe_fld (pv 0) rfl) (pe_fld (pv 1) rfl) (fun _ _ => rfl)))
    (pss_cons (ps_fldaug (pv 1) pe_int in_add)
    (pss_cons (ps_set (i := 3) nd rfl (by first | exact Or.inl rfl | exact Or.inr rfl) (pe_ix ix_kdict (pe_gr rfl g_ACTS) (pe_ix ix_lt (pv 2) pe_int (fun _ _ => rfl)) (fun _ _ => rfl)))
    (pss_one (ps_expr (pe_callH hA hr (by omega) pass0 (i := 3) rfl (by first | exact Or.inl rfl | exact Or.inr (Or.inl rfl)) (pa_cons (pv 0) (pa_cons (pv 1) (pa_cons (pv 2) pa_nil)))))))))), ?_⟩
  refine U.w_start (σ' := [some _, none, none, none]) rfl ?_
  walk_at "st"
  unfold MM.step at he
  split at he
  · cases he
  rename_i f fs ef
  split at he
  case h_2 => cases he
  rename_i r hr'
  obtain ⟨xs, h1, h2⟩ := ok.rows
  obtain ⟨rv, hrv, hd⟩ := h2.atI (atI_mapE hr')
  have hov' : ov = .non := by rw [ho] at hov; exact hov
  subst hov'
  rw [ef] at S hl
  cases gs with
  | nil => simp at hl
  | cons g gs =>
    refine w_ixLL (xs := srV gs ++ [V.ref g.1]) (SqL.of (S.get 2 rfl)) (v := .ref g.1) (atI_last _ _) ?_
    walk_at "go"
    refine w_ixLL (xs := xs) (Same.seqL S.old h1) (v := rv) hrv ?_
    walk_at "go"
    obtain ⟨p, vs, rfl, hT⟩ := enc_head hd
    have S1 := S.set 3 rfl (.ins c.cE g.2.1 [("place", .int (f.place + 1)), ("boxes", .ref g.2.2.1), ("pile", .ref g.2.2.2)])
    walk_at "go"
    obtain ⟨fa, hk, hHl⟩ := tab r
    refine w_ixD hk ?_
    walk_at "go"
    refine w_callH (f := fa) rfl hHl ?_
    walk_at "go"
    have ef2 : ({ s with fs := { f with place := f.place + 1 } :: fs } : MS).fs.length ≤ 8 := by rw [ef] at h8; exact h8
    refine ⟨c, g.1, { s with fs := { f with place := f.place + 1 } :: fs }, s', _, r, rfl, rfl, rfl, rfl, ok, rfl, hd, ⟨R, dx, st, sd, g, gs, { f with place := f.place + 1 }, fs, rfl, rfl, S1, by simpa using hl⟩, ho, ⟨hb.1, fun x hx => ?_⟩, ef2, he, fun H' i => ?_⟩
    · rcases List.mem_cons.mp hx with rfl | hx
      · exact hb.2 f (by rw [ef]; exact List.mem_cons_self ..)
      · exact hb.2 x (by rw [ef]; exact List.mem_cons_of_mem _ hx)
    · walk_at "go"
      exact q _ i
def spNewM (K : PySem.W.Frag) (cM : Addr) : Sp := fun vs H Q _ => ∃ (R0 B R : Hp) (L : List (Addr × HO)) (a dx pp aR aS aB : Addr) (nb turns : Int), vs = [.ref a, .ref pp, .int turns] ∧ Sta [] R0 B R H ((a, .ins cM dx []) :: L) ∧ SqT K R0 pp [.ref aR, .ref aS, .ref aB, .int nb] ∧
  ∀ st sd H', Sta [] R0 B R H' ((a, .ins cM dx [("rows", .ref aR), ("stretches", .ref aS), ("begins", .ref aB), ("boxes", .int nb), ("turns", .int turns), ("standing", .ref st), ("said", .ref sd), ("outcome", .non)]) :: (sd, .lst []) :: (st, .lst []) :: L) → Q .non H'
theorem ca_newM (D : DfI K mg "Machine" cM "Machine.__init__" (inClass (top 7) 0)) (iM : CI K cM fM) : CaI P w K mg base CX0 1 "Machine" cM (spNewM K cM) := by
  have sc : FnScope ["self", "parts", "turns", "rows", "stretches", "begins", "boxes"] ["self", "parts", "turns"] (defScope (inClass (top 7) 0)) := ⟨rfl, rfl, rfl, by decide +kernel, rfl, by decide +kernel, by decide +kernel⟩
  have nd := sc.nd
  refine D.ca0 sc (fun _ _ _ _ _ _ us hl => match us, hl with | [_, _, _], _ => rfl) (fun vs H Q E h => by obtain ⟨_, _, _, _, _, _, _, _, _, _, _, _, rfl, _⟩ := h; rfl) (fun f cdv A outer s H vs Q E hr h => ?_)
  obtain ⟨R0, B, R, L, a, dx, pp, aR, aS, aB, nb, turns, rfl, S, hT, q⟩ := h
  refine ⟨_, (pss_cons (ps_asg (pv 1) (pg_tup rfl (pgs_cons (pg_name (i := 3) nd rfl (by first | exact Or.inl rfl | exact Or.inr rfl)) (pgs_cons (pg_name (i := 4) nd rfl (by first | exact Or.inl rfl | exact Or.inr rfl)) (pgs_cons (pg_name (i := 5) nd rfl (by first | exact Or.inl rfl | exact Or.inr rfl)) (pgs_cons (pg_name (i := 6) nd rfl (by first | exact Or.inl rfl | exact Or.inr rfl)) pgs_nil))))))
    (pss_cons (ps_fld (pv 0) (pv 3) rfl)
    (pss_cons (ps_fld (pv 0) (pv 4) rfl)
    (pss_cons (ps_fld (pv 0) (pv 5) rfl)
    (pss_cons (ps_fld (pv 0) (pv 6) rfl)
    (pss_cons (ps_fld (pv 0) (pv 2) rfl)
    (pss_cons (ps_fld (pv 0) (pe_lst pa_nil) rfl)
    (pss_cons (ps_fld (pv 0) (pe_lst pa_nil) rfl)
    (pss_one (ps_fld (pv 0) pe_non rfl)))))))))), ?_⟩
  refine U.w_start (σ' := [some _, some _, some _, none, none, none, none]) rfl ?_
  walk_at "st"
  have S1 := S.set 0 rfl (.ins cM dx [("rows", .ref aR)])
  walk_at "go"
  have S2 := S1.set 0 rfl (.ins cM dx [("rows", .ref aR), ("stretches", .ref aS)])
  walk_at "go"
  have S3 := S2.set 0 rfl (.ins cM dx [("rows", .ref aR), ("stretches", .ref aS), ("begins", .ref aB)])
  walk_at "go"
  have S4 := S3.set 0 rfl (.ins cM dx [("rows", .ref aR), ("stretches", .ref aS), ("begins", .ref aB), ("boxes", .int nb)])
  walk_at "go"
  have S5 := S4.set 0 rfl (.ins cM dx [("rows", .ref aR), ("stretches", .ref aS), ("begins", .ref aB), ("boxes", .int nb), ("turns", .int turns)])
  walk_at "go"
  intro st nst
  have S6 := S5.new nst (.lst [])
  walk_at "go"
  have S7 := S6.set 1 rfl (.ins cM dx [("rows", .ref aR), ("stretches", .ref aS), ("begins", .ref aB), ("boxes", .int nb), ("turns", .int turns), ("standing", .ref st)])
  walk_at "go"
  intro sd nsd
  have S8 := S7.new nsd (.lst [])
  walk_at "go"
  have S9 := S8.set 2 rfl (.ins cM dx [("rows", .ref aR), ("stretches", .ref aS), ("begins", .ref aB), ("boxes", .int nb), ("turns", .int turns), ("standing", .ref st), ("said", .ref sd)])
  walk_at "go"
  have S10 := S9.set 2 rfl (.ins cM dx [("rows", .ref aR), ("stretches", .ref aS), ("begins", .ref aB), ("boxes", .int nb), ("turns", .int turns), ("standing", .ref st), ("said", .ref sd), ("outcome", .non)])
  refine q st sd _ (S10.perm ?_)
  exact (List.perm_append_comm (l₁ := [((sd, .lst []) : Addr × HO), (st, .lst [])]) (l₂ := [(a, _)])).append_right L
def spRun (K : PySem.W.Frag) : Sp := fun vs H Q _ => ∃ (C : Cd) (p : Addr) (number turns : Int) (n : Nat) (s0 s : MS) (o : Ou), vs = [.ref p, .int number, .int turns] ∧ Dp K H (.ref p) C.enc ∧ 0 ≤ C.boxes ∧ C.boxes ≤ 100000 ∧ MM.init C number turns = some s0 ∧ runs C n s0 = some s ∧ s.out = some o ∧ n ≤ 15000000 ∧
  ∀ R' H' v, Gw [] H H R' H' → Dp K R' v (outEnc s.said o) → Q v H'
theorem init_small {C : Cd} {number turns : Int} {s : MS} (h : MM.init C number turns = some s) : Small 1 s ∧ s.fs.length ≤ 8 ∧ s.out = none := by
  unfold MM.init MM.enter at h
  rw [if_neg (show ¬ ([] : List MM.Fr).length = 8 by decide)] at h
  split at h
  · cases h
    exact ⟨⟨Nat.zero_le _, fun f hf => by
      rcases List.mem_cons.mp hf with rfl | hf
      · exact Nat.zero_le _
      · cases hf⟩, (show 1 ≤ 8 by decide), rfl⟩
  · cases h
theorem ca_run (D : Df K mg "run" (top 9)) (iE : CI K cE fE) (iM : CI K cM fM) (c__step : Ca P w K mg base CX0 42 "_step" (spStep K cM cE)) (c_Machine : CaI P w K mg base CX0 1 "Machine" cM (spNewM K cM))
    (M_enter : CaM P w K mg base CX0 4 cM "enter" (spEnter K cM cE)) : Ca P w K mg base CX0 43 "run" (spRun K) := by
  obtain ⟨f_enter, fd_enter, ps_enter, F_enter, hm_enter, b_enter⟩ := M_enter.ex
  have cls_enter := iM.cls
  have sc : FnScope ["parts", "number", "turns", "machine", "word", "worth"] ["parts", "number", "turns"] (defScope (top 9)) := ⟨rfl, rfl, rfl, by decide +kernel, rfl, by decide +kernel, by decide +kernel⟩
  have nd := sc.nd
  refine D.ca0 sc (fun _ _ _ _ _ _ us hl => match us, hl with | [_, _, _], _ => rfl) (fun vs H Q E h => by obtain ⟨_, _, _, _, _, _, _, _, rfl, _⟩ := h; rfl) (fun f cdv A outer s H vs Q E hr h => ?_)
  obtain ⟨C, p, number, turns, n, s0, s, o, rfl, hC, hb0, hb1, hi, hn, ho, hn1, q⟩ := h
  refine ⟨_, (pss_cons (ps_set (i := 3) nd rfl (by first | exact Or.inl rfl | exact Or.inr rfl) (pe_mk c_Machine hr (by omega) rfl pass0 (pa_cons (pv 0) (pa_cons (pv 2) pa_nil))))
    (pss_cons (ps_expr (pe_meth (pv 3) cls_enter hm_enter F_enter (hr.mono (by omega)) b_enter .nil pass0 (pa_cons pe_int (pa_cons (pv 1) pa_nil))))
    (pss_cons (ps_while PassesOwn.never (pt_cmpR op_isNo (pe_fld (pv 3) rfl) pe_non (nomark _)) (pss_one (ps_expr (pe_ca c__step hr (by omega) rfl pass0 (pa_cons (pv 3) pa_nil)))))
    (pss_cons (ps_asg (pe_fld (pv 3) rfl) (pg_tup rfl (pgs_cons (pg_name (i := 4) nd rfl (by first | exact Or.inl rfl | exact Or.inr rfl)) (pgs_cons (pg_name (i := 5) nd rfl (by first | exact Or.inl rfl | exact Or.inr rfl)) pgs_nil))))
    (pss_one (ps_ret (pe_tup (pa_cons (pe_fld (pv 3) rfl) (pa_cons (pv 4) (pa_cons (pv 5) pa_nil)))))))))), ?_⟩
  refine U.w_start (σ' := [some _, some _, some _, none, none, none]) rfl ?_
  walk_at "st"
  obtain ⟨p', vR, vS, vB, vN, ep, hT, hR, hSt, hBe, hNb⟩ := dp_tup4 hC
  cases ep
  obtain ⟨aR, xR, rfl, hR1, hR2⟩ := dp_lst hR
  obtain ⟨aS, xS, rfl, hS1, hS2⟩ := dp_lst hSt
  obtain ⟨aB, xB, rfl, hB1, hB2⟩ := dp_lst hBe
  cases dp_int hNb
  have eB := dpAll_ints hB2
  subst eB
  intro m dm nm ndm ne
  have S1 := ((Sta.start (W := []) (Same.refl H)).newX ndm (.own m)).new (p := m) (by rw [upd_ne (Ne.symm ne)]; exact nm) (.ins cM dm [])
  refine ⟨H, H, H, [], m, dm, p, aR, aS, aB, C.boxes, turns, rfl, S1, hT, fun st sd H1 S2 => ⟨rfl, ?_⟩⟩
  walk_at "go"
  let c : Mc := ⟨K, cM, cE, H, H, C, aR, aS, aB, m⟩
  have ok : c.Ok := ⟨⟨_, hR1, hR2⟩, ⟨_, hS1, hS2⟩, hB1, hb0, hb1⟩
  refine ⟨c, ⟨turns, [], [], none⟩, s0, 0, number, rfl, rfl, rfl, rfl, ok, ⟨H, dm, st, sd, .non, [], S2, rfl, rfl⟩, rfl, (show 0 ≤ 8 by decide), hi, fun H2 i2 => ?_⟩
  walk_at "go"
  obtain ⟨hs0, hl0, ho0⟩ := init_small hi
  refine w_lpJ (by walk_at "set") (fun σ' H' => σ' = [some (.ref p), some (.int number), some (.int turns), some (.ref m), none, none] ∧ InvM c s H') (fun nx' kj => ?_) (fun σ' H' hj => ?_)
  · refine w_while (fun k σ' H' => ∃ j s1, σ' = [some (.ref p), some (.int number), some (.int turns), some (.ref m), none, none] ∧ InvM c s1 H' ∧ runs C k s1 = some s ∧ j + k = n ∧ Small (j + 1) s1 ∧ s1.fs.length ≤ 8) n ⟨0, s0, rfl, i2, hn, Nat.zero_add _, hs0, hl0⟩ (fun k σ' H' hw => ?_)
    obtain ⟨j, s1, rfl, i, hk, hjk, hsm, hl8⟩ := hw
    have i' := i
    obtain ⟨R, dx, st, sd, ov, gs, S, hl, hov⟩ := i
    walk_at "go"
    cases e1 : s1.out with
    | none =>
      rw [e1] at hov
      cases hov
      walk_at "go"
      cases k with
      | zero =>
        have e2 : s1 = s := Option.some.inj hk
        rw [e2, ho] at e1
        cases e1
      | succ k =>
        obtain ⟨_, t, ht, hk2⟩ := runs_succ hk
        refine w_whT ?_
        walk_at "go"
        refine ⟨c, s1, t, rfl, rfl, rfl, rfl, ok, i', e1, hsm.mono (by omega), hl8, ht, fun H3 i3 => ?_⟩
        walk_at "go"
        exact ⟨k, Nat.lt_succ_self _, j + 1, t, rfl, i3, hk2, by omega, step_small hsm ht, step_len hl8 ht⟩
    | some o1 =>
      rw [e1] at hov
      obtain ⟨po, rfl, hpo⟩ := hov
      walk_at "go"
      refine w_whF ?_
      cases k with
      | zero =>
        have e2 : s1 = s := Option.some.inj hk
        exact kj _ _ ⟨rfl, by rw [← e2]; exact i'⟩
      | succ k =>
        obtain ⟨z, _⟩ := runs_succ hk
        rw [e1] at z
        cases z
  · obtain ⟨rfl, i⟩ := hj
    obtain ⟨R, dx, st, sd, ov, gs, S, hl, hov⟩ := i
    rw [ho] at hov
    obtain ⟨po, rfl, hpo⟩ := hov
    have hT2 : SqT K H' po [.str o.word, .int o.num] := SqT.of (S.sub' _ _ hpo)
    walk_at "go"
    intro p2 np2
    have S3 := S.perm (L' := (sd, .lst (s.said.map .int)) :: (m, _) :: (st, _) :: frs c gs s.fs) (.swap _ _ _)
    have S4 := S3.frz.newR np2 (.tup [.ref sd, .str o.word, .int o.num])
    refine q _ _ _ S4.g ?_
    have npR := S3.frz.g.sub.free np2
    refine .tup (SqT.of upd_same) (.cons (.lst (SqL.of (xs := s.said.map .int) ?_) (.ints _)) (.cons (.str _) (.cons (.int _) .nil)))
    rw [upd_ne (ne_of_none (L2.upd_same (H := R) (o := .lst (s.said.map .int))) npR)]
    exact upd_same
end
end M

namespace LC
open PySem PySem.Spec PyProof.Rows L2 U MM M
/-! ### small helpers of the laws -/
def cellAt (ns : List Int) (k : Int) : Int := (ns[k.toNat]?).getD 0
def numb (c : Int) : Int := if c % 5 = 4 then c / 5 % 10 ^ Int.toNat 30 - 5 * 10 ^ Int.toNat 29 else c / 5 % 8 - 2
def spCel (K : PySem.W.Frag) : Sp := fun vs H Q _ => ∃ (a : Addr) (ns : List Int) (k : Int), vs = [.ref a, .int k] ∧ SqL K H a (ns.map V.int) ∧ 0 ≤ k ∧ Q (.int (cellAt ns k)) H
def spNumb : Sp := fun vs H Q _ => ∃ (c : Int), vs = [.int c] ∧ Q (.int (numb c)) H
def spWhole : Sp := fun vs H Q _ => ∃ (c : Int), vs = [.int c] ∧ Q (.bl true) H
theorem cut2 (ns : List Int) : cutV (ns.map V.int) (some 2) none = (ns.drop 2).map V.int := by
  unfold cutV
  rw [HT.sIx_none, show (2 : Int) = ((2 : Nat) : Int) from rfl, HT.sIx_nat, List.map_drop]
  by_cases h2 : 2 ≤ ns.length
  · rw [Nat.min_eq_left (by simpa using h2), List.take_of_length_le (by simp)]
  · rw [Nat.min_eq_right (by simp; omega), List.drop_eq_nil_of_le (by simp), List.drop_eq_nil_of_le (by simp; omega)]
    simp
theorem last_at (l : List V) (v : V) : atI (l ++ [v]) (((l ++ [v]).length : Nat) - 1 : Int) = some v := by
  have e : (((l ++ [v]).length : Nat) - 1 : Int) = ((l.length : Nat) : Int) := by
    rw [List.length_append]
    show (((l.length + 1 : Nat) : Int) - 1) = _
    omega
  rw [e]
  exact atI_nat (by simp)
theorem w_cell {K : PySem.W.Frag} {H : Hp} {Q : VK} {E : XK} {a : Addr} {ns : List Int} {k : Int} (hS : SqL K H a (ns.map V.int)) (hk : 0 ≤ k) (h : Q (.int (cellAt ns k)) H) : spCel K ([.ref a, .int k] ++ []) H Q E := ⟨a, ns, k, rfl, hS, hk, h⟩
theorem w_numb {H : Hp} {Q : VK} {E : XK} {c : Int} (h : Q (.int (numb c)) H) : spNumb ([.int c] ++ []) H Q E := ⟨c, rfl, h⟩
theorem w_whole {H : Hp} {Q : VK} {E : XK} {c : Int} (h : Q (.bl true) H) : spWhole ([.int c] ++ []) H Q E := ⟨c, rfl, h⟩
local macro_rules | `(tactic| walk_at "own1") => `(tactic| first
  | ((with_reducible refine w_cell (ns := ?wcn) ?wcs ?wck ?_); (case wcs => walk_at "sq"); (case wck => first | decide | omega))
  | (with_reducible refine w_numb ?_)
  | (with_reducible refine w_whole ?_)
  | walk_at "own2")
section
variable {P : Program} {w : World} {K : PySem.W.Frag} {mg : Str → Option Value} {base : Heap}
theorem ca_cell (B : Bi mg) (D : Df K mg "_law_cell_at" (top 26)) : Ca P w K mg base CX0 1 "_law_cell_at" (spCel K) := by
  have sc : FnScope ["_law_script", "_law_k"] ["_law_script", "_law_k"] (defScope (top 26)) := ⟨rfl, rfl, rfl, by decide +kernel, rfl, by decide +kernel, by decide +kernel⟩
  have nd := sc.nd
  refine D.ca0 sc (fun _ _ _ _ _ _ us hl => match us, hl with | [_, _], _ => rfl) (fun vs H Q E h => by obtain ⟨_, _, _, rfl, _⟩ := h; rfl) (fun f cdv A outer s H vs Q E hr h => ?_)
  obtain ⟨a, ns, k, rfl, hS, hk, q⟩ := h
  refine ⟨_, (pss_cons (ps_if (pt_cmpR op_lt (pv 1) (pe_callB call_lenA rfl B.len PySem.boot_len (pa_cons (pv 0) pa_nil)) (nomark _)) (pss_one (ps_ret (pe_ix ix_lt (pv 0) (pv 1) (fun _ _ => rfl)))) pss_nil)
    (pss_one (ps_ret pe_int))), ?_⟩
  refine U.w_start (σ' := [some _, some _]) rfl ?_
  walk_at "st"
  walk_at "if"
  have hl : (ns.map V.int).length = ns.length := List.length_map _
  rw [hl]
  refine it_cases (fun c => ?_) fun c => ?_
  · walk_at "go"
    refine w_ixLL hS (v := .int (cellAt ns k)) ?_ q
    have e : k = ((k.toNat : Nat) : Int) := by omega
    have hk : k.toNat < ns.length := by omega
    have e2 : atI (ns.map V.int) ((k.toNat : Nat) : Int) = some (.int (cellAt ns k)) := atI_nat (by
      unfold cellAt
      rw [List.getElem?_map, List.getElem?_eq_getElem hk]
      rfl)
    rw [← e] at e2
    exact e2
  · walk_at "go"
    have e : cellAt ns k = 0 := by
      unfold cellAt
      rw [List.getElem?_eq_none_iff.mpr (by omega)]
      rfl
    rw [e] at q
    exact q
theorem ca_numb (D : Df K mg "_law_number" (top 27)) : Ca P w K mg base CX0 1 "_law_number" spNumb := by
  have sc : FnScope ["_law_cell"] ["_law_cell"] (defScope (top 27)) := ⟨rfl, rfl, rfl, by decide +kernel, rfl, by decide +kernel, by decide +kernel⟩
  have nd := sc.nd
  refine D.ca0 sc (fun _ _ _ _ _ _ us hl => match us, hl with | [_], _ => rfl) (fun vs H Q E h => by obtain ⟨_, rfl, _⟩ := h; rfl) (fun f cdv A outer s H vs Q E hr h => ?_)
  obtain ⟨c, rfl, q⟩ := h
  refine ⟨_, (pss_cons (ps_if (pt_cmpR op_eq (pe_op op_mod (pv 0) pe_int) pe_int (nomark _)) (pss_one (ps_ret (pe_op op_sub (pe_op op_mod (pe_op op_fdiv (pv 0) pe_int) (pe_op op_pow pe_int pe_int)) (pe_op op_mul pe_int (pe_op op_pow pe_int pe_int))))) pss_nil)
    (pss_one (ps_ret (pe_op op_sub (pe_op op_mod (pe_op op_fdiv (pv 0) pe_int) pe_int) pe_int)))), ?_⟩
  refine U.w_start (σ' := [some _]) rfl ?_
  walk_at "st"
  walk_at "if"
  unfold numb at q
  refine it_cases (fun c => ?_) fun c => ?_
  · walk_at "go"
    rw [if_pos c] at q
    exact q
  · walk_at "go"
    rw [if_neg c] at q
    exact q
theorem ca_whole (B : Bi mg) (D : Df K mg "_law_whole" (top 25)) : Ca P w K mg base CX0 1 "_law_whole" spWhole := by
  have sc : FnScope ["_law_found"] ["_law_found"] (defScope (top 25)) := ⟨rfl, rfl, rfl, by decide +kernel, rfl, by decide +kernel, by decide +kernel⟩
  have nd := sc.nd
  refine D.ca0 sc (fun _ _ _ _ _ _ us hl => match us, hl with | [_], _ => rfl) (fun vs H Q E h => by obtain ⟨_, rfl, _⟩ := h; rfl) (fun f cdv A outer s H vs Q E hr h => ?_)
  obtain ⟨c, rfl, q⟩ := h
  refine ⟨_, (pss_one (ps_ret (pe_and (pe_callB call_isiN rfl B.isinstance (by decide +kernel) (pa_cons (pv 0) (pa_cons (pe_bltn (v := .ty "int") rfl B.int (by decide +kernel) rfl) pa_nil))) (pe_one (pe_not (pe_callB call_isiN rfl B.isinstance (by decide +kernel) (pa_cons (pv 0) (pa_cons (pe_bltn (v := .ty "bool") rfl B.bool (by decide +kernel) rfl) pa_nil)))))))), ?_⟩
  refine U.w_start (σ' := [some _]) rfl ?_
  walk_at "st"
  exact q
end
end LC

namespace M
open PySem PySem.Spec PyProof.Rows L2 U MM He
def mW : List Wd := [.df "reckoned" (top 4), .df "goal_of" (top 8), .df "run" (top 9), .df "_step" (top 10),
  .df "_put" (top 11), .df "_get" (top 12), .df "_set" (top 13), .df "_say" (top 14), .df "_reckon" (top 15), .df "_go" (top 16),
  .df "_nought" (top 17), .df "_on" (top 18), .df "_turn" (top 19), .df "_call" (top 20), .df "_back" (top 21), .df "_raise" (top 22),
  .cls "Entered" fE, .cls "Machine" fM, .me "Machine" "take_turn" "Machine.take_turn" (inClass (top 7) 1), .me "Machine" "enter" "Machine.enter" (inClass (top 7) 2), .me "Machine" "fault" "Machine.fault" (inClass (top 7) 3),
  .ini "Entered" "Entered.__init__" (inClass (top 6) 0), .ini "Machine" "Machine.__init__" (inClass (top 7) 0), .num "DEEPEST" 8, .num "NOUGHT" 101, .num "DEEP" 102, .any "ACTS"]
def actN : List (Str × Dv) := [("put", .glo "_put"), ("get", .glo "_get"), ("set", .glo "_set"), ("say", .glo "_say"), ("add", .glo "_reckon"), ("sub", .glo "_reckon"), ("less", .glo "_reckon"), ("share", .glo "_reckon"),
  ("go", .glo "_go"), ("nought", .glo "_nought"), ("on", .glo "_on"), ("turn", .glo "_turn"), ("call", .glo "_call"), ("back", .glo "_back"), ("raise", .glo "_raise")]
def actT : Tab := (fun K => ga K "ACTS", ["put", "get", "set", "say", "add", "sub", "less", "share", "go", "nought", "on", "turn", "call", "back", "raise"])
def mX (K : PySem.W.Frag) : Bool := seerB K && valsB K (ga K "ACTS") actN
def HlM (K : PySem.W.Frag) (f : Addr) (sp : Sp) : Prop := ∃ r : Rw, sp = spAct K (ga K "Machine") (ga K "Entered") (Rw.fi r) ∧ ∃ q ∈ actN, q.1 = Rw.word r ∧ q.2.v K = .ref f
theorem acts_of {lW : List Wd} {ts : List Tab} {ex : PySem.W.Frag → Bool} {w : World} {K : PySem.W.Frag} (c : SaysU (faU (mW ++ lW)) (fnU (mW ++ lW)) (actT :: ts) ex w K) (hx : mX K = true) :
    Acts w K (ga K "Machine") (ga K "Entered") (ga K "ACTS") (HlM K) := fun r => by
  obtain ⟨_, hv⟩ := ba hx
  have key : ∀ (x : Str) (y : Str), (x, Dv.glo y) ∈ actN → x = Rw.word r → ∃ f, KDct K w (ga K "ACTS") (Rw.word r) (.ref f) ∧ HlM K f (spAct K (ga K "Machine") (ga K "Entered") (Rw.fi r)) := fun x y hm e => by
    subst e
    exact ⟨ga K y, tab_u c 0 (t := actT) rfl hv hm, r, rfl, _, hm, rfl, rfl⟩
  cases r with
  | put n => exact key _ _ (List.mem_of_getElem? (i := 0) rfl) rfl
  | get n => exact key _ _ (List.mem_of_getElem? (i := 1) rfl) rfl
  | set n => exact key _ _ (List.mem_of_getElem? (i := 2) rfl) rfl
  | say => exact key _ _ (List.mem_of_getElem? (i := 3) rfl) rfl
  | rek o =>
    cases o with
    | add => exact key _ _ (List.mem_of_getElem? (i := 4) rfl) rfl
    | sub => exact key _ _ (List.mem_of_getElem? (i := 5) rfl) rfl
    | less => exact key _ _ (List.mem_of_getElem? (i := 6) rfl) rfl
    | share => exact key _ _ (List.mem_of_getElem? (i := 7) rfl) rfl
  | go n => exact key _ _ (List.mem_of_getElem? (i := 8) rfl) rfl
  | nought n => exact key _ _ (List.mem_of_getElem? (i := 9) rfl) rfl
  | on n => exact key _ _ (List.mem_of_getElem? (i := 10) rfl) rfl
  | turn => exact key _ _ (List.mem_of_getElem? (i := 11) rfl) rfl
  | call n => exact key _ _ (List.mem_of_getElem? (i := 12) rfl) rfl
  | back => exact key _ _ (List.mem_of_getElem? (i := 13) rfl) rfl
  | raise => exact key _ _ (List.mem_of_getElem? (i := 14) rfl) rfl
/-- run, by its contract, from what the head tells -/
theorem run_of {lW : List Wd} {ts : List Tab} {ex : PySem.W.Frag → Bool} {P : Program} {w : World} {K : PySem.W.Frag} {mg : Str → Option Value} {h base : Heap} (X : K.In h) (G : h.Ns mainGlobals mg) (c : SaysU (faU (mW ++ lW)) (fnU (mW ++ lW)) (actT :: ts) ex w K)
    (hx : mX K = true) (hP : P.given.tree = none) : Ca P w K mg base CX0 43 "run" (spRun K) := by
  have B := bi_u X G c
  obtain ⟨hS, _⟩ := ba hx
  have iE : CI K (ga K "Entered") fE := ci_u c 16
  have iM : CI K (ga K "Machine") fM := ci_u c 17
  have c1 : Ca P w K mg base CX0 40 _ spReck := ca_reckoned hS hP (df_u X G c 0)
  have c2 : Ca P w K mg base CX0 1 _ (spGoal K) := ca_goal (df_u X G c 1)
  have mt : CaM P w K mg base CX0 1 (ga K "Machine") "take_turn" (spTurn K (ga K "Machine") (ga K "Entered")) := ca_turn_ (me_u X G c 18) iM
  have mf : CaM P w K mg base CX0 2 (ga K "Machine") "fault" (spFault K (ga K "Machine") (ga K "Entered")) := ca_fault (me_u X G c 20) iE iM c2
  have ie : CaI P w K mg base CX0 1 "Entered" (ga K "Entered") (spNew (ga K "Entered")) := ca_new (ini_u X G c 21) iE
  have im : CaI P w K mg base CX0 1 "Machine" (ga K "Machine") (spNewM K (ga K "Machine")) := ca_newM (ini_u X G c 22) iM
  have me : CaM P w K mg base CX0 4 (ga K "Machine") "enter" (spEnter K (ga K "Machine") (ga K "Entered")) := ca_enter (me_u X G c 19) iE iM (num_u X G c 23) (num_u X G c 25) B mf ie
  have a0 : Ca P w K mg base CX0 41 _ (spAct K (ga K "Machine") (ga K "Entered") 0) := (ca_put (df_u X G c 4) iE iM).mono (by decide)
  have a1 : Ca P w K mg base CX0 41 _ (spAct K (ga K "Machine") (ga K "Entered") 1) := (ca_get (df_u X G c 5) iE iM).mono (by decide)
  have a2 : Ca P w K mg base CX0 41 _ (spAct K (ga K "Machine") (ga K "Entered") 2) := (ca_set (df_u X G c 6) iE iM).mono (by decide)
  have a3 : Ca P w K mg base CX0 41 _ (spAct K (ga K "Machine") (ga K "Entered") 3) := (ca_say (df_u X G c 7) iE iM).mono (by decide)
  have a4 : Ca P w K mg base CX0 41 _ (spAct K (ga K "Machine") (ga K "Entered") 4) := ca_reckon (df_u X G c 8) iE iM (num_u X G c 24) mf c1
  have a5 : Ca P w K mg base CX0 41 _ (spAct K (ga K "Machine") (ga K "Entered") 5) := (ca_go (df_u X G c 9) iE iM).mono (by decide)
  have a6 : Ca P w K mg base CX0 41 _ (spAct K (ga K "Machine") (ga K "Entered") 6) := (ca_nought (df_u X G c 10) iE iM).mono (by decide)
  have a7 : Ca P w K mg base CX0 41 _ (spAct K (ga K "Machine") (ga K "Entered") 7) := (ca_on (df_u X G c 11) iE iM).mono (by decide)
  have a8 : Ca P w K mg base CX0 41 _ (spAct K (ga K "Machine") (ga K "Entered") 8) := (ca_turn (df_u X G c 12) iE iM mt).mono (by decide)
  have a9 : Ca P w K mg base CX0 41 _ (spAct K (ga K "Machine") (ga K "Entered") 9) := (ca_call (df_u X G c 13) iE iM mt me).mono (by decide)
  have a10 : Ca P w K mg base CX0 41 _ (spAct K (ga K "Machine") (ga K "Entered") 10) := (ca_back (df_u X G c 14) iE iM).mono (by decide)
  have a11 : Ca P w K mg base CX0 41 _ (spAct K (ga K "Machine") (ga K "Entered") 11) := (ca_raise (df_u X G c 15) iE iM mf).mono (by decide)
  have gl : ∀ (i : Nat) (x : Str) (st : Stmt), (mW ++ lW)[i]? = some (.df x st) → mg x = some (.ref (ga K x)) := fun i x st e => glo_ok X G (c.fact (List.mem_of_getElem? e) (f := .glo x) List.mem_cons_self)
  refine ca_run (df_u X G c 2) iE iM (ca_step (df_u X G c 3) iE iM (any_u X G c 26) (acts_of c hx) fun f sp hl => ?_) im me
  obtain ⟨r, rfl, q, hq, e1, e2⟩ := hl
  have fin : ∀ (i : Nat) (y : Str) (st : Stmt), (mW ++ lW)[i]? = some (.df y st) → q.2 = .glo y → Ca P w K mg base CX0 41 y (spAct K (ga K "Machine") (ga K "Entered") (Rw.fi r)) → Cf P w K mg base CX0 41 f (spAct K (ga K "Machine") (ga K "Entered") (Rw.fi r)) := fun i y st e ey ca => by
    have z : V.ref (ga K y) = .ref f := by rw [← e2, ey]; rfl
    rw [← V.ref.inj z]
    exact ca.cf (gl i y st e)
  have look : ∀ q ∈ actN, ∀ r : Rw, q.1 = Rw.word r → (q.2 = .glo "_put" ∧ Rw.fi r = 0) ∨ (q.2 = .glo "_get" ∧ Rw.fi r = 1) ∨ (q.2 = .glo "_set" ∧ Rw.fi r = 2) ∨ (q.2 = .glo "_say" ∧ Rw.fi r = 3) ∨ (q.2 = .glo "_reckon" ∧ Rw.fi r = 4) ∨ (q.2 = .glo "_go" ∧ Rw.fi r = 5) ∨
      (q.2 = .glo "_nought" ∧ Rw.fi r = 6) ∨ (q.2 = .glo "_on" ∧ Rw.fi r = 7) ∨ (q.2 = .glo "_turn" ∧ Rw.fi r = 8) ∨ (q.2 = .glo "_call" ∧ Rw.fi r = 9) ∨ (q.2 = .glo "_back" ∧ Rw.fi r = 10) ∨ (q.2 = .glo "_raise" ∧ Rw.fi r = 11) := by
    intro q hq r e
    have wd : ∀ (x : Str), x = Rw.word r → (x = "put" → Rw.fi r = 0) ∧ (x = "get" → Rw.fi r = 1) ∧ (x = "set" → Rw.fi r = 2) ∧ (x = "say" → Rw.fi r = 3) ∧ ((x = "add" ∨ x = "sub" ∨ x = "less" ∨ x = "share") → Rw.fi r = 4) ∧ (x = "go" → Rw.fi r = 5) ∧ (x = "nought" → Rw.fi r = 6) ∧ (x = "on" → Rw.fi r = 7) ∧ (x = "turn" → Rw.fi r = 8) ∧ (x = "call" → Rw.fi r = 9) ∧ (x = "back" → Rw.fi r = 10) ∧ (x = "raise" → Rw.fi r = 11) := by
      intro x ex
      subst ex
      cases r with
      | rek o => cases o <;> decide +kernel
      | _ => simp only [Rw.word, Rw.fi]; decide +kernel
    obtain ⟨w0, w1, w2, w3, w4, w5, w6, w7, w8, w9, w10, w11⟩ := wd q.1 e
    unfold actN at hq
    simp only [List.mem_cons, List.not_mem_nil, or_false] at hq
    rcases hq with rfl | rfl | rfl | rfl | rfl | rfl | rfl | rfl | rfl | rfl | rfl | rfl | rfl | rfl | rfl
    · exact .inl ⟨rfl, w0 rfl⟩
    · exact .inr (.inl ⟨rfl, w1 rfl⟩)
    · exact .inr (.inr (.inl ⟨rfl, w2 rfl⟩))
    · exact .inr (.inr (.inr (.inl ⟨rfl, w3 rfl⟩)))
    · exact .inr (.inr (.inr (.inr (.inl ⟨rfl, w4 (.inl rfl)⟩))))
    · exact .inr (.inr (.inr (.inr (.inl ⟨rfl, w4 (.inr (.inl rfl))⟩))))
    · exact .inr (.inr (.inr (.inr (.inl ⟨rfl, w4 (.inr (.inr (.inl rfl)))⟩))))
    · exact .inr (.inr (.inr (.inr (.inl ⟨rfl, w4 (.inr (.inr (.inr rfl)))⟩))))
    · exact .inr (.inr (.inr (.inr (.inr (.inl ⟨rfl, w5 rfl⟩)))))
    · exact .inr (.inr (.inr (.inr (.inr (.inr (.inl ⟨rfl, w6 rfl⟩))))))
    · exact .inr (.inr (.inr (.inr (.inr (.inr (.inr (.inl ⟨rfl, w7 rfl⟩)))))))
    · exact .inr (.inr (.inr (.inr (.inr (.inr (.inr (.inr (.inl ⟨rfl, w8 rfl⟩))))))))
    · exact .inr (.inr (.inr (.inr (.inr (.inr (.inr (.inr (.inr (.inl ⟨rfl, w9 rfl⟩)))))))))
    · exact .inr (.inr (.inr (.inr (.inr (.inr (.inr (.inr (.inr (.inr (.inl ⟨rfl, w10 rfl⟩))))))))))
    · exact .inr (.inr (.inr (.inr (.inr (.inr (.inr (.inr (.inr (.inr (.inr ⟨rfl, w11 rfl⟩))))))))))
  rcases look q hq r e1 with ⟨e, n⟩ | ⟨e, n⟩ | ⟨e, n⟩ | ⟨e, n⟩ | ⟨e, n⟩ | ⟨e, n⟩ | ⟨e, n⟩ | ⟨e, n⟩ | ⟨e, n⟩ | ⟨e, n⟩ | ⟨e, n⟩ | ⟨e, n⟩
  · exact fin 4 _ _ rfl e (by rw [n]; exact a0)
  · exact fin 5 _ _ rfl e (by rw [n]; exact a1)
  · exact fin 6 _ _ rfl e (by rw [n]; exact a2)
  · exact fin 7 _ _ rfl e (by rw [n]; exact a3)
  · exact fin 8 _ _ rfl e (by rw [n]; exact a4)
  · exact fin 9 _ _ rfl e (by rw [n]; exact a5)
  · exact fin 10 _ _ rfl e (by rw [n]; exact a6)
  · exact fin 11 _ _ rfl e (by rw [n]; exact a7)
  · exact fin 12 _ _ rfl e (by rw [n]; exact a8)
  · exact fin 13 _ _ rfl e (by rw [n]; exact a9)
  · exact fin 14 _ _ rfl e (by rw [n]; exact a10)
  · exact fin 15 _ _ rfl e (by rw [n]; exact a11)
end M

namespace K04
open PySem PySem.Spec PyProof.Rows L2 U MM M LC
section
variable {P : Program} {w : World} {K : PySem.W.Frag} {mg : Str → Option Value} {base : Heap}
theorem cutLo (xs : List V) (j : Nat) : cutV xs (some (j : Int)) none = xs.drop j := by
  unfold cutV
  rw [HT.sIx_none, HT.sIx_nat]
  by_cases h : j ≤ xs.length
  · rw [Nat.min_eq_left h, List.take_of_length_le (by rw [List.length_drop]; exact Nat.le_refl _)]
  · rw [Nat.min_eq_right (by omega), List.drop_eq_nil_of_le (Nat.le_refl _), List.drop_eq_nil_of_le (by omega)]
    simp
theorem cutHi (xs : List V) (j : Nat) : cutV xs none (some (j : Int)) = xs.take j := by
  unfold cutV
  rw [HT.sIx_none, HT.sIx_nat]
  show (xs.drop 0).take (min j xs.length - 0) = _
  rw [List.drop_zero, Nat.sub_zero]
  by_cases h : j ≤ xs.length
  · rw [Nat.min_eq_left h]
  · rw [Nat.min_eq_right (by omega), List.take_of_length_le (Nat.le_refl _), List.take_of_length_le (by omega)]
theorem ixN_nat {n k : Nat} (h : k < n) : ixN n (k : Int) = some k := by
  unfold ixN
  rw [if_pos (by omega), if_pos (by omega), Int.toNat_natCast]
theorem drop_map {K : PySem.W.Frag} {R : Hp} {vs : List V} {ds : List PyData} (h : DpAll K R vs ds) (j : Nat) : DpAll K R (vs.drop j) (ds.drop j) := h.drop j
theorem flat1 {α : Type} (n : Nat) (x : α) : (List.replicate n [x]).flatten = List.replicate n x := by
  induction n with
  | zero => rfl
  | succ n ih => rw [List.replicate_succ, List.flatten_cons, ih]; rfl
def spParts (K : PySem.W.Frag) : Sp := fun vs H Q _ => ∃ (W : List Addr) (R0 B R : Hp) (L : List (Addr × HO)) (aM aO : Addr) (y : Ly) (wide : Int) (turn : Nat), vs = [.int (y.many : Nat), .ref aM, .bl y.raises, .int wide, .int (turn : Nat), .ref aO] ∧ Sta W R0 B R H L ∧
  SqL K R aM ((List.range y.many).map fun k => .bl (y.marks k)) ∧ SqL K R aO ((List.range y.many).map fun k => .int (y.more k)) ∧ 1 ≤ y.many ∧ y.many ≤ 12 ∧ turn < 108 ∧ y.z = turn / 36 % 3 ∧ y.rot = turn / 3 ∧ y.h = 4 - turn % 3 * 2 ∧
  ∀ R' H' v xs, Sta W R0 B R' H' L → Same R R' → begOk y y.many xs → Dp K R' v (y.cd wide xs).enc → Q v H'
theorem ca_parts (B : Bi mg) (D : Df K mg "_law_parts" (top 28)) : Ca P w K mg base CX0 1 "_law_parts" (spParts K) := by
  have sc : FnScope ["_law_many", "_law_marks", "_law_raises", "_law_wide", "_law_turn", "_law_more", "_law_code", "_law_stretches", "_law_starts", "_law_place", "_law_k"] ["_law_many", "_law_marks", "_law_raises", "_law_wide", "_law_turn", "_law_more"] (defScope (top 28)) := ⟨rfl, rfl, rfl, by decide +kernel, rfl, by decide +kernel, by decide +kernel⟩
  have nd := sc.nd
  refine D.ca0 sc (fun _ _ _ _ _ _ us hl => match us, hl with | [_, _, _, _, _, _], _ => rfl) (fun vs H Q E h => by obtain ⟨_, _, _, _, _, _, _, _, _, _, rfl, _⟩ := h; rfl) (fun f cdv A outer s H vs Q E hr h => ?_)
  obtain ⟨W, R0, B0, R, L, aM, aO, y, wide, turn, rfl, S, hM, hO, hm1, hm12, ht, hz, hrot, hh, q⟩ := h
  refine ⟨_, (pss_cons (ps_set (i := 6) nd rfl (by first | exact Or.inl rfl | exact Or.inr rfl) (pe_slice sl_list (pe_lst (pa_cons (pe_tup (pa_cons pe_str (pa_cons pe_int pa_nil))) (pa_cons (pe_tup (pa_cons pe_str pa_nil)) (pa_cons (pe_tup (pa_cons pe_str (pa_cons pe_int pa_nil))) (pa_cons (pe_tup (pa_cons pe_str pa_nil)) pa_nil))))) (po_some (pe_op op_sub pe_int (pe_op op_mul (pe_op op_mod (pv 4) pe_int) pe_int))) po_none))
    (pss_cons (ps_set (i := 7) nd rfl (by first | exact Or.inl rfl | exact Or.inr rfl) (pe_lst pa_nil))
    (pss_cons (ps_set (i := 8) nd rfl (by first | exact Or.inl rfl | exact Or.inr rfl) (pe_op op_rep (pe_lst (pa_cons pe_int pa_nil)) (pv 0)))
    (pss_cons (ps_for PassesOwn.never rfl (pi_range1 rfl B.range (pa_cons (pv 0) pa_nil)) (pg_name (i := 9) nd rfl (by first | exact Or.inl rfl | exact Or.inr rfl)) (pss_cons (ps_set (i := 10) nd rfl (by first | exact Or.inl rfl | exact Or.inr rfl) (pe_op op_mod (pe_op op_add (pv 9) (pe_op op_fdiv (pv 4) pe_int)) (pv 0)))
    (pss_cons (ps_asg (pe_callB call_lenA rfl B.len PySem.boot_len (pa_cons (pv 6) pa_nil)) (pg_sub (pv 8) (pv 10) set_list))
    (pss_one (ps_if (pt_cmpR op_eq (pv 10) (pe_op op_sub (pv 0) pe_int) (nomark _)) (pss_one (ps_set (i := 6) nd rfl (by first | exact Or.inl rfl | exact Or.inr rfl) (pe_op op_cat (pe_op op_cat (pv 6) (pe_op op_rep (pe_lst (pa_cons (pe_tup (pa_cons pe_str (pa_cons pe_int pa_nil))) pa_nil)) (pe_op op_mod (pe_op op_fdiv (pv 4) pe_int) pe_int))) (pe_lst (pa_cons (pe_tup (pa_cons pe_str (pa_cons pe_int pa_nil))) (pa_cons (pe_ifExp (pt_val (pv 2)) (pe_tup (pa_cons pe_str pa_nil)) (pe_tup (pa_cons pe_str pa_nil))) pa_nil)))))) (pss_cons (ps_if (pt_val (pe_ix ix_lt (pv 1) (pv 10) (fun _ _ => rfl))) (pss_one (ps_expr (pe_bm PySem.F.plainAttrs_list PySem.F.slot_list_append PySem.F.type_list_append mt_append (pv 7) (pa_cons (pe_tup (pa_cons (pe_callB call_lenA rfl B.len PySem.boot_len (pa_cons (pv 6) pa_nil)) (pa_cons (pe_op op_add (pe_callB call_lenA rfl B.len PySem.boot_len (pa_cons (pv 6) pa_nil)) pe_int) (pa_cons (pe_op op_add (pe_callB call_lenA rfl B.len PySem.boot_len (pa_cons (pv 6) pa_nil)) pe_int) pa_nil)))) pa_nil)))) pss_nil)
    (pss_cons (ps_set (i := 6) nd rfl (by first | exact Or.inl rfl | exact Or.inr rfl) (pe_op op_cat (pv 6) (pe_lst (pa_cons (pe_tup (pa_cons pe_str (pa_cons (pe_ix ix_lt (pv 5) (pv 10) (fun _ _ => rfl)) pa_nil))) (pa_cons (pe_tup (pa_cons pe_str (pa_cons pe_int pa_nil))) (pa_cons (pe_tup (pa_cons pe_str (pa_cons (pe_op op_add (pv 10) pe_int) pa_nil))) (pa_cons (pe_tup (pa_cons pe_str pa_nil)) (pa_cons (pe_tup (pa_cons pe_str pa_nil)) pa_nil))))))))
    (pss_one (ps_set (i := 6) nd rfl (by first | exact Or.inl rfl | exact Or.inr rfl) (pe_op op_cat (pv 6) (pe_lst (pa_cons (pe_tup (pa_cons pe_str pa_nil)) (pa_cons (pe_tup (pa_cons pe_str (pa_cons (pe_op op_add pe_int (pv 10)) pa_nil))) (pa_cons (pe_tup (pa_cons pe_str pa_nil)) pa_nil))))))))))))))
    (pss_cons (ps_if (pt_cmpR op_eq (pv 3) pe_int (nomark _)) (pss_one (ps_set (i := 7) nd rfl (by first | exact Or.inl rfl | exact Or.inr rfl) (pe_op op_cat (pe_lst (pa_cons (pe_tup (pa_cons pe_int (pa_cons (pe_callB call_lenA rfl B.len PySem.boot_len (pa_cons (pv 6) pa_nil)) (pa_cons (pe_callB call_lenA rfl B.len PySem.boot_len (pa_cons (pv 6) pa_nil)) pa_nil)))) pa_nil)) (pv 7)))) pss_nil)
    (pss_cons (ps_if (pt_cmpR op_eq (pv 3) pe_int (nomark _)) (pss_one (ps_set (i := 7) nd rfl (by first | exact Or.inl rfl | exact Or.inr rfl) (pe_op op_cat (pv 7) (pe_lst (pa_cons (pe_tup (pa_cons pe_int (pa_cons (pe_callB call_lenA rfl B.len PySem.boot_len (pa_cons (pv 6) pa_nil)) (pa_cons (pe_callB call_lenA rfl B.len PySem.boot_len (pa_cons (pv 6) pa_nil)) pa_nil)))) pa_nil))))) pss_nil)
    (pss_one (ps_ret (pe_tup (pa_cons (pe_op op_cat (pv 6) (pe_lst (pa_cons (pe_tup (pa_cons pe_str pa_nil)) (pa_cons (pe_tup (pa_cons pe_str (pa_cons pe_int pa_nil))) (pa_cons (pe_tup (pa_cons pe_str pa_nil)) pa_nil))))) (pa_cons (pv 7) (pa_cons (pv 8) (pa_cons pe_int pa_nil))))))))))))), ?_⟩
  refine U.w_start (σ' := [some _, some _, some _, some _, some _, some _, none, none, none, none, none]) rfl ?_
  walk_at "st"
  intro t1 n1
  have S1 := S.newR n1 (.tup [.str "put", .int 77])
  have A1 : DpAll K _ [.ref t1] [(Rw.put 77).enc] := S.row0 n1 (.cons (.str _) (.cons (.int _) .nil))
  walk_at "go"
  intro t2 n2
  have S2 := S1.newR n2 (.tup [.str "say"])
  have A2 : DpAll K _ [.ref t1, .ref t2] [(Rw.put 77).enc, Rw.say.enc] := S1.row n2 A1 (.cons (.str _) .nil)
  walk_at "go"
  intro t3 n3
  have S3 := S2.newR n3 (.tup [.str "put", .int 78])
  have A3 : DpAll K _ [.ref t1, .ref t2, .ref t3] [(Rw.put 77).enc, Rw.say.enc, (Rw.put 78).enc] := S2.row n3 A2 (.cons (.str _) (.cons (.int _) .nil))
  walk_at "go"
  intro t4 n4
  have S4 := S3.newR n4 (.tup [.str "back"])
  have A4 : DpAll K _ [.ref t1, .ref t2, .ref t3, .ref t4] [(Rw.put 77).enc, Rw.say.enc, (Rw.put 78).enc, Rw.back.enc] := S3.row n4 A3 (.cons (.str _) .nil)
  walk_at "go"
  intro p1 np1
  have S5 := S4.newR np1 (.lst [.ref t1, .ref t2, .ref t3, .ref t4])
  have A5 := S4.upR np1 (.lst [.ref t1, .ref t2, .ref t3, .ref t4]) A4
  have sR := (same_new (S.nR n1) (.tup [.str "put", .int 77])).trans ((same_new (S1.nR n2) (.tup [.str "say"])).trans ((same_new (S2.nR n3) (.tup [.str "put", .int 78])).trans ((same_new (S3.nR n4) (.tup [.str "back"])).trans (same_new (S4.nR np1) (.lst [.ref t1, .ref t2, .ref t3, .ref t4])))))
  clear S1 S2 S3 S4 A1 A2 A3 A4
  walk_at "go"
  have eh : (4 : Int) - (turn : Int) % 3 * 2 = ((y.h : Nat) : Int) := by rw [hh]; omega
  rw [eh] at *
  intro p2 np2
  rw [cutLo] at *
  have S6 := S5.newR np2 (.lst ([V.ref t1, .ref t2, .ref t3, .ref t4].drop y.h))
  have A6 : DpAll K _ ([V.ref t1, .ref t2, .ref t3, .ref t4].drop y.h) ((y.code 0).map Rw.enc) := S5.upR np2 (.lst ([V.ref t1, .ref t2, .ref t3, .ref t4].drop y.h)) (by
    have z := A5.drop y.h
    rw [show ((y.code 0).map Rw.enc) = ([(Rw.put 77).enc, Rw.say.enc, (Rw.put 78).enc, Rw.back.enc]).drop y.h from List.map_drop]
    exact z)
  have sR6 := sR.trans (same_new (S5.nR np2) (.lst ([V.ref t1, .ref t2, .ref t3, .ref t4].drop y.h)))
  have h6 := L2.upd_same (H := upd (upd (upd (upd (upd R t1 (.tup [.str "put", .int 77])) t2 (.tup [.str "say"])) t3 (.tup [.str "put", .int 78])) t4 (.tup [.str "back"])) p1 (.lst [.ref t1, .ref t2, .ref t3, .ref t4])) (a := p2) (o := .lst ([V.ref t1, .ref t2, .ref t3, .ref t4].drop y.h))
  generalize upd (upd (upd (upd (upd (upd R t1 (.tup [.str "put", .int 77])) t2 (.tup [.str "say"])) t3 (.tup [.str "put", .int 78])) t4 (.tup [.str "back"])) p1 (.lst [.ref t1, .ref t2, .ref t3, .ref t4])) p2 (.lst ([V.ref t1, .ref t2, .ref t3, .ref t4].drop y.h)) = R6 at *
  generalize upd (upd (upd (upd (upd (upd H t1 (.tup [.str "put", .int 77])) t2 (.tup [.str "say"])) t3 (.tup [.str "put", .int 78])) t4 (.tup [.str "back"])) p1 (.lst [.ref t1, .ref t2, .ref t3, .ref t4])) p2 (.lst ([V.ref t1, .ref t2, .ref t3, .ref t4].drop y.h)) = H6 at *
  generalize [V.ref t1, .ref t2, .ref t3, .ref t4].drop y.h = ys6 at *
  clear S5 A5 sR
  walk_at "go"
  intro aS naS
  have S7 := S6.new naS (.lst [])
  walk_at "go"
  intro u1 nu1
  have S8 := S7.new nu1 (.lst [.int 0])
  walk_at "go"
  refine w_rep (k := ((y.many : Nat) : Int)) (S8.get 0 rfl) (by omega) (by omega) (by show 1 * _ ≤ 100000; omega) fun aB naB => ?_
  rw [Int.toNat_natCast] at *
  rw [rep1] at *
  have S9 := (S8.new naB (.lst ((List.replicate y.many (0 : Int)).map .int))).less (L' := (aB, .lst ((List.replicate y.many (0 : Int)).map .int)) :: (aS, .lst []) :: L) (.cons₂ _ (.cons _ (.cons₂ _ (.refl _))))
  clear S7 S8
  walk_at "go"
  have hM6 := Same.seqL sR6 hM
  have hO6 := Same.seqL sR6 hO
  have hoff : ∀ p, p ≤ 12 → y.off p ≤ 1000 := fun p hp => by
    have h1 := off_le (y := y) p
    have h2 : (y.z + 8) * p ≤ 10 * 12 := Nat.mul_le_mul (by omega) hp
    omega
  refine w_lpJ (by walk_at "set") (fun σ' H' => ∃ (pc : Addr) (v9 v10 : Option V) (R : Hp) (ts ys : List V) (xs : List Int), σ' = [some (.int (y.many : Nat)), some (.ref aM), some (.bl y.raises), some (.int wide), some (.int (turn : Nat)), some (.ref aO), some (.ref pc), some (.ref aS), some (.ref aB), v9, v10] ∧
    Sta W R0 B0 R H' ((aB, .lst (xs.map .int)) :: (aS, .lst ts) :: L) ∧ Same R6 R ∧ R pc = some (.lst ys) ∧ DpAll K R ys ((y.code y.many).map Rw.enc) ∧ DpAll K R ts ((y.strs y.many).map enc3) ∧ begOk y y.many xs) (fun nx' kj => ?_) (fun σ' H' hj => ?_)
  · walk_at "go"
    refine for_R1 (fun p σ' H' => ∃ (pc : Addr) (v9 v10 : Option V) (R : Hp) (ts ys : List V) (xs : List Int), σ' = [some (.int (y.many : Nat)), some (.ref aM), some (.bl y.raises), some (.int wide), some (.int (turn : Nat)), some (.ref aO), some (.ref pc), some (.ref aS), some (.ref aB), v9, v10] ∧
      Sta W R0 B0 R H' ((aB, .lst (xs.map .int)) :: (aS, .lst ts) :: L) ∧ Same R6 R ∧ R pc = some (.lst ys) ∧ DpAll K R ys ((y.code p).map Rw.enc) ∧ DpAll K R ts ((y.strs p).map enc3) ∧ begOk y p xs) (by omega) (by omega) ⟨p2, none, none, R6, [], ys6, List.replicate y.many 0, rfl, S9, Same.refl _, h6, A6, .nil, by simp, fun p h => absurd h (Nat.not_lt_zero p)⟩ (fun p σ' H' hp p0 => ?_) (fun σ' H' p0 => ?_)
    · obtain ⟨pc, v9, v10, R7, ts, ys, xs, rfl, S10, sR7, hpc, hys, hts, hxs⟩ := p0
      rw [Int.toNat_natCast] at hp
      have hk := kO_lt (show 0 < y.many by omega) y.rot p
      have ek : (0 + (p : Int) + (turn : Int) / 3) % ((y.many : Nat) : Int) = ((kO y.many y.rot p : Nat) : Int) := by
        unfold kO
        rw [show (0 + (p : Int) + (turn : Int) / 3) = ((p + y.rot : Nat) : Int) by rw [hrot]; omega]
        rfl
      have hyl : ys.length = y.off p := by rw [hys.len, List.length_map]; rfl
      have ho := hoff p (by omega)
      have hM7 := Same.seqL (sR7.trans S10.sub') hM6
      have hO7 := Same.seqL (sR7.trans S10.sub') hO6
      have hPC : SqL K H' pc ys := SqL.of (S10.sub' _ _ hpc)
      walk_at "go"
      rw [ek]
      refine w_setL (xs := xs.map .int) (S10.get 0 rfl) (j := kO y.many y.rot p) (ixN_nat (by rw [List.length_map, hxs.1]; exact hk)) ?_
      rw [hyl, show (xs.map V.int).set (kO y.many y.rot p) (V.int ((y.off p : Nat) : Int)) = (xs.set (kO y.many y.rot p) ((y.off p : Nat) : Int)).map V.int from List.map_set.symm]
      have S11 := S10.set 0 rfl (.lst ((xs.set (kO y.many y.rot p) ((y.off p : Nat) : Int)).map .int))
      have hxs' := begOk_set hxs (by omega)
      generalize xs.set (kO y.many y.rot p) ((y.off p : Nat) : Int) = xs' at *
      generalize upd H' aB (.lst (xs'.map .int)) = H8 at *
      have hM8 : SqL K H8 aM _ := Same.seqL (sR7.trans S11.sub') hM6
      have hO8 : SqL K H8 aO _ := Same.seqL (sR7.trans S11.sub') hO6
      have hPC8 : SqL K H8 pc ys := SqL.of (S11.sub' _ _ hpc)
      clear S10 hM7 hO7 hPC
      walk_at "go"
      have es : y.code (p + 1) = y.code p ++ y.b p := rfl
      refine it_cases (fun cl => ?_) fun cl => ?_
      · have cl' : kO y.many y.rot p + 1 = y.many := by omega
        have e1 : y.strs (p + 1) = y.strs p := by
          show y.strs p ++ y.one p = _
          unfold Ly.one
          rw [if_neg (fun h => h.1 cl'), List.append_nil]
        have eb : y.b p = List.replicate y.z (.put 9) ++ [.get 0, if y.raises then .raise else .back] := by unfold Ly.b blk; rw [if_pos cl']
        walk_at "go"
        intro t1 n1
        have T1 := S11.newR n1 (.tup [.str "put", .int 9])
        have A1 : DpAll K _ [.ref t1] [(Rw.put 9).enc] := S11.row0 n1 (.cons (.str _) (.cons (.int _) .nil))
        walk_at "go"
        intro t2 n2
        have T2 := T1.newR n2 (.lst [.ref t1])
        have A2 := T1.upR n2 (.lst [.ref t1]) A1
        walk_at "go"
        refine w_rep (T2.sub' _ _ upd_same) (by omega) (by omega) (by show 1 * _ ≤ 100000; omega) fun t3 n3 => ?_
        have ezz : ((turn : Int) / 36 % 3).toNat = y.z := by rw [hz]; omega
        rw [ezz] at *
        have T3 := T2.newR n3 (.lst (List.replicate y.z [V.ref t1]).flatten)
        have A3 := dpAll_rep (T2.upR n3 (.lst (List.replicate y.z [V.ref t1]).flatten) A2) y.z
        have hpc3 := ((same_new (S11.nR n1) (.tup [.str "put", .int 9])).trans ((same_new (T1.nR n2) (.lst [.ref t1])).trans (same_new (T2.nR n3) (.lst (List.replicate y.z [V.ref t1]).flatten)))) _ _ hpc
        have l3 : (List.replicate y.z [V.ref t1]).flatten.length = y.z := by
          rw [List.length_flatten, List.map_replicate, List.sum_replicate_nat]
          show y.z * 1 = _
          omega
        walk_at "go"
        refine w_cat (T3.sub' _ _ hpc3) (T3.sub' _ _ upd_same) (by rw [l3]; omega) fun t4 n4 => ?_
        have T4 := T3.newR n4 (.lst (ys ++ (List.replicate y.z [V.ref t1]).flatten))
        have A4 := T3.upR n4 (.lst (ys ++ (List.replicate y.z [V.ref t1]).flatten)) (((hys.up ((same_new (S11.nR n1) (.tup [.str "put", .int 9])).trans ((same_new (T1.nR n2) (.lst [.ref t1])).trans (same_new (T2.nR n3) (.lst (List.replicate y.z [V.ref t1]).flatten)))))).app A3)
        walk_at "go"
        intro t5 n5
        have T5 := T4.newR n5 (.tup [.str "get", .int 0])
        have B5 : DpAll K _ [.ref t5] [(Rw.get 0).enc] := T4.row0 n5 (.cons (.str _) (.cons (.int _) .nil))
        have A5 := A4.up (same_new (T4.nR n5) (.tup [.str "get", .int 0]))
        walk_at "go"
        cases hra : y.raises
        · simp only [hra, if_true, if_false, Bool.false_eq_true] at eb ⊢
          walk_at "go"
          intro t6 n6
          have T6 := T5.newR n6 (.tup [.str "back"])
          have B6 : DpAll K _ [.ref t5, .ref t6] [(Rw.get 0).enc, Rw.back.enc] := T5.row n6 B5 (.cons (.str _) .nil)
          have A6 := A5.up (same_new (T5.nR n6) (.tup [.str "back"]))
          walk_at "go"
          intro t7 n7
          have T7 := T6.newR n7 (.lst [.ref t5, .ref t6])
          have A7 := A6.up (same_new (T6.nR n7) (.lst [.ref t5, .ref t6]))
          have B7 := T6.upR n7 (.lst [.ref t5, .ref t6]) B6
          have h7 := T7.sub' t4 _ (((same_new (T4.nR n5) (.tup [.str "get", .int 0])).trans ((same_new (T5.nR n6) (.tup [.str "back"])).trans (same_new (T6.nR n7) (.lst [.ref t5, .ref t6])))) _ _ upd_same)
          walk_at "go"
          refine w_cat h7 (T7.sub' _ _ upd_same) (by rw [List.length_append, l3]; show _ + _ + 2 ≤ _; omega) fun t8 n8 => ?_
          have T8 := T7.newR n8 (.lst (ys ++ (List.replicate y.z [V.ref t1]).flatten ++ [.ref t5, .ref t6]))
          have A8 := T7.upR n8 (.lst (ys ++ (List.replicate y.z [V.ref t1]).flatten ++ [.ref t5, .ref t6])) (A7.app B7)
          have sA := ((same_new (S11.nR n1) (.tup [.str "put", .int 9])).trans ((same_new (T1.nR n2) (.lst [.ref t1])).trans ((same_new (T2.nR n3) (.lst (List.replicate y.z [V.ref t1]).flatten)).trans ((same_new (T3.nR n4) (.lst (ys ++ (List.replicate y.z [V.ref t1]).flatten))).trans ((same_new (T4.nR n5) (.tup [.str "get", .int 0])).trans ((same_new (T5.nR n6) (.tup [.str "back"])).trans ((same_new (T6.nR n7) (.lst [.ref t5, .ref t6])).trans (same_new (T7.nR n8) (.lst (ys ++ (List.replicate y.z [V.ref t1]).flatten ++ [.ref t5, .ref t6]))))))))))
          walk_at "go"
          refine ⟨t8, _, _, _, ts, _, xs', rfl, T8, sR7.trans sA, upd_same, ?_, by rw [e1]; exact hts.up sA, hxs'⟩
          have ee : (y.code (p + 1)).map Rw.enc = (y.code p).map Rw.enc ++ (List.replicate y.z [(Rw.put 9).enc]).flatten ++ [(Rw.get 0).enc, Rw.back.enc] := by
            rw [es, eb, List.map_append, List.map_append, List.append_assoc, List.map_replicate]
            congr 2
            exact (flat1 y.z _).symm
          rw [ee]
          exact A8
        · simp only [hra, if_true, if_false, Bool.false_eq_true] at eb ⊢
          walk_at "go"
          intro t6 n6
          have T6 := T5.newR n6 (.tup [.str "raise"])
          have B6 : DpAll K _ [.ref t5, .ref t6] [(Rw.get 0).enc, Rw.raise.enc] := T5.row n6 B5 (.cons (.str _) .nil)
          have A6 := A5.up (same_new (T5.nR n6) (.tup [.str "raise"]))
          walk_at "go"
          intro t7 n7
          have T7 := T6.newR n7 (.lst [.ref t5, .ref t6])
          have A7 := A6.up (same_new (T6.nR n7) (.lst [.ref t5, .ref t6]))
          have B7 := T6.upR n7 (.lst [.ref t5, .ref t6]) B6
          have h7 := T7.sub' t4 _ (((same_new (T4.nR n5) (.tup [.str "get", .int 0])).trans ((same_new (T5.nR n6) (.tup [.str "raise"])).trans (same_new (T6.nR n7) (.lst [.ref t5, .ref t6])))) _ _ upd_same)
          walk_at "go"
          refine w_cat h7 (T7.sub' _ _ upd_same) (by rw [List.length_append, l3]; show _ + _ + 2 ≤ _; omega) fun t8 n8 => ?_
          have T8 := T7.newR n8 (.lst (ys ++ (List.replicate y.z [V.ref t1]).flatten ++ [.ref t5, .ref t6]))
          have A8 := T7.upR n8 (.lst (ys ++ (List.replicate y.z [V.ref t1]).flatten ++ [.ref t5, .ref t6])) (A7.app B7)
          have sA := ((same_new (S11.nR n1) (.tup [.str "put", .int 9])).trans ((same_new (T1.nR n2) (.lst [.ref t1])).trans ((same_new (T2.nR n3) (.lst (List.replicate y.z [V.ref t1]).flatten)).trans ((same_new (T3.nR n4) (.lst (ys ++ (List.replicate y.z [V.ref t1]).flatten))).trans ((same_new (T4.nR n5) (.tup [.str "get", .int 0])).trans ((same_new (T5.nR n6) (.tup [.str "raise"])).trans ((same_new (T6.nR n7) (.lst [.ref t5, .ref t6])).trans (same_new (T7.nR n8) (.lst (ys ++ (List.replicate y.z [V.ref t1]).flatten ++ [.ref t5, .ref t6]))))))))))
          walk_at "go"
          refine ⟨t8, _, _, _, ts, _, xs', rfl, T8, sR7.trans sA, upd_same, ?_, by rw [e1]; exact hts.up sA, hxs'⟩
          have ee : (y.code (p + 1)).map Rw.enc = (y.code p).map Rw.enc ++ (List.replicate y.z [(Rw.put 9).enc]).flatten ++ [(Rw.get 0).enc, Rw.raise.enc] := by
            rw [es, eb, List.map_append, List.map_append, List.append_assoc, List.map_replicate]
            congr 2
            exact (flat1 y.z _).symm
          rw [ee]
          exact A8
      · have cl' : ¬ kO y.many y.rot p + 1 = y.many := by omega
        have eb : y.b p = [.put (y.more (kO y.many y.rot p)), .get 0, .call ((kO y.many y.rot p + 1 : Nat) : Int), .rek .add, .back, .say, .put (50 + ((kO y.many y.rot p : Nat) : Int)), .back] := by unfold Ly.b blk; rw [if_neg cl']
        generalize hkk : kO y.many y.rot p = k at *
        refine w_ifJ (by walk_at "set") (fun σ' H' => ∃ (R : Hp) (ts : List V), σ' = [some (.int (y.many : Nat)), some (.ref aM), some (.bl y.raises), some (.int wide), some (.int (turn : Nat)), some (.ref aO), some (.ref pc), some (.ref aS), some (.ref aB), some (.int (0 + (p : Nat))), some (.int (k : Nat))] ∧
          Sta W R0 B0 R H' ((aB, .lst (xs'.map .int)) :: (aS, .lst ts) :: L) ∧ Same R7 R ∧ DpAll K R ts ((y.strs (p + 1)).map enc3)) (fun nx2 kj2 => ?_) (fun σ2 H2 hj2 => ?_)
        · walk_at "go"
          refine w_ixLL hM8 (v := .bl (y.marks k)) (atI_nat (by rw [List.getElem?_map, List.getElem?_range hk]; rfl)) ?_
          walk_at "go"
          have e1 : y.strs (p + 1) = y.strs p ++ y.one p := rfl
          unfold Ly.one at e1
          rw [hkk] at e1
          cases hmk : y.marks k
          · rw [hmk, if_neg (fun h => by cases h.2), List.append_nil] at e1
            walk_at "go"
            exact kj2 _ _ ⟨R7, ts, rfl, S11, Same.refl _, by rw [e1]; exact hts⟩
          · rw [hmk, if_pos ⟨cl', rfl⟩] at e1
            walk_at "go"
            rw [hyl]
            intro t1 n1
            have T1 := S11.newR n1 (.tup [.int (y.off p : Nat), .int ((y.off p : Nat) + 3), .int ((y.off p : Nat) + 5)])
            walk_at "go"
            refine w_append (T1.get 1 rfl) (szlt (by rw [hts.len, List.length_map]; have := strs_len (y := y) p; omega)) ?_
            refine kj2 _ _ ⟨_, _, rfl, T1.set 1 rfl (.lst (ts ++ [.ref t1])), same_new (S11.nR n1) _, ?_⟩
            rw [e1, List.map_append]
            exact S11.row n1 hts (.cons (.int _) (.cons (.int _) (.cons (.int _) .nil)))
        · obtain ⟨R9, ts', rfl, T0, sR9, hts'⟩ := hj2
          have hys9 := hys.up sR9
          have hpc9 := sR9 _ _ hpc
          have hO9 : SqL K H2 aO _ := Same.seqL ((sR7.trans sR9).trans T0.sub') hO6
          have sR0 := sR7.trans sR9
          clear S11 hys hpc hts hM8 hO8 hPC8 sR9
          walk_at "go"
          refine w_ixLL hO9 (v := .int (y.more k)) (atI_nat (by rw [List.getElem?_map, List.getElem?_range hk]; rfl)) ?_
          walk_at "go"
          have s0 : Same R9 R9 := Same.refl _
          intro t1 n1
          have T1 := T0.newR n1 (.tup [.str "put", .int (y.more k)])
          have A1 : DpAll K _ [V.ref t1] [(Rw.put (y.more k)).enc] := T0.row0 n1 (.cons (.str _) (.cons (.int _) .nil))
          have s1 := s0.trans (same_new (T0.nR n1) (.tup [.str "put", .int (y.more k)]))
          walk_at "go"
          intro t2 n2
          have T2 := T1.newR n2 (.tup [.str "get", .int 0])
          have A2 : DpAll K _ [V.ref t1, V.ref t2] [(Rw.put (y.more k)).enc, (Rw.get 0).enc] := T1.row n2 A1 (.cons (.str _) (.cons (.int _) .nil))
          have s2 := s1.trans (same_new (T1.nR n2) (.tup [.str "get", .int 0]))
          walk_at "go"
          intro t3 n3
          have T3 := T2.newR n3 (.tup [.str "call", .int ((k : Nat) + 1)])
          have A3 : DpAll K _ [V.ref t1, V.ref t2, V.ref t3] [(Rw.put (y.more k)).enc, (Rw.get 0).enc, (Rw.call ((k + 1 : Nat) : Int)).enc] := T2.row n3 A2 (.cons (.str _) (.cons (.int _) .nil))
          have s3 := s2.trans (same_new (T2.nR n3) (.tup [.str "call", .int ((k : Nat) + 1)]))
          walk_at "go"
          intro t4 n4
          have T4 := T3.newR n4 (.tup [.str "add"])
          have A4 : DpAll K _ [V.ref t1, V.ref t2, V.ref t3, V.ref t4] [(Rw.put (y.more k)).enc, (Rw.get 0).enc, (Rw.call ((k + 1 : Nat) : Int)).enc, (Rw.rek .add).enc] := T3.row n4 A3 (.cons (.str _) .nil)
          have s4 := s3.trans (same_new (T3.nR n4) (.tup [.str "add"]))
          walk_at "go"
          intro t5 n5
          have T5 := T4.newR n5 (.tup [.str "back"])
          have A5 : DpAll K _ [V.ref t1, V.ref t2, V.ref t3, V.ref t4, V.ref t5] [(Rw.put (y.more k)).enc, (Rw.get 0).enc, (Rw.call ((k + 1 : Nat) : Int)).enc, (Rw.rek .add).enc, Rw.back.enc] := T4.row n5 A4 (.cons (.str _) .nil)
          have s5 := s4.trans (same_new (T4.nR n5) (.tup [.str "back"]))
          walk_at "go"
          intro t6 n6
          have T6 := T5.newR n6 (.lst [V.ref t1, V.ref t2, V.ref t3, V.ref t4, V.ref t5])
          have A6 := T5.upR n6 (.lst [V.ref t1, V.ref t2, V.ref t3, V.ref t4, V.ref t5]) A5
          have s6 := s5.trans (same_new (T5.nR n6) (.lst [V.ref t1, V.ref t2, V.ref t3, V.ref t4, V.ref t5]))
          walk_at "go"
          refine w_cat (T6.sub' _ _ (s6 _ _ hpc9)) (T6.sub' _ _ upd_same) (by rw [hyl]; show _ + 5 ≤ _; omega) fun t7 n7 => ?_
          have T7 := T6.newR n7 (.lst (ys ++ [V.ref t1, V.ref t2, V.ref t3, V.ref t4, V.ref t5]))
          have A7 := T6.upR n7 (.lst (ys ++ [V.ref t1, V.ref t2, V.ref t3, V.ref t4, V.ref t5])) ((hys9.up s6).app A6)
          have s7 := s6.trans (same_new (T6.nR n7) (.lst (ys ++ [V.ref t1, V.ref t2, V.ref t3, V.ref t4, V.ref t5])))
          have h7 := L2.upd_same (H := upd (upd (upd (upd (upd (upd R9 t1 (.tup [.str "put", .int (y.more k)])) t2 (.tup [.str "get", .int 0])) t3 (.tup [.str "call", .int ((k : Nat) + 1)])) t4 (.tup [.str "add"])) t5 (.tup [.str "back"])) t6 (.lst [V.ref t1, V.ref t2, V.ref t3, V.ref t4, V.ref t5])) (a := t7) (o := .lst (ys ++ [V.ref t1, V.ref t2, V.ref t3, V.ref t4, V.ref t5]))
          have hl7 : (ys ++ [V.ref t1, V.ref t2, V.ref t3, V.ref t4, V.ref t5]).length = y.off p + 5 := by rw [List.length_append, hyl]; rfl
          generalize upd (upd (upd (upd (upd (upd (upd R9 t1 (.tup [.str "put", .int (y.more k)])) t2 (.tup [.str "get", .int 0])) t3 (.tup [.str "call", .int ((k : Nat) + 1)])) t4 (.tup [.str "add"])) t5 (.tup [.str "back"])) t6 (.lst [V.ref t1, V.ref t2, V.ref t3, V.ref t4, V.ref t5])) t7 (.lst (ys ++ [V.ref t1, V.ref t2, V.ref t3, V.ref t4, V.ref t5])) = R10 at *
          generalize upd (upd (upd (upd (upd (upd (upd H2 t1 (.tup [.str "put", .int (y.more k)])) t2 (.tup [.str "get", .int 0])) t3 (.tup [.str "call", .int ((k : Nat) + 1)])) t4 (.tup [.str "add"])) t5 (.tup [.str "back"])) t6 (.lst [V.ref t1, V.ref t2, V.ref t3, V.ref t4, V.ref t5])) t7 (.lst (ys ++ [V.ref t1, V.ref t2, V.ref t3, V.ref t4, V.ref t5])) = H10 at *
          generalize ys ++ [V.ref t1, V.ref t2, V.ref t3, V.ref t4, V.ref t5] = ys7 at *
          clear T0 T1 T2 T3 T4 T5 T6 A1 A2 A3 A4 A5 A6 hO9
          walk_at "go"
          intro t8 n8
          have T8 := T7.newR n8 (.tup [.str "say"])
          have A8 : DpAll K _ [V.ref t8] [Rw.say.enc] := T7.row0 n8 (.cons (.str _) .nil)
          have s8 := s7.trans (same_new (T7.nR n8) (.tup [.str "say"]))
          walk_at "go"
          intro t9 n9
          have T9 := T8.newR n9 (.tup [.str "put", .int (50 + (k : Nat))])
          have A9 : DpAll K _ [V.ref t8, V.ref t9] [Rw.say.enc, (Rw.put (50 + (k : Int))).enc] := T8.row n9 A8 (.cons (.str _) (.cons (.int _) .nil))
          have s9 := s8.trans (same_new (T8.nR n9) (.tup [.str "put", .int (50 + (k : Nat))]))
          walk_at "go"
          intro t10 n10
          have T10 := T9.newR n10 (.tup [.str "back"])
          have A10 : DpAll K _ [V.ref t8, V.ref t9, V.ref t10] [Rw.say.enc, (Rw.put (50 + (k : Int))).enc, Rw.back.enc] := T9.row n10 A9 (.cons (.str _) .nil)
          have s10 := s9.trans (same_new (T9.nR n10) (.tup [.str "back"]))
          walk_at "go"
          intro t11 n11
          have T11 := T10.newR n11 (.lst [V.ref t8, V.ref t9, V.ref t10])
          have A11 := T10.upR n11 (.lst [V.ref t8, V.ref t9, V.ref t10]) A10
          have s11 := s10.trans (same_new (T10.nR n11) (.lst [V.ref t8, V.ref t9, V.ref t10]))
          have sx := ((same_new (T7.nR n8) (.tup [.str "say"])).trans ((same_new (T8.nR n9) (.tup [.str "put", .int (50 + (k : Nat))])).trans ((same_new (T9.nR n10) (.tup [.str "back"])).trans (same_new (T10.nR n11) (.lst [V.ref t8, V.ref t9, V.ref t10])))))
          walk_at "go"
          refine w_cat (T11.sub' _ _ (sx _ _ h7)) (T11.sub' _ _ upd_same) (by rw [hl7]; show _ + 3 ≤ _; omega) fun t12 n12 => ?_
          have T12 := T11.newR n12 (.lst (ys7 ++ [V.ref t8, V.ref t9, V.ref t10]))
          have A12 := T11.upR n12 (.lst (ys7 ++ [V.ref t8, V.ref t9, V.ref t10])) ((A7.up sx).app A11)
          have s12 := s11.trans (same_new (T11.nR n12) (.lst (ys7 ++ [V.ref t8, V.ref t9, V.ref t10])))
          walk_at "go"
          refine ⟨t12, _, _, _, ts', _, xs', rfl, T12, sR0.trans s12, upd_same, ?_, hts'.up s12, hxs'⟩
          have ee : (y.code (p + 1)).map Rw.enc = (y.code p).map Rw.enc ++ [(Rw.put (y.more k)).enc, (Rw.get 0).enc, (Rw.call ((k + 1 : Nat) : Int)).enc, (Rw.rek .add).enc, Rw.back.enc] ++ [Rw.say.enc, (Rw.put (50 + (k : Int))).enc, Rw.back.enc] := by
            rw [es, eb, List.map_append, List.append_assoc]
            rfl
          rw [ee]
          exact A12
    · rw [Int.toNat_natCast] at p0
      exact kj _ _ p0
  obtain ⟨pc, v9, v10, R7, ts, ys, xs, rfl, S10, sR7, hpc, hys, hts, hxs⟩ := hj
  have hyl : ys.length = y.off y.many := by rw [hys.len, List.length_map]; rfl
  have ho := hoff y.many hm12
  have hsl := strs_len (y := y) y.many
  have hPC : SqL K H' pc ys := SqL.of (S10.sub' _ _ hpc)
  have S11 := S10.perm (L' := (aS, .lst ts) :: (aB, .lst (xs.map .int)) :: L) (.swap _ _ _)
  have S12 := S11.frz
  have sF := same_new (S11.noR 0 rfl) (.lst ts)
  have hF := L2.upd_same (H := R7) (a := aS) (o := .lst ts)
  have hts1 := hts.up sF
  have hys1 := hys.up sF
  have hpc1 := sF _ _ hpc
  have sR8 := (sR6.trans sR7).trans sF
  clear S10 S11 hys hpc hts
  generalize upd R7 aS (.lst ts) = R8 at *
  have wz : ((y.off y.many : Nat) : Int) = (((ys.length : Nat)) : Int) := by rw [hyl]
  walk_at "go"
  refine w_ifJ (by walk_at "set") (fun σ' H' => ∃ (aS' : Addr) (R : Hp) (ts : List V), σ' = [some (.int (y.many : Nat)), some (.ref aM), some (.bl y.raises), some (.int wide), some (.int (turn : Nat)), some (.ref aO), some (.ref pc), some (.ref aS'), some (.ref aB), v9, v10] ∧
    Sta W R0 B0 R H' ((aB, .lst (xs.map .int)) :: L) ∧ Same R8 R ∧ R aS' = some (.lst ts) ∧ DpAll K R ts ((if wide = 1 then [((0 : Int), (y.off y.many : Int), (y.off y.many : Int))] ++ y.strs y.many else y.strs y.many).map enc3) ∧ ts.length ≤ 20) (fun nx2 kj2 => ?_) (fun σ2 H2 hj2 => ?_)
  · walk_at "go"
    refine it_cases (fun c => ?_) fun c => ?_
    · walk_at "go"
      intro t1 n1
      have T1 := S12.newR n1 (.tup [.int 0, .int (ys.length : Nat), .int (ys.length : Nat)])
      have A1 := S12.row0 (K := K) n1 (.cons (.int 0) (.cons (.int (ys.length : Nat)) (.cons (.int (ys.length : Nat)) .nil)))
      walk_at "go"
      intro t2 n2
      have T2 := T1.newR n2 (.lst [.ref t1])
      have A2 := T1.upR n2 (.lst [.ref t1]) A1
      have s2 := (same_new (S12.nR n1) (.tup [.int 0, .int (ys.length : Nat), .int (ys.length : Nat)])).trans (same_new (T1.nR n2) (.lst [.ref t1]))
      walk_at "go"
      refine w_cat (T2.sub' _ _ upd_same) (T2.sub' _ _ (s2 _ _ hF)) (by rw [hts1.len, List.length_map]; show 1 + _ ≤ _; omega) fun t3 n3 => ?_
      have T3 := T2.newR n3 (.lst ([.ref t1] ++ ts))
      have A3 := T2.upR n3 (.lst ([.ref t1] ++ ts)) (A2.app (hts1.up s2))
      walk_at "go"
      refine kj2 _ _ ⟨t3, _, _, rfl, T3, s2.trans (same_new (T2.nR n3) _), upd_same, ?_, by rw [List.length_append, hts1.len, List.length_map]; show 1 + _ ≤ _; omega⟩
      rw [if_pos c, List.map_append, wz]
      exact A3
    · walk_at "go"
      exact kj2 _ _ ⟨aS, R8, ts, rfl, S12, Same.refl _, hF, by rw [if_neg c]; exact hts1, by rw [hts1.len, List.length_map]; omega⟩
  obtain ⟨aS', R9, ts', rfl, S13, sR9, hF9, hts9, hl9⟩ := hj2
  have hPC9 : SqL K H2 pc ys := SqL.of (S13.sub' _ _ (sR9 _ _ hpc1))
  have hpc9 := sR9 _ _ hpc1
  have hys9 := hys1.up sR9
  clear S12 hPC hpc1 hys1
  walk_at "go"
  refine w_ifJ (by walk_at "set") (fun σ' H' => ∃ (aS' : Addr) (R : Hp) (ts : List V), σ' = [some (.int (y.many : Nat)), some (.ref aM), some (.bl y.raises), some (.int wide), some (.int (turn : Nat)), some (.ref aO), some (.ref pc), some (.ref aS'), some (.ref aB), v9, v10] ∧
    Sta W R0 B0 R H' ((aB, .lst (xs.map .int)) :: L) ∧ Same R9 R ∧ R aS' = some (.lst ts) ∧ DpAll K R ts ((y.full wide).map enc3)) (fun nx3 kj3 => ?_) (fun σ3 H3 hj3 => ?_)
  · walk_at "go"
    refine it_cases (fun c => ?_) fun c => ?_
    · walk_at "go"
      intro t1 n1
      have T1 := S13.newR n1 (.tup [.int 0, .int (ys.length : Nat), .int (ys.length : Nat)])
      have A1 := S13.row0 (K := K) n1 (.cons (.int 0) (.cons (.int (ys.length : Nat)) (.cons (.int (ys.length : Nat)) .nil)))
      walk_at "go"
      intro t2 n2
      have T2 := T1.newR n2 (.lst [.ref t1])
      have A2 := T1.upR n2 (.lst [.ref t1]) A1
      have s2 := (same_new (S13.nR n1) (.tup [.int 0, .int (ys.length : Nat), .int (ys.length : Nat)])).trans (same_new (T1.nR n2) (.lst [.ref t1]))
      walk_at "go"
      refine w_cat (T2.sub' _ _ (s2 _ _ hF9)) (T2.sub' _ _ upd_same) (by show _ + 1 ≤ _; omega) fun t3 n3 => ?_
      have T3 := T2.newR n3 (.lst (ts' ++ [.ref t1]))
      have A3 := T2.upR n3 (.lst (ts' ++ [.ref t1])) ((hts9.up s2).app A2)
      walk_at "go"
      refine kj3 _ _ ⟨t3, _, _, rfl, T3, s2.trans (same_new (T2.nR n3) _), upd_same, ?_⟩
      unfold Ly.full
      rw [if_neg (show ¬ wide = 1 by omega), if_pos c, List.map_append, wz]
      rw [if_neg (show ¬ wide = 1 by omega)] at A3
      exact A3
    · walk_at "go"
      refine kj3 _ _ ⟨aS', R9, ts', rfl, S13, Same.refl _, hF9, ?_⟩
      unfold Ly.full
      by_cases c1 : wide = 1
      · rw [if_pos c1] at hts9 ⊢; exact hts9
      · rw [if_neg c1, if_neg c]; rw [if_neg c1] at hts9; exact hts9
  obtain ⟨aS3, R10, ts3, rfl, S14, sR10, hF10, hts10⟩ := hj3
  have hpc10 := sR10 _ _ hpc9
  have hys10 := hys9.up sR10
  have T0 := S14
  clear S13 hPC9 hpc9 hys9
  walk_at "go"
  have s0 : Same R10 R10 := Same.refl _
  intro t1 n1
  have T1 := T0.newR n1 (.tup [.str "say"])
  have A1 : DpAll K _ [V.ref t1] [Rw.say.enc] := T0.row0 n1 (.cons (.str _) .nil)
  have s1 := s0.trans (same_new (T0.nR n1) (.tup [.str "say"]))
  walk_at "go"
  intro t2 n2
  have T2 := T1.newR n2 (.tup [.str "put", .int 40])
  have A2 : DpAll K _ [V.ref t1, V.ref t2] [Rw.say.enc, (Rw.put 40).enc] := T1.row n2 A1 (.cons (.str _) (.cons (.int _) .nil))
  have s2 := s1.trans (same_new (T1.nR n2) (.tup [.str "put", .int 40]))
  walk_at "go"
  intro t3 n3
  have T3 := T2.newR n3 (.tup [.str "back"])
  have A3 : DpAll K _ [V.ref t1, V.ref t2, V.ref t3] [Rw.say.enc, (Rw.put 40).enc, Rw.back.enc] := T2.row n3 A2 (.cons (.str _) .nil)
  have s3 := s2.trans (same_new (T2.nR n3) (.tup [.str "back"]))
  walk_at "go"
  intro t4 n4
  have T4 := T3.newR n4 (.lst [V.ref t1, V.ref t2, V.ref t3])
  have A4 := T3.upR n4 (.lst [V.ref t1, V.ref t2, V.ref t3]) A3
  have s4 := s3.trans (same_new (T3.nR n4) (.lst [V.ref t1, V.ref t2, V.ref t3]))
  walk_at "go"
  refine w_cat (T4.sub' _ _ (s4 _ _ hpc10)) (T4.sub' _ _ upd_same) (by rw [hyl]; show _ + 3 ≤ _; omega) fun t5 n5 => ?_
  have T5 := T4.newR n5 (.lst (ys ++ [V.ref t1, V.ref t2, V.ref t3]))
  have A5 := T4.upR n5 (.lst (ys ++ [V.ref t1, V.ref t2, V.ref t3])) ((hys10.up s4).app A4)
  have s5 := s4.trans (same_new (T4.nR n5) (.lst (ys ++ [V.ref t1, V.ref t2, V.ref t3])))
  have h5 := L2.upd_same (H := upd (upd (upd (upd R10 t1 (.tup [.str "say"])) t2 (.tup [.str "put", .int 40])) t3 (.tup [.str "back"])) t4 (.lst [V.ref t1, V.ref t2, V.ref t3])) (a := t5) (o := .lst (ys ++ [V.ref t1, V.ref t2, V.ref t3]))
  walk_at "go"
  intro t6 n6
  have T6 := T5.frz.newR n6 (.tup [.ref t5, .ref aS3, .ref aB, .int 1])
  have sA := same_new (T5.noR 0 rfl) (.lst (xs.map .int))
  have sB := same_new (T5.frz.nR n6) (.tup [.ref t5, .ref aS3, .ref aB, .int 1])
  refine q _ _ _ xs T6 (sR8.trans (sR9.trans (sR10.trans (s5.trans (sA.trans sB))))) hxs ?_
  have dr : Dp K _ (.ref t5) (.list ((y.cd wide xs).rows.map Rw.enc)) := dp_newL (sA _ _ h5) (by
    have z := A5.up sA
    rw [show ((y.cd wide xs).rows.map Rw.enc) = (y.code y.many).map Rw.enc ++ [Rw.say.enc, (Rw.put 40).enc, Rw.back.enc] from List.map_append]
    exact z)
  have ds : Dp K _ (.ref aS3) (.list ((y.cd wide xs).str.map enc3)) := dp_newL ((s5.trans sA) _ _ hF10) (hts10.up (s5.trans sA))
  exact dp_tupN (T5.frz.nR n6) (.cons dr (.cons ds (.cons (dp_newL upd_same (.ints xs)) (.cons (.int 1) .nil))))
end
end K04

namespace K04
open PySem PySem.Spec PyProof.Rows L2 U MM M LC
section
variable {K : PySem.W.Frag} {σ : L2.St} {H : Hp} {Q : VK}
theorem w_sum {a : Addr} {ns : List Int} (ha : SqL K H a (ns.map V.int)) (h : Q (.int ns.sum) H) : rSum K [.ref a] H Q := ⟨a, ns, rfl, ha, h⟩
def ItRR (R : It → Hp → Prop) (x : V) (H1 : Hp) : Prop := ∃ n, x = .int n ∧ (-(2 ^ 62) ≤ (0 : Int) ∧ (0 : Int) < 2 ^ 62 ∧ -(2 ^ 62) ≤ n ∧ n < 2 ^ 62 ∧ R (Itc (0 + (((n - 0).toNat : Nat) : Int) - 1) (-1) (n - 0).toNat) H1)
theorem w_iRR {te : TE} {R : It → Hp → Prop} (h : te σ H fun x H1 => ItRR R x H1) : iRevR (tRg1 te) σ H R := h
theorem for_RR {n : Nat} {g : TG} {tb : TS} {nx : L2.St → Hp → Prop} {rt : VK} (hn : n ≤ 1000) (Pv : Nat → L2.St → Hp → Prop) (h0 : Pv 0 σ H)
    (hs : ∀ i σ H, i < n → Pv i σ H → g (.int ((n - 1 - i : Nat) : Int)) σ H fun σ2 H2 => tb ⟨Pv (i + 1), rt, nx, Pv (i + 1)⟩ σ2 H2) (hd : ∀ σ H, Pv n σ H → nx σ H) :
    ItRR (fun J H1 => ForB J g tb nx rt σ H1) (.int (n : Nat)) H := by
  refine ⟨n, rfl, by omega, by omega, by omega, by omega, ?_⟩
  rw [show ((n : Int) - 0).toNat = n by omega]
  refine for_rangeC (D := ⟨nx, rt, nx, nx⟩) Pv h0 (fun i σ H hi p => ?_) hd
  have e : (0 + ((n : Nat) : Int) - 1 + ((i : Nat) : Int) * (-1)) = ((n - 1 - i : Nat) : Int) := by omega
  rw [e]
  exact hs i σ H hi p
end
local macro_rules | `(tactic| walk_at "own1") => `(tactic| first
  | (with_reducible refine w_iRR ?_)
  | walk_at "own2")
local macro_rules | `(tactic| walk_at "k") => `(tactic| (repeat (first | walk_at "if" | (refine it_pos (by omega) ?_; walk_at "go") | (refine it_neg (by omega) ?_; walk_at "go"))))
local macro_rules | `(tactic| walk_at "k2") => `(tactic| (walk_at "go"; walk_at "k"))
theorem sm_range (more : Nat → Int) : ∀ j : Nat, ((List.range j).map more).sum = sm more j
  | 0 => rfl
  | j + 1 => by
    rw [List.range_succ, List.map_append, List.sum_append, sm_range more j]
    show sm more j + (more j + 0) = sm more j + more j
    omega
theorem cutM (more : Nat → Int) {many j : Nat} {z : Int} (hz : z = (j : Int)) (h : j ≤ many) : cutV ((List.range many).map fun k => V.int (more k)) none (some z) = ((List.range j).map more).map V.int := by
  subst hz
  rw [cutHi, ← List.map_take, List.take_range, Nat.min_eq_left h, List.map_map]
  rfl
section
variable {P : Program} {w : World} {K : PySem.W.Frag} {mg : Str → Option Value} {base : Heap}
def spDue (K : PySem.W.Frag) : Sp := fun vs H Q _ => ∃ (W : List Addr) (R0 B R : Hp) (L : List (Addr × HO)) (aM aO : Addr) (many : Nat) (marks : Nat → Bool) (raises : Bool) (given wide : Int) (more : Nat → Int), vs = [.int (many : Nat), .ref aM, .bl raises, .int given, .int wide, .ref aO] ∧ Sta W R0 B R H L ∧
  SqL K R aM ((List.range many).map fun k => .bl (marks k)) ∧ SqL K R aO ((List.range many).map fun k => .int (more k)) ∧ 1 ≤ many ∧ many ≤ 12 ∧ (wide = 0 ∨ wide = 1 ∨ wide = 2) ∧
  ∀ R' H' v, Sta W R0 B R' H' L → Same R R' → Dp K R' v (outEnc (due many marks raises given wide more).1 (due many marks raises given wide more).2) → Q v H'
theorem ca_due (B : Bi mg) (D : Df K mg "_law_due" (top 29)) : Ca P w K mg base CX0 1 "_law_due" (spDue K) := by
  have sc : FnScope ["_law_many", "_law_marks", "_law_raises", "_law_given", "_law_wide", "_law_more", "_law_number_here", "_law_top", "_law_inner", "_law_k"] ["_law_many", "_law_marks", "_law_raises", "_law_given", "_law_wide", "_law_more"] (defScope (top 29)) := ⟨rfl, rfl, rfl, by decide +kernel, rfl, by decide +kernel, by decide +kernel⟩
  have nd := sc.nd
  refine D.ca0 sc (fun _ _ _ _ _ _ us hl => match us, hl with | [_, _, _, _, _, _], _ => rfl) (fun vs H Q E h => by obtain ⟨_, _, _, _, _, _, _, _, _, _, _, _, _, rfl, _⟩ := h; rfl) (fun f cdv A outer s H vs Q E hr h => ?_)
  obtain ⟨W, R0, B0, R, L, aM, aO, many, marks, raises, given, wide, more, rfl, S, hM, hO, hm1, hm12, hw, q⟩ := h
  refine ⟨_, (pss_cons (ps_if (PW.pt (pw_and (pt_cmpR op_le (pv 0) pe_int (nomark _)) (pw_and1 (pt_not (pt_val (pv 2)))))) (pss_one (ps_ret (pe_tup (pa_cons (pe_lst pa_nil) (pa_cons pe_str (pa_cons (pe_op op_add (pv 3) (pe_callB (cr_sum rfl) rfl B.sum (by decide +kernel) (pa_cons (pe_slice sl_list (pv 5) po_none (po_some (pe_op op_sub (pv 0) pe_int))) pa_nil))) pa_nil)))))) pss_nil)
    (pss_cons (ps_set (i := 6) nd rfl (by first | exact Or.inl rfl | exact Or.inr rfl) (pe_ifExp (pt_cmpR op_gt (pv 0) pe_int (nomark _)) pe_int (pv 3)))
    (pss_cons (ps_set (i := 7) nd rfl (by first | exact Or.inl rfl | exact Or.inr rfl) (pe_op op_sub (pe_callB (call_minA rfl) rfl B.min (by decide +kernel) (pa_cons (pv 0) (pa_cons pe_int pa_nil))) pe_int))
    (pss_cons (ps_if (pt_cmpR op_gt (pv 4) pe_int (nomark _)) (pss_cons (ps_set (i := 8) nd rfl (by first | exact Or.inl rfl | exact Or.inr rfl) (pe_and (pe_cmpR op_gt (pv 0) pe_int (nomark _)) (pe_and (pe_ix ix_lt (pv 1) pe_int (fun _ _ => rfl)) (pe_one (pe_cmpR op_eq (pv 4) pe_int (nomark _))))))
    (pss_one (ps_ret (pe_tup (pa_cons (pe_lst (pa_cons (pv 6) pa_nil)) (pa_cons pe_str (pa_cons (pe_op op_add (pe_ifExp (pt_val (pv 8)) pe_int pe_int) (pe_callB (cr_sum rfl) rfl B.sum (by decide +kernel) (pa_cons (pe_slice sl_list (pv 5) po_none (po_some (pv 7))) pa_nil))) pa_nil))))))) pss_nil)
    (pss_cons (ps_for PassesOwn.never rfl (pi_revR (by rfl) B.reversed (prg_1 rfl B.range (pe_callB (call_minA rfl) rfl B.min (by decide +kernel) (pa_cons (pe_op op_sub (pv 0) pe_int) (pa_cons pe_int pa_nil))))) (pg_name (i := 9) nd rfl (by first | exact Or.inl rfl | exact Or.inr rfl)) (pss_one (ps_if (pt_val (pe_ix ix_lt (pv 1) (pv 9) (fun _ _ => rfl))) (pss_one (ps_ret (pe_tup (pa_cons (pe_lst (pa_cons (pv 6) pa_nil)) (pa_cons pe_str (pa_cons (pe_op op_add (pe_op op_add pe_int (pv 9)) (pe_callB (cr_sum rfl) rfl B.sum (by decide +kernel) (pa_cons (pe_slice sl_list (pv 5) po_none (po_some (pv 9))) pa_nil))) pa_nil)))))) pss_nil)))
    (pss_one (ps_ret (pe_tup (pa_cons (pe_lst pa_nil) (pa_cons pe_str (pa_cons (pv 6) pa_nil))))))))))), ?_⟩
  refine U.w_start (σ' := [some _, some _, some _, some _, some _, some _, none, none, none, none]) rfl ?_
  walk_at "st"
  have mk : ∀ (x z : Int) (H1 : Hp) (R1 : Hp) (word : Str) (pl pt : Addr) (said : List Int), Sta W R0 B0 R1 H1 L → Same R R1 → R1 pl = some (.lst (said.map .int)) → H1 pt = none → (due many marks raises given wide more).1 = said → (due many marks raises given wide more).2.word = word → (due many marks raises given wide more).2.num = z →
      Q (.ref pt) (upd H1 pt (.tup [.ref pl, .str word, .int z])) := by
    intro x z H1 R1 word pl pt said S1 s1 hpl npt e1 e2 e3
    refine q _ _ _ (S1.newR npt _) (s1.trans (same_new (S1.nR npt) _)) ?_
    unfold outEnc
    rw [e1, e2, e3]
    exact dp_tupN (S1.nR npt) (.cons (dp_newL hpl (.ints _)) (.cons (.str _) (.cons (.int _) .nil)))
  have mix : ∀ k, k < many → atI ((List.range many).map fun k => V.bl (marks k)) ((k : Nat) : Int) = some (.bl (marks k)) := fun k hk => atI_nat (by rw [List.getElem?_map, List.getElem?_range hk]; rfl)
  by_cases h8 : many ≤ 8
  · have hm8 : ¬ many > 8 := by omega
    cases raises with
    | false =>
      walk_at "k"
      intro p1 np1
      have S1 := S.newR np1 (.lst (([] : List Int).map .int))
      walk_at "go"
      intro p2 np2
      have ec : cutV ((List.range many).map fun k => V.int (more k)) none (some (((many : Nat) : Int) - 1)) = ((List.range (many - 1)).map more).map V.int := cutM more (by omega) (by omega)
      rw [ec] at *
      have S2 := S1.newR np2 (.lst (((List.range (many - 1)).map more).map V.int))
      walk_at "go"
      refine w_sum (ns := (List.range (many - 1)).map more) (SqL.of upd_same) ?_
      rw [sm_range]
      walk_at "go"
      intro p3 np3
      refine mk 0 _ _ _ _ _ _ [] S2 ((same_new (S.nR np1) _).trans (same_new (S1.nR np2) (.lst (((List.range (many - 1)).map more).map V.int)))) (same_new (S1.nR np2) _ _ _ upd_same) np3 ?_ ?_ ?_ <;> (unfold due; rw [if_pos ⟨h8, rfl⟩])
    | true =>
      rcases hw with rfl | rfl | rfl
      · walk_at "k"
        walk_at "lp"
        have en : (if (8 : Int) < ((many : Nat) : Int) - 1 then (8 : Int) else ((many : Nat) : Int) - 1) = ((min (many - 1) 8 : Nat) : Int) := by split <;> omega
        rw [en]
        have edu : due many marks true given 0 more = Out more given (inner marks (min (many - 1) 8)) := by
          unfold due
          rw [if_neg (fun h => by cases h.2), if_neg (by omega), if_neg (show ¬ many > 8 by omega)]
        have hn : min (many - 1) 8 < many := by omega
        have hn9 : min (many - 1) 8 ≤ 8 := by omega
        generalize min (many - 1) 8 = n at *
        refine for_RR (n := n) (by omega) (fun i σ' H' => H' = H ∧ (∃ v9, σ' = [some (.int (many : Nat)), some (.ref aM), some (.bl true), some (.int given), some (.int 0), some (.ref aO), some (.int given), some (.int ((if (8 : Int) < ((many : Nat) : Int) then 8 else ((many : Nat) : Int)) - 1)), none, v9]) ∧ inner marks n = inner marks (n - i)) ⟨rfl, ⟨none, rfl⟩, rfl⟩ (fun i σ' H' hi p => ?_) (fun σ' H' p => ?_)
        · obtain ⟨rfl, ⟨v9, rfl⟩, e⟩ := p
          have e9 : n - i = (n - 1 - i) + 1 := by omega
          rw [e9] at e
          have hk : n - 1 - i < many := by omega
          have e10 : n - 1 - i = n - (i + 1) := by omega
          generalize n - 1 - i = k at *
          have e11 : inner marks (k + 1) = if marks k = true then some k else inner marks k := rfl
          rw [e11] at e
          walk_at "go"
          refine w_ixLL (Same.seqL S.sub' hM) (mix k hk) ?_
          walk_at "go"
          cases hmk : marks k with
          | true =>
            rw [hmk, if_pos rfl] at e
            walk_at "go"
            intro p1 np1
            have S1 := S.newR np1 (.lst (([given] : List Int).map .int))
            walk_at "go"
            intro p2 np2
            have ec : cutV ((List.range many).map fun k => V.int (more k)) none (some ((k : Nat) : Int)) = ((List.range k).map more).map V.int := cutM more rfl (by omega)
            rw [ec] at *
            have S2 := S1.newR np2 (.lst (((List.range k).map more).map V.int))
            walk_at "go"
            refine w_sum (ns := (List.range k).map more) (SqL.of upd_same) ?_
            rw [sm_range]
            walk_at "go"
            intro p3 np3
            refine mk 0 _ _ _ _ _ _ [given] S2 ((same_new (S.nR np1) _).trans (same_new (S1.nR np2) (.lst (((List.range k).map more).map V.int)))) (same_new (S1.nR np2) _ _ _ upd_same) np3 ?_ ?_ ?_ <;> (rw [edu, e]; rfl)
          | false =>
            rw [hmk, if_neg Bool.false_ne_true, e10] at e
            walk_at "go"
            exact ⟨rfl, ⟨_, rfl⟩, e⟩
        · obtain ⟨rfl, ⟨v9, rfl⟩, e⟩ := p
          rw [Nat.sub_self] at e
          walk_at "go"
          intro p1 np1
          have S1 := S.newR np1 (.lst (([] : List Int).map .int))
          walk_at "go"
          intro p3 np3
          refine mk 0 _ _ _ _ _ _ [] S1 (same_new (S.nR np1) _) upd_same np3 ?_ ?_ ?_ <;> (rw [edu, e]; rfl)
      · walk_at "k"
        intro p1 np1
        have S1 := S.newR np1 (.lst (([given] : List Int).map .int))
        walk_at "k2"
        intro p2 np2
        have ec : cutV ((List.range many).map fun k => V.int (more k)) none (some ((if (8 : Int) < ((many : Nat) : Int) then 8 else ((many : Nat) : Int)) - 1)) = ((List.range (many - 1)).map more).map V.int := cutM more (by first | omega | (split <;> omega)) (by omega)
        rw [ec] at *
        have S2 := S1.newR np2 (.lst (((List.range (many - 1)).map more).map V.int))
        walk_at "go"
        refine w_sum (ns := (List.range (many - 1)).map more) (SqL.of upd_same) ?_
        rw [sm_range]
        walk_at "go"
        intro p3 np3
        refine mk 0 _ _ _ _ _ _ [given] S2 ((same_new (S.nR np1) _).trans (same_new (S1.nR np2) (.lst (((List.range (many - 1)).map more).map V.int)))) (same_new (S1.nR np2) _ _ _ upd_same) np3 ?_ ?_ ?_ <;> (unfold due; rw [if_neg (fun h => by cases h.2), if_pos (by omega), if_neg (show ¬ many > 8 by omega)]; try rw [if_neg (show ¬ (many > 8 ∧ _ ∧ _) from fun h => by omega), show min many 8 - 1 = many - 1 by omega])
      · walk_at "k"
        intro p1 np1
        have S1 := S.newR np1 (.lst (([given] : List Int).map .int))
        walk_at "k2"
        intro p2 np2
        have ec : cutV ((List.range many).map fun k => V.int (more k)) none (some ((if (8 : Int) < ((many : Nat) : Int) then 8 else ((many : Nat) : Int)) - 1)) = ((List.range (many - 1)).map more).map V.int := cutM more (by first | omega | (split <;> omega)) (by omega)
        rw [ec] at *
        have S2 := S1.newR np2 (.lst (((List.range (many - 1)).map more).map V.int))
        walk_at "go"
        refine w_sum (ns := (List.range (many - 1)).map more) (SqL.of upd_same) ?_
        rw [sm_range]
        walk_at "go"
        intro p3 np3
        refine mk 0 _ _ _ _ _ _ [given] S2 ((same_new (S.nR np1) _).trans (same_new (S1.nR np2) (.lst (((List.range (many - 1)).map more).map V.int)))) (same_new (S1.nR np2) _ _ _ upd_same) np3 ?_ ?_ ?_ <;> (unfold due; rw [if_neg (fun h => by cases h.2), if_pos (by omega), if_neg (show ¬ many > 8 by omega)]; try rw [if_neg (show ¬ (many > 8 ∧ _ ∧ _) from fun h => by omega), show min many 8 - 1 = many - 1 by omega])
  · have hm8 : many > 8 := by omega
    rcases hw with rfl | rfl | rfl
    · walk_at "k"
      walk_at "lp"
      have en : (if (8 : Int) < ((many : Nat) : Int) - 1 then (8 : Int) else ((many : Nat) : Int) - 1) = ((min (many - 1) 8 : Nat) : Int) := by split <;> omega
      rw [en]
      have edu : due many marks raises given 0 more = Out more 102 (inner marks (min (many - 1) 8)) := by
        unfold due
        rw [if_neg (fun h => by omega), if_neg (by omega), if_pos (show many > 8 by omega)]
      have hn : min (many - 1) 8 < many := by omega
      have hn9 : min (many - 1) 8 ≤ 8 := by omega
      generalize min (many - 1) 8 = n at *
      refine for_RR (n := n) (by omega) (fun i σ' H' => H' = H ∧ (∃ v9, σ' = [some (.int (many : Nat)), some (.ref aM), some (.bl raises), some (.int given), some (.int 0), some (.ref aO), some (.int 102), some (.int ((if (8 : Int) < ((many : Nat) : Int) then 8 else ((many : Nat) : Int)) - 1)), none, v9]) ∧ inner marks n = inner marks (n - i)) ⟨rfl, ⟨none, rfl⟩, rfl⟩ (fun i σ' H' hi p => ?_) (fun σ' H' p => ?_)
      · obtain ⟨rfl, ⟨v9, rfl⟩, e⟩ := p
        have e9 : n - i = (n - 1 - i) + 1 := by omega
        rw [e9] at e
        have hk : n - 1 - i < many := by omega
        have e10 : n - 1 - i = n - (i + 1) := by omega
        generalize n - 1 - i = k at *
        have e11 : inner marks (k + 1) = if marks k = true then some k else inner marks k := rfl
        rw [e11] at e
        walk_at "go"
        refine w_ixLL (Same.seqL S.sub' hM) (mix k hk) ?_
        walk_at "go"
        cases hmk : marks k with
        | true =>
          rw [hmk, if_pos rfl] at e
          walk_at "go"
          intro p1 np1
          have S1 := S.newR np1 (.lst (([102] : List Int).map .int))
          walk_at "go"
          intro p2 np2
          have ec : cutV ((List.range many).map fun k => V.int (more k)) none (some ((k : Nat) : Int)) = ((List.range k).map more).map V.int := cutM more rfl (by omega)
          rw [ec] at *
          have S2 := S1.newR np2 (.lst (((List.range k).map more).map V.int))
          walk_at "go"
          refine w_sum (ns := (List.range k).map more) (SqL.of upd_same) ?_
          rw [sm_range]
          walk_at "go"
          intro p3 np3
          refine mk 0 _ _ _ _ _ _ [102] S2 ((same_new (S.nR np1) _).trans (same_new (S1.nR np2) (.lst (((List.range k).map more).map V.int)))) (same_new (S1.nR np2) _ _ _ upd_same) np3 ?_ ?_ ?_ <;> (rw [edu, e]; rfl)
        | false =>
          rw [hmk, if_neg Bool.false_ne_true, e10] at e
          walk_at "go"
          exact ⟨rfl, ⟨_, rfl⟩, e⟩
      · obtain ⟨rfl, ⟨v9, rfl⟩, e⟩ := p
        rw [Nat.sub_self] at e
        walk_at "go"
        intro p1 np1
        have S1 := S.newR np1 (.lst (([] : List Int).map .int))
        walk_at "go"
        intro p3 np3
        refine mk 0 _ _ _ _ _ _ [] S1 (same_new (S.nR np1) _) upd_same np3 ?_ ?_ ?_ <;> (rw [edu, e]; rfl)
    · walk_at "k"
      refine w_ixLL (Same.seqL S.sub' hM) (mix 7 (by omega)) ?_
      walk_at "go"
      cases hmk : marks 7 with
      | true =>
        walk_at "go"
        intro p1 np1
        have S1 := S.newR np1 (.lst (([102] : List Int).map .int))
        walk_at "k2"
        intro p2 np2
        have ec : cutV ((List.range many).map fun k => V.int (more k)) none (some ((if (8 : Int) < ((many : Nat) : Int) then 8 else ((many : Nat) : Int)) - 1)) = ((List.range (7)).map more).map V.int := cutM more (by first | omega | (split <;> omega)) (by omega)
        rw [ec] at *
        have S2 := S1.newR np2 (.lst (((List.range (7)).map more).map V.int))
        walk_at "go"
        refine w_sum (ns := (List.range (7)).map more) (SqL.of upd_same) ?_
        rw [sm_range]
        walk_at "go"
        intro p3 np3
        refine mk 0 _ _ _ _ _ _ [102] S2 ((same_new (S.nR np1) _).trans (same_new (S1.nR np2) (.lst (((List.range (7)).map more).map V.int)))) (same_new (S1.nR np2) _ _ _ upd_same) np3 ?_ ?_ ?_ <;> (unfold due; rw [if_neg (fun h => by omega), if_pos (by omega), if_pos hm8]; try rw [if_neg (show ¬ (many > 8 ∧ _ ∧ _) from fun h => by omega), show min many 8 - 1 = 7 by omega])
      | false =>
        walk_at "go"
        intro p1 np1
        have S1 := S.newR np1 (.lst (([102] : List Int).map .int))
        walk_at "k2"
        intro p2 np2
        have ec : cutV ((List.range many).map fun k => V.int (more k)) none (some ((if (8 : Int) < ((many : Nat) : Int) then 8 else ((many : Nat) : Int)) - 1)) = ((List.range (7)).map more).map V.int := cutM more (by first | omega | (split <;> omega)) (by omega)
        rw [ec] at *
        have S2 := S1.newR np2 (.lst (((List.range (7)).map more).map V.int))
        walk_at "go"
        refine w_sum (ns := (List.range (7)).map more) (SqL.of upd_same) ?_
        rw [sm_range]
        walk_at "go"
        intro p3 np3
        refine mk 0 _ _ _ _ _ _ [102] S2 ((same_new (S.nR np1) _).trans (same_new (S1.nR np2) (.lst (((List.range (7)).map more).map V.int)))) (same_new (S1.nR np2) _ _ _ upd_same) np3 ?_ ?_ ?_ <;> (unfold due; rw [if_neg (fun h => by omega), if_pos (by omega), if_pos hm8]; try rw [if_neg (show ¬ (many > 8 ∧ _ ∧ _) from fun h => by omega), show min many 8 - 1 = 7 by omega])
    · walk_at "k"
      refine w_ixLL (Same.seqL S.sub' hM) (mix 7 (by omega)) ?_
      walk_at "go"
      cases hmk : marks 7 with
      | true =>
        walk_at "go"
        intro p1 np1
        have S1 := S.newR np1 (.lst (([102] : List Int).map .int))
        walk_at "k2"
        intro p2 np2
        have ec : cutV ((List.range many).map fun k => V.int (more k)) none (some ((if (8 : Int) < ((many : Nat) : Int) then 8 else ((many : Nat) : Int)) - 1)) = ((List.range (7)).map more).map V.int := cutM more (by first | omega | (split <;> omega)) (by omega)
        rw [ec] at *
        have S2 := S1.newR np2 (.lst (((List.range (7)).map more).map V.int))
        walk_at "go"
        refine w_sum (ns := (List.range (7)).map more) (SqL.of upd_same) ?_
        rw [sm_range]
        walk_at "go"
        intro p3 np3
        refine mk 0 _ _ _ _ _ _ [102] S2 ((same_new (S.nR np1) _).trans (same_new (S1.nR np2) (.lst (((List.range (7)).map more).map V.int)))) (same_new (S1.nR np2) _ _ _ upd_same) np3 ?_ ?_ ?_ <;> (unfold due; rw [if_neg (fun h => by omega), if_pos (by omega), if_pos hm8]; try rw [if_pos ⟨hm8, hmk, rfl⟩, show min many 8 - 1 = 7 by omega])
      | false =>
        walk_at "go"
        intro p1 np1
        have S1 := S.newR np1 (.lst (([102] : List Int).map .int))
        walk_at "k2"
        intro p2 np2
        have ec : cutV ((List.range many).map fun k => V.int (more k)) none (some ((if (8 : Int) < ((many : Nat) : Int) then 8 else ((many : Nat) : Int)) - 1)) = ((List.range (7)).map more).map V.int := cutM more (by first | omega | (split <;> omega)) (by omega)
        rw [ec] at *
        have S2 := S1.newR np2 (.lst (((List.range (7)).map more).map V.int))
        walk_at "go"
        refine w_sum (ns := (List.range (7)).map more) (SqL.of upd_same) ?_
        rw [sm_range]
        walk_at "go"
        intro p3 np3
        refine mk 0 _ _ _ _ _ _ [102] S2 ((same_new (S.nR np1) _).trans (same_new (S1.nR np2) (.lst (((List.range (7)).map more).map V.int)))) (same_new (S1.nR np2) _ _ _ upd_same) np3 ?_ ?_ ?_ <;> (unfold due; rw [if_neg (fun h => by omega), if_pos (by omega), if_pos hm8]; try rw [if_neg (show ¬ (many > 8 ∧ marks 7 = true ∧ _) from fun h => by rw [hmk] at h; cases h.2.1), show min many 8 - 1 = 7 by omega])
end
end K04

namespace K04
open PySem PySem.Spec PyProof.Rows L2 U MM M LC
local macro_rules | `(tactic| walk_at "own1") => `(tactic| first
  | ((with_reducible refine w_cell (ns := ?wcn) ?wcs ?wck ?_); (case wcs => walk_at "sq"); (case wck => first | decide | omega))
  | (with_reducible refine w_numb ?_)
  | (with_reducible refine w_whole ?_)
  | walk_at "own2")
section
variable {P : Program} {w : World} {K : PySem.W.Frag} {mg : Str → Option Value} {base : Heap}
theorem dpAll_bls {K : PySem.W.Frag} {H : Hp} : ∀ {ns : List Bool} {vs : List V}, DpAll K H vs (ns.map PyData.bool) → vs = ns.map V.bl
  | [], _, h => by cases h; rfl
  | n :: r, _, h => by
    cases h with
    | cons h1 h2 =>
      cases h1
      rw [dpAll_bls h2]
      rfl
def marksOf (ns : List Int) (k : Nat) : Bool := decide (cellAt ns (3 + (0 + (k : Int))) % 3 = 1)
def moreOf (ns : List Int) (k : Nat) : Int := cellAt ns (3 + (0 + (k : Int))) / 3 % 40 - 5
theorem ok_law (B : Bi mg) (g_DEEPEST : ∃ t, mg "DEEPEST" = some (.int 8 t)) (g_DEEP : ∃ t, mg "DEEP" = some (.int 102 t)) (c__law_cell_at : Ca P w K mg base CX0 1 "_law_cell_at" (spCel K)) (c__law_number : Ca P w K mg base CX0 1 "_law_number" spNumb) (c__law_whole : Ca P w K mg base CX0 1 "_law_whole" spWhole)
    (c__law_parts : Ca P w K mg base CX0 1 "_law_parts" (spParts K)) (c__law_due : Ca P w K mg base CX0 1 "_law_due" (spDue K)) (c_run : Ca P w K mg base CX0 43 "run" (spRun K)) :
    ∀ f fd, LawF K (top 30) f fd → FnOk P w K mg base CX0 44 f fd ["_law_script"] (spTrue K) := by
  have sc : FnScope ["_law_script", "_law_first", "_law_many", "_law_given", "_law_marks", "_law_k", "_law_more", "_law_raises", "_law_wide", "_law_turns", "_law_parts_here", "_law_found", "_law_due_here", "_law_x"] ["_law_script"] (defScope (top 30)) := ⟨rfl, rfl, rfl, by decide +kernel, rfl, by decide +kernel, by decide +kernel⟩
  have nd := sc.nd
  refine law0 sc (fun vs H Q E h => by obtain ⟨_, _, rfl, _⟩ := h; rfl) (fun f cdv A outer s H vs Q E hr h => ?_)
  obtain ⟨a, ns, rfl, hS, h63, q⟩ := h
  refine ⟨_, (pss_cons (ps_set (i := 1) nd rfl (by first | exact Or.inl rfl | exact Or.inr rfl) (pe_op op_mod (pe_op op_mul (pe_ca c__law_cell_at hr (by omega) rfl pass0 (pa_cons (pv 0) (pa_cons pe_int pa_nil))) pe_int) pe_int))
    (pss_cons (ps_set (i := 2) nd rfl (by first | exact Or.inl rfl | exact Or.inr rfl) (pe_op op_add pe_int (pe_op op_mod (pv 1) pe_int)))
    (pss_cons (ps_set (i := 3) nd rfl (by first | exact Or.inl rfl | exact Or.inr rfl) (pe_ca c__law_number hr (by omega) rfl pass0 (pa_cons (pe_ca c__law_cell_at hr (by omega) rfl pass0 (pa_cons (pv 0) (pa_cons pe_int pa_nil))) pa_nil)))
    (pss_cons (ps_setLc (i := 4) (own := [("_law_k", 5)]) rfl nd rfl rfl (sw_true rfl rfl rfl (by decide +kernel)) (pi_range1 rfl B.range (pa_cons (pv 2) pa_nil)) (blkOk_by (N := ["_law_script", "_law_first", "_law_many", "_law_given", "_law_marks", "_law_k", "_law_more", "_law_raises", "_law_wide", "_law_turns", "_law_parts_here", "_law_found", "_law_due_here", "_law_x"]) (sc := defScope (top 30)) (by decide +kernel)) (fun _ _ _ _ _ => (pg_name (i := 5) nd rfl (by first | exact Or.inl rfl | exact Or.inr rfl))) (fun _ _ _ _ _ => pts_nil) (fun _ _ _ _ _ => (pe_cmpR op_eq (pe_op op_mod (pe_ca c__law_cell_at hr (by omega) rfl pass0 (pa_cons (pv 0) (pa_cons (pe_op op_add pe_int (pv 5)) pa_nil))) pe_int) pe_int (nomark _))))
    (pss_cons (ps_setLc (i := 6) (own := [("_law_k", 5)]) rfl nd rfl rfl (sw_true rfl rfl rfl (by decide +kernel)) (pi_range1 rfl B.range (pa_cons (pv 2) pa_nil)) (blkOk_by (N := ["_law_script", "_law_first", "_law_many", "_law_given", "_law_marks", "_law_k", "_law_more", "_law_raises", "_law_wide", "_law_turns", "_law_parts_here", "_law_found", "_law_due_here", "_law_x"]) (sc := defScope (top 30)) (by decide +kernel)) (fun _ _ _ _ _ => (pg_name (i := 5) nd rfl (by first | exact Or.inl rfl | exact Or.inr rfl))) (fun _ _ _ _ _ => pts_nil) (fun _ _ _ _ _ => (pe_op op_sub (pe_op op_mod (pe_op op_fdiv (pe_ca c__law_cell_at hr (by omega) rfl pass0 (pa_cons (pv 0) (pa_cons (pe_op op_add pe_int (pv 5)) pa_nil))) pe_int) pe_int) pe_int)))
    (pss_cons (ps_set (i := 7) nd rfl (by first | exact Or.inl rfl | exact Or.inr rfl) (pe_cmpR op_eq (pe_op op_mod (pe_op op_fdiv (pv 1) pe_int) pe_int) pe_int (nomark _)))
    (pss_cons (ps_set (i := 8) nd rfl (by first | exact Or.inl rfl | exact Or.inr rfl) (pe_op op_mod (pe_op op_fdiv (pv 1) pe_int) pe_int))
    (pss_cons (ps_set (i := 9) nd rfl (by first | exact Or.inl rfl | exact Or.inr rfl) (pe_op op_mod (pe_ca c__law_cell_at hr (by omega) rfl pass0 (pa_cons (pv 0) (pa_cons pe_int pa_nil))) pe_int))
    (pss_cons (ps_set (i := 10) nd rfl (by first | exact Or.inl rfl | exact Or.inr rfl) (pe_ca c__law_parts hr (by omega) rfl pass0 (pa_cons (pv 2) (pa_cons (pv 4) (pa_cons (pv 7) (pa_cons (pv 8) (pa_cons (pe_op op_mod (pe_op op_fdiv (pv 1) pe_int) pe_int) (pa_cons (pv 6) pa_nil))))))))
    (pss_cons (ps_set (i := 11) nd rfl (by first | exact Or.inl rfl | exact Or.inr rfl) (pe_ca c_run hr (by omega) rfl pass0 (pa_cons (pe_tup (pa_cons (pe_callTy call_listA rfl B.list (by decide +kernel) (pa_cons (pe_ix ix_lt (pv 10) pe_int (fun _ _ => rfl)) pa_nil)) (pa_cons (pe_callTy call_listA rfl B.list (by decide +kernel) (pa_cons (pe_ix ix_lt (pv 10) pe_int (fun _ _ => rfl)) pa_nil)) (pa_cons (pe_callTy call_listA rfl B.list (by decide +kernel) (pa_cons (pe_ix ix_lt (pv 10) pe_int (fun _ _ => rfl)) pa_nil)) (pa_cons pe_int pa_nil))))) (pa_cons (pv 3) (pa_cons (pv 9) pa_nil)))))
    (pss_cons (ps_set (i := 12) nd rfl (by first | exact Or.inl rfl | exact Or.inr rfl) (pe_tup (pa_cons (pe_lst pa_nil) (pa_cons pe_str (pa_cons pe_int pa_nil)))))
    (pss_cons (ps_if (pt_cmpR op_ge (pv 9) (pe_op op_sub (pe_callB (call_minA rfl) rfl B.min (by decide +kernel) (pa_cons (pv 2) (pa_cons pe_int pa_nil))) pe_int) (nomark _)) (pss_one (ps_set (i := 12) nd rfl (by first | exact Or.inl rfl | exact Or.inr rfl) (pe_ca c__law_due hr (by omega) rfl pass0 (pa_cons (pv 2) (pa_cons (pv 4) (pa_cons (pv 7) (pa_cons (pv 3) (pa_cons (pv 8) (pa_cons (pv 6) pa_nil))))))))) pss_nil)
    (pss_cons (ps_if (PW.pt (pw_or (pt_cmpR op_ne (pe_gi rfl g_DEEPEST) pe_int (nomark _)) (pw_or (pt_cmpR op_ne (pe_gi rfl g_DEEP) pe_int (nomark _)) (pw_or (pt_not (pt_val (pe_callB call_isiN rfl B.isinstance (by decide +kernel) (pa_cons (pv 11) (pa_cons (pe_bltn (v := .ty "tuple") rfl B.tuple (by decide +kernel) rfl) pa_nil))))) (pw_or1 (pt_cmpR op_ne (pe_callB call_lenA rfl B.len PySem.boot_len (pa_cons (pv 11) pa_nil)) pe_int (nomark _))))))) (pss_one (ps_ret pe_bl)) pss_nil)
    (pss_cons (ps_if (PW.pt (pw_or (pt_not (pt_val (pe_callB call_isiN rfl B.isinstance (by decide +kernel) (pa_cons (pe_ix ix_lt (pv 11) pe_int (fun _ _ => rfl)) (pa_cons (pe_bltn (v := .ty "list") rfl B.list (by decide +kernel) rfl) pa_nil))))) (pw_or (pt_cmpR op_gt (pe_callB call_lenA rfl B.len PySem.boot_len (pa_cons (pe_lc (own := [("_law_x", 13)]) rfl nd (pi_list (pe_ix ix_lt (pv 11) pe_int (fun _ _ => rfl))) (blkOk_by (N := ["_law_script", "_law_first", "_law_many", "_law_given", "_law_marks", "_law_k", "_law_more", "_law_raises", "_law_wide", "_law_turns", "_law_parts_here", "_law_found", "_law_due_here", "_law_x"]) (sc := defScope (top 30)) (by decide +kernel)) (fun _ _ _ _ _ => (pg_name (i := 13) nd rfl (by first | exact Or.inl rfl | exact Or.inr rfl))) (fun _ _ _ _ _ => (pts_one (pt_not (pt_val (pe_ca c__law_whole hr (by omega) rfl pass0 (pa_cons (pv 13) pa_nil)))))) (fun _ _ _ _ _ => (pv 13))) pa_nil)) pe_int (nomark _)) (pw_or1 (pt_cmpR (op_neD hr.units) (pe_ix ix_lt (pv 11) pe_int (fun _ _ => rfl)) (pe_ix ix_lt (pv 12) pe_int (fun _ _ => rfl)) (nomark _)))))) (pss_one (ps_ret pe_bl)) pss_nil)
    (pss_one (ps_ret (pe_and (pe_callB call_isiN rfl B.isinstance (by decide +kernel) (pa_cons (pe_ix ix_lt (pv 11) pe_int (fun _ _ => rfl)) (pa_cons (pe_bltn (v := .ty "str") rfl B.str (by decide +kernel) rfl) pa_nil))) (pe_and (pe_ca c__law_whole hr (by omega) rfl pass0 (pa_cons (pe_ix ix_lt (pv 11) pe_int (fun _ _ => rfl)) pa_nil)) (pe_one (pe_cmpR (op_eqD hr.units) (pe_tup (pa_cons (pe_ix ix_lt (pv 11) pe_int (fun _ _ => rfl)) (pa_cons (pe_ix ix_lt (pv 11) pe_int (fun _ _ => rfl)) pa_nil))) (pe_tup (pa_cons (pe_ix ix_lt (pv 12) pe_int (fun _ _ => rfl)) (pa_cons (pe_ix ix_lt (pv 12) pe_int (fun _ _ => rfl)) pa_nil))) (nomark _))))))))))))))))))))), ?_⟩
  refine U.w_start (σ' := [some _, none, none, none, none, none, none, none, none, none, none, none, none, none]) rfl ?_
  walk_at "st"
  have S := Sta.start (W := []) (Same.refl H)
  obtain ⟨first, hfi⟩ : ∃ first, first = cellAt ns 0 * 48271 % 1000003 := ⟨_, rfl⟩
  rw [← hfi] at *
  obtain ⟨many, hmany⟩ : ∃ many : Nat, 1 + first % 12 = (many : Int) := ⟨(1 + first % 12).toNat, by omega⟩
  have hm1 : 1 ≤ many := by omega
  have hm12 : many ≤ 12 := by omega
  rw [hmany] at *
  refine lc_dataR (K := K) (W := []) (R := H) (((List.range many).map (marksOf ns)).map PyData.bool) (Same.refl _) (fun _ _ => by simp) (by omega) (by omega) (by simp) (by simp; omega) (fun i d R3 H3 N hd g3 k => ?_) (mono_gName _) mono_yes (fun D3 R3 H3 ys3 g3 nD3 hD3 rD3 aD3 => ?_)
  · rw [List.getElem?_map, List.getElem?_map] at hd
    obtain ⟨b, hb, rfl⟩ := Option.map_eq_some_iff.mp hd
    obtain ⟨j, hj, rfl⟩ := Option.map_eq_some_iff.mp hb
    obtain ⟨h1, rfl⟩ := range_get hj
    have hS3 : SqL K H3 a (ns.map V.int) := Same.seqL (g3.ext.trans g3.sub) hS
    walk_at "go"
    exact k _ _ _ (Gw.refl g3.sub) (.bl _)
  have S2 := (S.take g3 nD3 hD3 rD3).frz
  have ey3 := dpAll_bls aD3
  subst ey3
  have hM : SqL K (upd R3 D3 (.lst (((List.range many).map (marksOf ns)).map .bl))) D3 (((List.range many).map (marksOf ns)).map .bl) := SqL.of upd_same
  rw [List.map_map] at *
  generalize upd R3 D3 (.lst ((List.range many).map (V.bl ∘ marksOf ns))) = R4 at *
  walk_at "go"
  refine lc_dataR (K := K) (W := []) (R := R4) (((List.range many).map (moreOf ns)).map PyData.int) S2.sub' (fun _ _ => by simp) (by omega) (by omega) (by simp) (by simp; omega) (fun i d R5 H5 N hd g5 k => ?_) (mono_gName _) mono_yes (fun D5 R5 H5 ys5 g5 nD5 hD5 rD5 aD5 => ?_)
  · rw [List.getElem?_map, List.getElem?_map] at hd
    obtain ⟨b, hb, rfl⟩ := Option.map_eq_some_iff.mp hd
    obtain ⟨j, hj, rfl⟩ := Option.map_eq_some_iff.mp hb
    obtain ⟨h1, rfl⟩ := range_get hj
    have hS3 : SqL K H5 a (ns.map V.int) := Same.seqL (S2.ext'.trans (g5.ext.trans g5.sub)) hS
    walk_at "go"
    exact k _ _ _ (Gw.refl g5.sub) (.int _)
  have S3 := (S2.take g5 nD5 hD5 rD5).frz
  have ey5 := dpAll_ints aD5
  subst ey5
  have hO : SqL K (upd R5 D5 (.lst (((List.range many).map (moreOf ns)).map .int))) D5 (((List.range many).map (moreOf ns)).map .int) := SqL.of upd_same
  have s45 : Same R4 (upd R5 D5 (.lst (((List.range many).map (moreOf ns)).map .int))) := fun a o h => by
    have h1 := g5.ext a o h
    rw [upd_ne (ne_of_none h1 rD5)]
    exact h1
  have hM5 := Same.seqL s45 hM
  rw [List.map_map] at *
  generalize upd R5 D5 (.lst ((List.range many).map (V.int ∘ moreOf ns))) = R6 at *
  clear S2 g3 g5
  walk_at "go"
  obtain ⟨raises, hra⟩ : ∃ r : Bool, r = decide (first / 12 % 2 = 1) := ⟨_, rfl⟩
  rw [← hra] at *
  obtain ⟨turn, htu⟩ : ∃ turn : Nat, first / 72 % 108 = (turn : Int) := ⟨(first / 72 % 108).toNat, by omega⟩
  have ht : turn < 108 := by omega
  rw [htu] at *
  have hwide : first / 24 % 3 = 0 ∨ first / 24 % 3 = 1 ∨ first / 24 % 3 = 2 := by omega
  generalize first / 24 % 3 = wide at *
  obtain ⟨given, hgi⟩ : ∃ g, g = numb (cellAt ns 1) := ⟨_, rfl⟩
  rw [← hgi] at *
  obtain ⟨y, hy⟩ : ∃ y : Ly, y = ⟨many, turn / 36 % 3, raises, moreOf ns, marksOf ns, turn / 3, 4 - turn % 3 * 2⟩ := ⟨_, rfl⟩
  refine ⟨[], H, H, R6, [], D3, D5, y, wide, turn, by rw [hy]; rfl, S3, by rw [hy]; exact hM5, by rw [hy]; exact hO, by rw [hy]; exact hm1, by rw [hy]; exact hm12, ht, by rw [hy], by rw [hy], by rw [hy], fun R7 H7 pv xs S7 sR7 hxs hpv => ?_⟩
  have F := cf (y := y) (wide := wide) (xs := xs) (by rw [hy]; exact hm1) hxs
  obtain ⟨C, hC⟩ : ∃ C, C = y.cd wide xs := ⟨_, rfl⟩
  rw [← hC] at hpv F
  have hCb : C.boxes = 1 := F.boxes
  have hCl : C.rows.length ≤ 10000 ∧ C.str.length ≤ 10000 ∧ C.begins.length ≤ 10000 := by
    rw [hC]
    refine ⟨?_, ?_, ?_⟩
    · show (y.code y.many ++ ([.say, .put 40, .back] : List Rw)).length ≤ _
      rw [List.length_append]
      have h1 := off_le (y := y) y.many
      have h2 : (y.z + 8) * y.many ≤ 10 * 12 := Nat.mul_le_mul (by rw [hy]; show turn / 36 % 3 + 8 ≤ 10; omega) (by rw [hy]; exact hm12)
      unfold Ly.off at h1
      show _ + 3 ≤ _
      omega
    · show (y.full wide).length ≤ _
      have h1 := strs_len (y := y) y.many
      have h2 : y.many ≤ 12 := by rw [hy]; exact hm12
      unfold Ly.full
      split
      · rw [List.length_append]; show 1 + _ ≤ _; omega
      · split
        · rw [List.length_append]; show _ + 1 ≤ _; omega
        · omega
    · show xs.length ≤ _
      rw [hxs.1, hy]
      show many ≤ _
      omega
  obtain ⟨pp, w1, w2, w3, w4, rfl, hT, d1, d2, d3, d4⟩ := dp_tup4 hpv
  obtain ⟨q1, x1, rfl, l1, k1⟩ := dp_lst d1
  obtain ⟨q2, x2, rfl, l2, k2⟩ := dp_lst d2
  obtain ⟨q3, x3, rfl, l3, k3⟩ := dp_lst d3
  cases dp_int d4
  have hM7 := Same.seqL sR7 hM5
  have hO7 := Same.seqL sR7 hO
  clear S3 hM5 hO hM
  walk_at "go"
  intro n1 nn1
  have S8 := S7.newR nn1 (.lst x1)
  have e1 := dp_lstN (S7.nR nn1) k1
  have s8 := same_new (S7.nR nn1) (.lst x1)
  walk_at "go"
  intro n2 nn2
  have S9 := S8.newR nn2 (.lst x2)
  have e2 := dp_lstN (S8.nR nn2) (k2.up s8)
  have s9 := s8.trans (same_new (S8.nR nn2) (.lst x2))
  walk_at "go"
  intro n3 nn3
  have S10 := S9.newR nn3 (.lst x3)
  have e3 := dp_lstN (S9.nR nn3) (k3.up s9)
  have s10 := s9.trans (same_new (S9.nR nn3) (.lst x3))
  walk_at "go"
  intro n4 nn4
  have S11 := S10.newR nn4 (.tup [.ref n1, .ref n2, .ref n3, .int 1])
  have eP := dp_tupN (S10.nR nn4) (.cons ((e1.up (same_new (S8.nR nn2) (.lst x2))).up (same_new (S9.nR nn3) (.lst x3))) (.cons (e2.up (same_new (S9.nR nn3) (.lst x3))) (.cons e3 (.cons (.int 1) .nil))))
  have s11 := s10.trans (same_new (S10.nR nn4) (.tup [.ref n1, .ref n2, .ref n3, .int 1]))
  have hM11 := Same.seqL s11 hM7
  have hO11 := Same.seqL s11 hO7
  clear S8 S9 S10 e1 e2 e3 s8 s9 s10
  generalize upd (upd (upd (upd R7 n1 (.lst x1)) n2 (.lst x2)) n3 (.lst x3)) n4 (.tup [.ref n1, .ref n2, .ref n3, .int 1]) = R11 at *
  generalize upd (upd (upd (upd H7 n1 (.lst x1)) n2 (.lst x2)) n3 (.lst x3)) n4 (.tup [.ref n1, .ref n2, .ref n3, .int 1]) = H11 at *
  walk_at "go"
  obtain ⟨turns, htn⟩ : ∃ turns : Nat, cellAt ns 2 % 15 = (turns : Int) := ⟨(cellAt ns 2 % 15).toNat, by omega⟩
  rw [htn] at *
  obtain ⟨se, ⟨n, hn1, hn2⟩, hn3, hn4⟩ := down (n := given) F hwide (by rw [hy]; exact hm1) (by rw [hy]; show turn / 36 % 3 ≤ 2; omega) turns (min y.many 9 - 1) 0 (by omega) (Nat.zero_le _) (by decide)
  have hinit : MM.init C given turns = some (mkf ((turns : Int) - ((0 : Nat) : Int)) (y.off (inv y.many y.rot 0) : Int) [given] [] (low (fun k => (y.off (inv y.many y.rot k) : Int)) y.more given 0) []) := by
    unfold MM.init MM.enter
    rw [if_neg (show ¬ ([] : List MM.Fr).length = 8 by decide)]
    have h0 := F.beg 0 (by rw [hy]; exact hm1)
    rw [show ((0 : Nat) : Int) = (0 : Int) from rfl] at h0
    rw [h0]
    unfold newFr
    rw [hCb]
    show some (MS.mk (turns : Int) _ _ _) = some (MS.mk ((turns : Int) - ((0 : Nat) : Int)) _ _ _)
    rw [show (turns : Int) - ((0 : Nat) : Int) = (turns : Int) by omega]
    rfl
  refine ⟨C, n4, given, turns, n, _, se, _, rfl, ?_, by rw [hCb]; decide, by rw [hCb]; decide, hinit, hn2, hn3, by omega, fun R12 H12 v g12 hv => ?_⟩
  · unfold Cd.enc
    rw [hCb]
    exact eP.up S11.sub'
  rw [hn4] at hv
  have S12 := S11.sm (fun a o h => g12.kee a o h (by simp) : Same H11 H12)
  have hv12 := hv.up g12.sub
  obtain ⟨dT, hdT⟩ : ∃ d, d = dueT turns y.many y.marks y.raises given wide y.more := ⟨_, rfl⟩
  rw [← hdT] at hv12
  obtain ⟨fv, ws, ww, wn, rfl, hV, hw1, hw2, hw3⟩ := dp_tup3 hv12
  cases dp_str hw2
  cases dp_int hw3
  obtain ⟨pS, xS, rfl, hS1, hS2⟩ := dp_lst hw1
  have eS := dpAll_ints hS2
  subst eS
  clear hv12 hv hw1 hS2
  walk_at "go"
  intro z1 nz1
  have S13 := (Sta.start (W := []) (Same.refl H12)).newR nz1 (.lst [])
  walk_at "go"
  intro z2 nz2
  have S14 := S13.newR nz2 (.tup [.ref z1, .str "tired", .int 0])
  have dt0 := dp_tupN (K := K) (S13.nR nz2) (.cons (dp_newL (ds := ([] : List Int).map .int) upd_same .nil) (.cons (.str "tired") (.cons (.int 0) .nil)))
  have sm := S14.old
  have hV14 := Same.seqT sm hV
  have hS14 := Same.seqL sm hS1
  have hM14 := Same.seqL ((S12.sub').trans sm) hM11
  have hO14 := Same.seqL ((S12.sub').trans sm) hO11
  have dt14 := dt0.up S14.sub'
  clear S13 S14 dt0 S12 hM11 hO11 hV hS1 sm
  generalize upd (upd H12 z1 (.lst [])) z2 (.tup [.ref z1, .str "tired", .int 0]) = H14 at *
  walk_at "go"
  refine w_ifJ (by walk_at "set") (fun σ' H' => ∃ (dv : V), σ' = [some (.ref a), some (.int first), some (.int (many : Nat)), some (.int given), some (.ref D3), none, some (.ref D5), some (.bl raises), some (.int wide), some (.int (turns : Nat)), some (.ref pp), some (.ref fv), some dv, none] ∧
    Same H14 H' ∧ Dp K H' dv (outEnc dT.1 dT.2)) (fun nx' kj => ?_) (fun σ' H' hj => ?_)
  · walk_at "go"
    have em : (if (9 : Int) < ((many : Nat) : Int) then (9 : Int) else ((many : Nat) : Int)) - 1 = ((min many 9 - 1 : Nat) : Int) := by split <;> omega
    rw [em]
    refine it_cases (fun c => ?_) fun c => ?_
    · walk_at "go"
      refine ⟨[], H14, H14, H14, [], D3, D5, many, marksOf ns, raises, given, wide, moreOf ns, rfl, Sta.start (Same.refl _), hM14, hO14, hm1, hm12, hwide, fun R15 H15 v S15 s15 hd15 => ?_⟩
      walk_at "go"
      refine kj _ _ ⟨v, rfl, S15.old, ?_⟩
      rw [hdT]
      unfold dueT
      rw [if_pos (by rw [hy]; show turns ≥ min many 9 - 1; omega)]
      rw [hy]
      exact hd15.up S15.sub'
    · walk_at "go"
      refine kj _ _ ⟨.ref z2, rfl, Same.refl _, ?_⟩
      rw [hdT]
      unfold dueT
      rw [if_neg (by rw [hy]; show ¬ turns ≥ min many 9 - 1; omega)]
      exact dt14
  obtain ⟨dv, rfl, sJ, hdv⟩ := hj
  obtain ⟨dp, u1, u2, u3, rfl, hDT, hu1, hu2, hu3⟩ := dp_tup3 hdv
  cases dp_str hu2
  cases dp_int hu3
  obtain ⟨pD, xD, rfl, hD1, hD2⟩ := dp_lst hu1
  have eD := dpAll_ints hD2
  subst eD
  have hVJ := Same.seqT sJ hV14
  have hSJ := Same.seqL sJ hS14
  walk_at "go"
  walk_at "if"
  refine itn_pos rfl ?_
  walk_at "go"
  refine itn_pos rfl ?_
  walk_at "go"
  refine itn_pos rfl ?_
  walk_at "go"
  walk_at "if"
  refine lc_none hSJ (fun i x D hx nD => ?_) (fun D nD => ?_)
  · rw [List.getElem?_map] at hx
    obtain ⟨z, _, rfl⟩ := Option.map_eq_some_iff.mp hx
    walk_at "go"
    rfl
  · walk_at "go"
    refine it_neg (by decide) ?_
    have sz3 := same_new nD (.lst [])
    have hVK := Same.seqT sz3 hVJ
    have hSK := Same.seqL sz3 hSJ
    have hDK := Same.seqT sz3 hDT
    have hLK := Same.seqL sz3 hD1
    walk_at "go"
    refine w_neD (d := .list (dT.1.map .int)) (.lst hSK (.ints _)) (.lst hLK (.ints _)) (ints_shaped _) ?_
    walk_at "go"
    intro t1 n1
    walk_at "go"
    intro t2 n2
    walk_at "go"
    refine w_eqD (d := .tuple [.str dT.2.word, .int dT.2.num]) ((dp_tupN n1 (.cons (.str _) (.cons (.int _) .nil))).up (same_new n2 _)) (dp_tupN n2 (.cons (.str _) (.cons (.int _) .nil))) ?_ (q _)
    generalize dT.2 = ou
    cases ou <;> exact shaped_of (by simp only [PyData.canLay0, PyData.canLayAll0, MM.Ou.word]; decide +kernel) (by simp [PyData.depth, PyData.depthAll])
end
end K04

namespace K04
open PySem PySem.Spec PyProof.Rows L2 U MM M LC
def lW : List Wd := [.df "_law_whole" (top 25), .df "_law_cell_at" (top 26), .df "_law_number" (top 27), .df "_law_parts" (top 28), .df "_law_due" (top 29), .df "law" (top 30)]
abbrev ws : List Wd := mW ++ lW
abbrev R : PySem.W.OpenRow := PySem.W.OpenLaw.row PySem.Challenge.rw_unwind_k04_faults_go_out
abbrev hk : PySem.W.Hook := U.hookU 4 (faU ws) (fnU ws) [actT] mX
def ob (s : PySem.W.SharedT) : AlU := U.obsUG 4 (faU ws) (fnU ws) [actT] mX (HandSHeadRun.getT s)
theorem ob_eq (s : PySem.W.SharedT) : ob s = hk.obs s.abs := U.obsU_eq (HandSHeadRun.getT_eq s)
def loose : List Str := ["DEEPEST", "NOUGHT", "DEEP", "reckoned", "Entered", "Machine", "goal_of", "run", "_step", "_put", "_get", "_set", "_say", "_reckon", "_go", "_nought", "_on", "_turn", "_call", "_back", "_raise", "ACTS", "_law_whole", "_law_cell_at", "_law_number", "_law_parts", "_law_due"]
theorem run (w : World) : HandSHeadRun.RunEq R (PySem.W.view R.prog [30]) hk ob 4000 loose w := by
  refine PySem.W.byRow2 "special-get-raises" (P := fun w => HandSHeadRun.RunEq R (PySem.W.view R.prog [30]) hk ob 4000 loose w) (fun w => ?_) (fun w => ?_) w
  · intro os
    kernel_rfl
  · intro os
    kernel_rfl
end K04
open PySem PySem.W PySem.Calls PyProof.Rows
theorem PySem.Challenge.cw_unwind_k04_faults_go_out_holds : PySem.Challenge.rw_unwind_k04_faults_go_out.Holds := by
  w_on; o_law
  refine HandSHeadRun.head_any (r := OpenLaw.row PySem.Challenge.rw_unwind_k04_faults_go_out) (q := view (OpenLaw.row PySem.Challenge.rw_unwind_k04_faults_go_out).prog [30]) (H := K04.hk) (ob := K04.ob) (M := 4000) (loose := K04.loose) (d := HandSHeadRun.topDef (OpenLaw.row PySem.Challenge.rw_unwind_k04_faults_go_out).prog 30) (kwd := []) K04.ob_eq
    (by kernel_rfl) (fun s => by kernel_rfl) K04.run (by kernel_rfl) (by kernel_rfl) (by kernel_rfl) (by rfl) (by first | assumption | decide +kernel) (by decide +kernel) ⟨rfl, rfl, rfl, rfl, rfl, by decide +kernel⟩ ?hw ?hc
  case hw => w_witness2
  case hc =>
    refine U.walk_u (l := PySem.Challenge.rw_unwind_k04_faults_go_out) (k := 44) (j := 32) (x := "_law_script") (ws := K04.ws) (ts := [M.actT]) (ex := M.mX) (st := M.top 30) rfl (by kernel_rfl) ⟨rfl, by decide, by decide⟩ (by kernel_rfl) rfl (fun _ _ _ _ _ _ us hl => match us, hl with | [_], _ => rfl) ?F
    intro w K mg h base X G c
    have B := U.bi_u X G c
    have hS := (He.ba c.more).1
    have cr := M.run_of X G c c.more (P := (PySem.Challenge.rw_unwind_k04_faults_go_out).prog) (base := base) rfl
    exact K04.ok_law B (U.num_u X G c 23) (U.num_u X G c 25) (LC.ca_cell B (U.df_u X G c 28)) (LC.ca_numb (U.df_u X G c 29)) (LC.ca_whole B (U.df_u X G c 27)) (K04.ca_parts B (U.df_u X G c 30)) (K04.ca_due B (U.df_u X G c 31)) cr
