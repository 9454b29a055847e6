import PyProof.Rows.All
import Wide.All
import OpenK.AllK
import Wide.FinOn
import PyProof.EqAt
import PyProof.EqKinds
import PyProof.TupleCall
import HandS.ForMost
import HandS.ForExc
import HandS.IsInst
import HandS.Defaults
import HandS.HeadHook4
import HandS.HeadEnd
import HandS.Head4
import HandS.CallLocal
import HandS.Zip
import PySem.Challenge.RW_unwind_k06_refusals
import HandS.ExcSuper
import HandS.ExcOwn
import HandS.ExcField
import HandS.TryOnly
import HandS.RaiseMore
import HandS.FStr
import HandS.ExcIs
import HandS.Lambda
import HandS.EndTab
import KE.KNest
set_option Elab.async false
set_option linter.all false
set_option maxRecDepth 100000
set_option maxHeartbeats 4000000
/-! U0: short steps for readings (own work). -/
namespace U
open PySem L2

/-! ### sizes -/
theorem sz {n : Nat} (h : n ≤ 100000) : n ≤ sizeLine := Nat.le_trans h (by decide)
theorem szlt {n : Nat} (h : n < 100000) : n < sizeLine := Nat.lt_of_lt_of_le h (by decide)
theorem ble {n m : Nat} (h : Nat.ble n m = true) : n ≤ m := Nat.le_of_ble_eq_true h

/-! ### statements -/
section
variable {t u : TS} {nx bk ct : L2.St → Hp → Prop} {rt : VK} {σ : L2.St} {H : Hp} {te ta tb tc : TE} {tt tt2 : TT} {tas : TA} {Q : VK} {QB : Bool → Hp → Prop} {QA : List V → Hp → Prop} {g : TG} {gs : TGs} {i : Nat} {v x y : V} {r : R2} {K : PySem.W.Frag}
theorem w_seq (h : t ⟨u ⟨nx, rt, bk, ct⟩, rt, bk, ct⟩ σ H) : tSeq t u ⟨nx, rt, bk, ct⟩ σ H := h
theorem w_seqN {σ' : L2.St} (e : σ = σ') (h : t ⟨u ⟨nx, rt, bk, ct⟩, rt, bk, ct⟩ σ' H) : tSeq t u ⟨nx, rt, bk, ct⟩ σ H := by subst e; exact h
/-- a choice that is followed by something: it is entered by name ("if"), or by what holds behind it (w_ifJ) -/
def tSeqIf (tt : TT) (t u v : TS) : TS := tSeq (tIfS tt t u) v
theorem w_seqStop {v : TS} {D : Ends} (h : tSeqIf tt t u v D σ H) : tSeq (tIfS tt t u) v D σ H := h
theorem w_seqIf {v : TS} {σ' : L2.St} (e : σ = σ') (h : tt σ' H fun b H1 => if b = true then t ⟨v ⟨nx, rt, bk, ct⟩, rt, bk, ct⟩ σ' H1 else u ⟨v ⟨nx, rt, bk, ct⟩, rt, bk, ct⟩ σ' H1) : tSeqIf tt t u v ⟨nx, rt, bk, ct⟩ σ H := by subst e; exact h
theorem w_ifJ {v : TS} {σ1 : L2.St} (e : σ = σ1) (J : L2.St → Hp → Prop) (h2 : ∀ nx' : L2.St → Hp → Prop, (∀ σ' H', J σ' H' → nx' σ' H') → tt σ1 H fun b H1 => if b = true then t ⟨nx', rt, bk, ct⟩ σ1 H1 else u ⟨nx', rt, bk, ct⟩ σ1 H1)
    (h1 : ∀ σ' H', J σ' H' → v ⟨nx, rt, bk, ct⟩ σ' H') : tSeqIf tt t u v ⟨nx, rt, bk, ct⟩ σ H := by subst e; exact h2 _ h1
theorem w_seqJ {J : L2.St → Hp → Prop} (h2 : ∀ nx' : L2.St → Hp → Prop, (∀ σ' H', J σ' H' → nx' σ' H') → t ⟨nx', rt, bk, ct⟩ σ H) (h1 : ∀ σ' H', J σ' H' → u ⟨nx, rt, bk, ct⟩ σ' H') : tSeq t u ⟨nx, rt, bk, ct⟩ σ H := h2 _ h1
/-- a loop that is followed by something: it is entered by name ("lp"), or by what holds behind it (w_lpJ) -/
def tSeqLp (t v : TS) : TS := tSeq t v
theorem w_stopF {wi : TI} {tb v : TS} {D : Ends} (h : tSeqLp (tFor wi g tb) v D σ H) : tSeq (tFor wi g tb) v D σ H := h
theorem w_stopW {tb v : TS} {D : Ends} (h : tSeqLp (tWhile tt tb) v D σ H) : tSeq (tWhile tt tb) v D σ H := h
theorem w_seqLp {v : TS} {σ' : L2.St} (e : σ = σ') (h : t ⟨v ⟨nx, rt, bk, ct⟩, rt, bk, ct⟩ σ' H) : tSeqLp t v ⟨nx, rt, bk, ct⟩ σ H := by subst e; exact h
theorem w_lpJ {v : TS} {σ1 : L2.St} (e : σ = σ1) (J : L2.St → Hp → Prop) (h2 : ∀ nx' : L2.St → Hp → Prop, (∀ σ' H', J σ' H' → nx' σ' H') → t ⟨nx', rt, bk, ct⟩ σ1 H)
    (h1 : ∀ σ' H', J σ' H' → v ⟨nx, rt, bk, ct⟩ σ' H') : tSeqLp t v ⟨nx, rt, bk, ct⟩ σ H := by subst e; exact h2 _ h1
theorem w_start {D : Ends} {σ' : L2.St} (e : σ = σ') (h : t D σ' H) : t D σ H := by subst e; exact h
theorem w_next (h : nx σ H) : tNext ⟨nx, rt, bk, ct⟩ σ H := h
theorem w_break (h : bk σ H) : tBreak ⟨nx, rt, bk, ct⟩ σ H := h
theorem w_cont (h : ct σ H) : tCont ⟨nx, rt, bk, ct⟩ σ H := h
theorem w_drop (h : te σ H fun _ H1 => nx σ H1) : tDrop te ⟨nx, rt, bk, ct⟩ σ H := h
theorem w_ret (h : te σ H rt) : tRet te ⟨nx, rt, bk, ct⟩ σ H := h
theorem w_retN (h : rt .non H) : tRetN ⟨nx, rt, bk, ct⟩ σ H := h
theorem w_ifS (h : tt σ H fun b H1 => if b = true then t ⟨nx, rt, bk, ct⟩ σ H1 else u ⟨nx, rt, bk, ct⟩ σ H1) : tIfS tt t u ⟨nx, rt, bk, ct⟩ σ H := h
theorem w_asgN (h : te σ H fun x H1 => nx (σ.set i (some x)) H1) : tAsg te (gName i) ⟨nx, rt, bk, ct⟩ σ H := h
theorem w_asg (h : te σ H fun x H1 => g x σ H1 nx) : tAsg te g ⟨nx, rt, bk, ct⟩ σ H := h
theorem w_gName {QG : L2.St → Hp → Prop} (h : QG (σ.set i (some v)) H) : gName i v σ H QG := h
theorem w_gNil {QG : L2.St → Hp → Prop} (h : QG σ H) : gNil [] σ H QG := ⟨rfl, h⟩
theorem w_gCons {QG : L2.St → Hp → Prop} {vs : List V} (h : g v σ H fun σ' H' => gs vs σ' H' QG) : gCons g gs (v :: vs) σ H QG := ⟨v, vs, rfl, h⟩
theorem w_gTup {QG : L2.St → Hp → Prop} {n : Nat} {a : Addr} {xs : List V} (ha : SqT K H a xs) (hn : xs.length = n) (h : gs xs σ H QG) : gTup K n gs (.ref a) σ H QG := ⟨a, xs, rfl, ha, hn, h⟩
theorem w_gSub {QG : L2.St → Hp → Prop} {ts : TSet} (h : ta σ H fun o H1 => tb σ H1 fun i H2 => ts o i v H2 fun H3 => QG σ H3) : gSub ta tb ts v σ H QG := h
theorem w_setL {a : Addr} {xs : List V} {k : Int} {j : Nat} {QH : Hp → Prop} (ha : H a = some (.lst xs)) (hk : ixN xs.length k = some j) (h : QH (upd H a (.lst (xs.set j v)))) : rSetL (.ref a) (.int k) v H QH := ⟨a, xs, k, j, rfl, rfl, ha, hk, h⟩

/-! ### expressions -/
theorem w_var (e : σ[i]? = some (some v)) (h : Q v H) : tVar i σ H Q := ⟨v, e, h⟩
theorem w_c (h : Q v H) : tC v σ H Q := h
theorem w_op (h : ta σ H fun x H1 => tb σ H1 fun y H2 => r x y H2 Q) : tOp r ta tb σ H Q := h
theorem w_un {r : V → Hp → VK → Prop} (h : ta σ H fun x H1 => r x H1 Q) : tUn r ta σ H Q := h
theorem w_rI0 {g : Int → Int → V} {i j : Int} (h : Q (g i j) H) : rI0 g (.int i) (.int j) H Q := ⟨i, j, rfl, rfl, h⟩
theorem w_rI {C : Int → Int → Prop} {g : Int → Int → V} {i j : Int} (c : C i j) (h : Q (g i j) H) : rI C g (.int i) (.int j) H Q := ⟨i, j, rfl, rfl, c, h⟩
theorem w_rU {g : Int → V} {i : Int} (h : Q (g i) H) : rU g (.int i) H Q := ⟨i, rfl, h⟩
theorem w_eqI {i j : Int} (h : Q (.bl (decide (i = j))) H) : rEq (.int i) (.int j) H Q := ⟨rfl, by
  have e : decide (V.int i = V.int j) = decide (i = j) := by
    by_cases c : i = j
    · rw [decide_eq_true c, decide_eq_true (by rw [c])]
    · rw [decide_eq_false c, decide_eq_false (fun q => c (V.int.inj q))]
  rw [e]; exact h⟩
theorem w_neI {i j : Int} (h : Q (.bl (!decide (i = j))) H) : rNe (.int i) (.int j) H Q := ⟨rfl, by
  have e : decide (V.int i = V.int j) = decide (i = j) := by
    by_cases c : i = j
    · rw [decide_eq_true c, decide_eq_true (by rw [c])]
    · rw [decide_eq_false c, decide_eq_false (fun q => c (V.int.inj q))]
  rw [e]; exact h⟩
theorem w_eqT (s : scal x x = true) (h : Q (.bl true) H) : rEq x x H Q := ⟨s, by rw [decide_eq_true rfl]; exact h⟩
theorem w_eqF (s : scal x y = true) (n : decide (x = y) = false) (h : Q (.bl false) H) : rEq x y H Q := ⟨s, by rw [n]; exact h⟩
theorem w_neT (s : scal x x = true) (h : Q (.bl false) H) : rNe x x H Q := ⟨s, by rw [decide_eq_true rfl]; exact h⟩
theorem w_neF (s : scal x y = true) (n : decide (x = y) = false) (h : Q (.bl true) H) : rNe x y H Q := ⟨s, by rw [n]; exact h⟩
theorem w_chain {r r' : R2} (h : ta σ H fun x H1 => tb σ H1 fun y H2 => r x y H2 fun z H3 => ∃ k, z = .bl k ∧ (if k = true then tc σ H3 fun w' H4 => r' y w' H4 Q else Q (.bl false) H3)) : tChain r r' ta tb tc σ H Q := h
theorem w_tup (h : tas σ H fun xs H1 => xs.length ≤ sizeLine ∧ ∀ p, H1 p = none → Q (.ref p) (upd H1 p (.tup xs))) : tTup tas σ H Q := h
theorem w_lst (h : tas σ H fun xs H1 => xs.length ≤ sizeLine ∧ ∀ p, H1 p = none → Q (.ref p) (upd H1 p (.lst xs))) : tLst tas σ H Q := h
theorem w_size {n m : Nat} {A : Prop} (e : Nat.ble n m = true) (h : A) : n ≤ m ∧ A := ⟨ble e, h⟩
theorem w_nil (h : QA [] H) : tNil σ H QA := h
theorem w_cons (h : te σ H fun x H1 => tas σ H1 fun xs H2 => QA (x :: xs) H2) : tCons te tas σ H QA := h
theorem w_call {sp : Sp} {dvs : List V} {E : XK} (h : tas σ H fun vs H1 => sp (vs ++ dvs) H1 Q E) : tCall sp dvs E tas σ H Q := h
theorem w_cb {r : List V → Hp → VK → Prop} (h : tas σ H fun vs H1 => r vs H1 Q) : tCB r tas σ H Q := h
theorem w_fld {f : Str} {a C dx : Addr} {fs : List (Str × V)} (h : te σ H fun x H1 => ∃ a C dx fs v, x = .ref a ∧ H1 a = some (.ins C dx fs) ∧ Cls K C ∧ NoAttr K C f ∧ fs.lookup f = some v ∧ Q v H1) : tFld K te f σ H Q := h
theorem w_fldE {f : Str} {a C dx : Addr} {fs : List (Str × V)} {v : V} (ha : H a = some (.ins C dx fs)) (c : Cls K C) (n : NoAttr K C f) (l : fs.lookup f = some v) (h : Q v H) :
    ∃ a' C dx fs v', V.ref a = .ref a' ∧ H a' = some (.ins C dx fs) ∧ Cls K C ∧ NoAttr K C f ∧ fs.lookup f = some v' ∧ Q v' H := ⟨a, C, dx, fs, v, rfl, ha, c, n, l, h⟩
theorem w_bm {T : String} {r : V → List V → Hp → VK → Prop} (h : te σ H fun x H1 => tyV K T x H1 ∧ tas σ H1 fun xs H2 => r x xs H2 Q) : tBM K T r te tas σ H Q := h
theorem w_bm0 {T : String} {r : V → List V → Hp → VK → Prop} (h : te σ H fun x H1 => tyV K T x H1 ∧ r x [] H1 Q) : tBM0 K T r te σ H Q := h
theorem w_tyL {a : Addr} {xs : List V} {A : Prop} (ha : H a = some (.lst xs)) (h : A) : tyV K "list" (.ref a) H ∧ A := ⟨.inl ⟨rfl, _, SqL.of ha⟩, h⟩
theorem w_append {a : Addr} {xs : List V} (ha : H a = some (.lst xs)) (hl : xs.length < sizeLine) (h : Q .non (upd H a (.lst (xs ++ [y])))) : rAppend (.ref a) [y] H Q := ⟨a, xs, y, rfl, rfl, ha, hl, h⟩
theorem w_pop {a : Addr} {xs : List V} (ha : H a = some (.lst (xs ++ [y]))) (h : Q y (upd H a (.lst xs))) : rPop (.ref a) [] H Q := ⟨a, xs ++ [y], y, rfl, rfl, ha, by simp, by rw [List.dropLast_concat]; exact h⟩
theorem w_ixL {a : Addr} {xs : List V} {i : Int} (ha : SqL K H a xs) (hi : atI xs i = some v) (h : Q v H) : rIxL K (.ref a) (.int i) H Q := ⟨a, xs, i, v, rfl, rfl, ha, hi, h⟩
theorem w_ixT {a : Addr} {xs : List V} {i : Int} (ha : SqT K H a xs) (hi : atI xs i = some v) (h : Q v H) : rIxT K (.ref a) (.int i) H Q := ⟨a, xs, i, v, rfl, rfl, ha, hi, h⟩
theorem w_sl {r : V → Option Int → Option Int → Hp → VK → Prop} {tl th : TO} (h : te σ H fun x H1 => tl σ H1 fun l H2 => th σ H2 fun u H3 => r x l u H3 Q) : tSl r te tl th σ H Q := h
theorem w_noPart {QO : Option Int → Hp → Prop} (h : QO none H) : tNoPart σ H QO := h
theorem w_part {QO : Option Int → Hp → Prop} (h : te σ H fun x H1 => ∃ i, x = .int i ∧ QO (some i) H1) : tPart te σ H QO := h
theorem w_partE {P : Int → Prop} {i : Int} (h : P i) : ∃ j, V.int i = .int j ∧ P j := ⟨i, rfl, h⟩
theorem w_slL {a : Addr} {xs : List V} {lo hi : Option Int} (ha : SqL K H a xs) (h : ∀ p, H p = none → Q (.ref p) (upd H p (.lst (cutV xs lo hi)))) : rSlL K (.ref a) lo hi H Q := ⟨a, xs, rfl, ha, h⟩
theorem w_nn {A : Prop} (h : A) : V.non = V.non ∧ A := ⟨rfl, h⟩
theorem w_ttt {A : Prop} (h : A) : true = true ∧ A := ⟨rfl, h⟩
/-! ### tests -/
theorem w_test (h : te σ H fun x H' => ∃ k, x = .bl k ∧ QB k H') : tTest te σ H QB := h
theorem w_tB (h : te σ H fun x H' => ∃ k, x = .bl k ∧ QB k H') : tB te σ H QB := h
theorem w_bl {c : Bool} {P : Bool → Prop} (h : P c) : ∃ k, V.bl c = .bl k ∧ P k := ⟨c, rfl, h⟩
theorem w_and (h : tt σ H fun c H1 => if c = true then tt2 σ H1 QB else QB false H1) : tAnd tt tt2 σ H QB := h
theorem w_or (h : tt σ H fun c H1 => if c = true then QB true H1 else tt2 σ H1 QB) : tOr tt tt2 σ H QB := h
theorem w_not (h : tt σ H fun c H1 => QB (!c) H1) : tNot tt σ H QB := h
theorem w_andV (h : ta σ H fun x H1 => ∃ c, x = .bl c ∧ if c = true then tb σ H1 Q else Q (.bl false) H1) : tAndV ta tb σ H Q := h
theorem w_orV (h : ta σ H fun x H1 => ∃ c, x = .bl c ∧ if c = true then Q (.bl true) H1 else tb σ H1 Q) : tOrV ta tb σ H Q := h
theorem w_notV (h : ta σ H fun x H1 => ∃ c, x = .bl c ∧ Q (.bl (!c)) H1) : tNotV ta σ H Q := h
theorem w_ifE (h : tt σ H fun c H1 => if c = true then ta σ H1 Q else tb σ H1 Q) : tIf tt ta tb σ H Q := h
theorem w_itT {A B : Prop} (h : A) : if true = true then A else B := by rw [if_pos rfl]; exact h
theorem w_itF {A B : Prop} (h : B) : if false = true then A else B := by rw [if_neg Bool.false_ne_true]; exact h
theorem w_itNT {A B : Prop} (h : B) : if (!true) = true then A else B := by rw [if_neg (by decide)]; exact h
theorem w_itNF {A B : Prop} (h : A) : if (!false) = true then A else B := by rw [if_pos (by decide)]; exact h
theorem it_pos {c : Prop} [Decidable c] {A B : Prop} (hc : c) (h : A) : if decide c = true then A else B := by rw [if_pos (decide_eq_true hc)]; exact h
theorem it_neg {c : Prop} [Decidable c] {A B : Prop} (hc : ¬ c) (h : B) : if decide c = true then A else B := by rw [if_neg (by rw [decide_eq_false hc]; exact Bool.false_ne_true)]; exact h
theorem it_cases {c : Prop} [Decidable c] {A B : Prop} (h1 : c → A) (h2 : ¬ c → B) : if decide c = true then A else B := by
  by_cases h : c
  · exact it_pos h (h1 h)
  · exact it_neg h (h2 h)
theorem itn_pos {c : Prop} [Decidable c] {A B : Prop} (hc : c) (h : B) : if (!decide c) = true then A else B := by rw [if_neg (by rw [decide_eq_true hc]; decide)]; exact h
theorem itn_neg {c : Prop} [Decidable c] {A B : Prop} (hc : ¬ c) (h : A) : if (!decide c) = true then A else B := by rw [if_pos (by rw [decide_eq_false hc]; decide)]; exact h
theorem itn_cases {c : Prop} [Decidable c] {A B : Prop} (h1 : c → B) (h2 : ¬ c → A) : if (!decide c) = true then A else B := by
  by_cases h : c
  · exact itn_pos h (h1 h)
  · exact itn_neg h (h2 h)
theorem w_itE {A : Prop} (h : A) : A := h
theorem isN_T : decide (V.non = V.non) = true := rfl
end
/-! ### heaps -/
/-- all but what stands at W stays -/
def Kp (W : List Addr) (H H' : Hp) : Prop := ∀ a o, H a = some o → a ∉ W → H' a = some o
theorem Kp.refl {W : List Addr} (H : Hp) : Kp W H H := fun _ _ h _ => h
theorem Kp.trans {W : List Addr} {H H1 H2 : Hp} (a : Kp W H H1) (b : Kp W H1 H2) : Kp W H H2 := fun c o h n => b c o (a c o h n) n
theorem Kp.same {W : List Addr} {H H' : Hp} (h : Same H H') : Kp W H H' := fun a o e _ => h a o e
theorem Kp.to_same {H H' : Hp} (h : Kp [] H H') : Same H H' := fun a o e => h a o e (by simp)
theorem same_new {H : Hp} {p : Addr} (h : H p = none) (o : HO) : Same H (upd H p o) := fun b u q => by rw [upd_ne (ne_of_none q h)]; exact q
theorem same_new2 {H H' : Hp} {p : Addr} (s : Same H H') (h : H' p = none) (o : HO) : Same H (upd H' p o) := s.trans (same_new h o)
theorem same_mut {H H' : Hp} {p : Addr} (s : Same H H') (h : H p = none) (o : HO) : Same H (upd H' p o) := fun b u q => by rw [upd_ne (ne_of_none q h)]; exact s b u q
end U

/-! U1: rules of one's own for calls by contract, isinstance, subscripts (own work). -/
namespace U
open PySem PySem.Spec PyProof.Rows L2

/-- the built-in names that the top leaves alone -/
structure Bi (mg : Str → Option Value) : Prop where
  len : mg "len" = none
  range : mg "range" = none
  list : mg "list" = none
  isinstance : mg "isinstance" = none
  int : mg "int" = none
  bool : mg "bool" = none
  str : mg "str" = none
  tuple : mg "tuple" = none
  enumerate : mg "enumerate" = none
  zip : mg "zip" = none
  min : mg "min" = none
  max : mg "max" = none
  sum : mg "sum" = none
  reversed : mg "reversed" = none

/-- a def that may be called by the name x -/
structure Ca (P : Program) (w : World) (K : PySem.W.Frag) (mg : Str → Option Value) (base : Heap) (CX : CXT) (k : Nat) (x : Str) (sp : Sp) : Prop where
  ex : ∃ f fd ps, FnOk P w K mg base CX k f fd ps sp ∧ mg x = some (.ref f) ∧ PySem.W.keepIn K (.ref f) = true ∧ Binds K fd ps []
section
variable {X : Cx} {CX : CXT} {k j : Nat} {x : Str} {sp : Sp} {E : XK} {p pos : Pos} {e : Expr} {es : List Expr} {t : TA}
theorem pe_ca (c : Ca X.prog X.w X.K X.mg X.base CX k x sp) (hr : Room j X.A) (hk : k ≤ j) (hg : Gl X x) (hx : Passes CX X E) (ha : PA X (e :: es) t) (hdb : (x == ("__debug__" : Str)) = false := by decide)
    (he : starEach (e :: es) X.env = (false, eval e X.env) :: starEach es X.env := by rfl) (hpl : (backTo pos (starEach es X.env)).any (·.1) = false := by rfl) : PE X (.Call (.Name x p) (e :: es) [] pos) (tCall sp [] E t) := by
  refine ⟨fun pins s σ H Q I h => ?_⟩
  obtain ⟨f, fd, ps, F, hm, kp, hb⟩ := c.ex
  exact (pe_call (dvs := []) F (hr.mono hk) hg hm kp hb .nil hx ha hdb he hpl).run pins s σ H Q I h
theorem pe_gi {i : Int} (hg : Gl X x) (hm : ∃ t, X.mg x = some (.int i t)) (hd : (x == ("__debug__" : Str)) = false := by decide) : PE X (.Name x pos) (tC (.int i)) := by
  obtain ⟨t, hm⟩ := hm
  exact pe_glob hg hm ⟨_, rfl⟩ hd
theorem pe_gr {a : Addr} (hg : Gl X x) (hm : X.mg x = some (.ref a)) (hd : (x == ("__debug__" : Str)) = false := by decide) : PE X (.Name x pos) (tC (.ref a)) := pe_glob hg hm rfl hd
end
theorem Ca.mono {P : Program} {w : World} {K : PySem.W.Frag} {mg : Str → Option Value} {base : Heap} {CX : CXT} {j k : Nat} {x : Str} {sp : Sp} (c : Ca P w K mg base CX j x sp) (h : j ≤ k) : Ca P w K mg base CX k x sp := by
  obtain ⟨f, fd, ps, F, r⟩ := c.ex
  exact ⟨f, fd, ps, F.mono h, r⟩
theorem Ca.imp {P : Program} {w : World} {K : PySem.W.Frag} {mg : Str → Option Value} {base : Heap} {CX : CXT} {k : Nat} {x : Str} {sp sp' : Sp} (c : Ca P w K mg base CX k x sp) (h : ∀ vs H Q E, sp' vs H Q E → sp vs H Q E) : Ca P w K mg base CX k x sp' := by
  obtain ⟨f, fd, ps, F, r⟩ := c.ex
  exact ⟨f, fd, ps, F.imp h, r⟩

theorem cxk {CX : CXT} {P : Program} {w : World} {K : PySem.W.Frag} {mg : Str → Option Value} {base : Heap} {N : List Str} {qual : Str} {scope : Scope} {f : Addr} {cd : Value} {A : Around} {outer : List Env} {s : Shared} {H : Hp} {E : XK} :
    (cxOf CX P w K mg base N qual scope f cd A outer s H E).K = K := rfl
theorem cxw {CX : CXT} {P : Program} {w : World} {K : PySem.W.Frag} {mg : Str → Option Value} {base : Heap} {N : List Str} {qual : Str} {scope : Scope} {f : Addr} {cd : Value} {A : Around} {outer : List Env} {s : Shared} {H : Hp} {E : XK} :
    (cxOf CX P w K mg base N qual scope f cd A outer s H E).w = w := rfl
theorem cxwn {CX : CXT} {P : Program} {w : World} {K : PySem.W.Frag} {mg : Str → Option Value} {base : Heap} {N : List Str} {qual : Str} {scope : Scope} {f : Addr} {cd : Value} {A : Around} {outer : List Env} {s : Shared} {H : Hp} {E : XK} :
    (cxOf CX P w K mg base N qual scope f cd A outer s H E).nox.w = w := rfl
theorem cxkn {CX : CXT} {P : Program} {w : World} {K : PySem.W.Frag} {mg : Str → Option Value} {base : Heap} {N : List Str} {qual : Str} {scope : Scope} {f : Addr} {cd : Value} {A : Around} {outer : List Env} {s : Shared} {H : Hp} {E : XK} :
    (cxOf CX P w K mg base N qual scope f cd A outer s H E).nox.K = K := rfl
/-- the name that a def was written with -/
def dnm (s : Stmt) : Str := match s with
  | .FunctionDef n _ _ _ _ _ _ _ _ _ => n
  | _ => ""
/-- a def of the top, as it stands behind the top by the name x -/
structure Df (K : PySem.W.Frag) (mg : Str → Option Value) (x : Str) (st : Stmt) : Prop where
  ex : ∃ f fd, FunD K (dnm st) (dnm st) (defArgs st) (defBody st) (defScope st) [] [] f fd ∧ mg x = some (.ref f)
section
variable {P : Program} {w : World} {K : PySem.W.Frag} {mg : Str → Option Value} {base : Heap} {x : Str} {st : Stmt} {N ps : List Str} {k : Nat} {sp : Sp}
/-- THE RULE for a def that lets nothing out -/
theorem Df.ca0 (D : Df K mg x st) (S : FnScope N ps (defScope st))
    (bd : ∀ (kV doc pm : Value) (an : Option Addr) (cdv ct : Value) (us : List Value), us.length = ps.length → bindArgs (PySem.W.fnOf (dnm st) (dnm st) (defArgs st) (defBody st) (defScope st) .none kV doc pm an cdv ct) ⟨us, []⟩ = pure (ps.zip us))
    (len : ∀ vs H Q E, sp vs H Q E → vs.length = ps.length)
    (hbody : ∀ (f : Addr) (cdv : Value) (A : Around) (outer : List Env) (s : Shared) (H : Hp) (vs : List V) (Q : VK) (E : XK), Room k (A.deeper (envOfC (dnm st) (defScope st) s.heap.objs.size f cdv)) → sp vs H Q E →
      ∃ t, PSs (cxOf CX0 P w K mg base N (dnm st) (defScope st) f cdv A outer s H E).nox (defBody st) t ∧ t { nx := fun _ H' => Q .non H', rt := Q } (start N vs) H) : Ca P w K mg base CX0 (k + 1) x sp := by
  obtain ⟨f, fd, F, hm⟩ := D.ex
  refine ⟨f, fd, ps, F.ok S len fun cdv A outer s H vs Q E hr h => ?_, hm, F.kp, F.bindsN bd⟩
  obtain ⟨t, h1, h2⟩ := hbody f cdv A outer s H vs Q E hr h
  exact ⟨t, h1.nox, h2⟩
/-- .. for one that may let exceptions out -/
theorem Df.caX {CX : CXT} (D : Df K mg x st) (S : FnScope N ps (defScope st))
    (bd : ∀ (kV doc pm : Value) (an : Option Addr) (cdv ct : Value) (us : List Value), us.length = ps.length → bindArgs (PySem.W.fnOf (dnm st) (dnm st) (defArgs st) (defBody st) (defScope st) .none kV doc pm an cdv ct) ⟨us, []⟩ = pure (ps.zip us))
    (len : ∀ vs H Q E, sp vs H Q E → vs.length = ps.length)
    (hbody : ∀ (f : Addr) (cdv : Value) (A : Around) (outer : List Env) (s : Shared) (H : Hp) (vs : List V) (Q : VK) (E : XK), Room k (A.deeper (envOfC (dnm st) (defScope st) s.heap.objs.size f cdv)) → sp vs H Q E →
      ∃ t, PSs (cxOf CX P w K mg base N (dnm st) (defScope st) f cdv A outer s H E) (defBody st) t ∧ t { nx := fun _ H' => Q .non H', rt := Q } (start N vs) H) : Ca P w K mg base CX (k + 1) x sp := by
  obtain ⟨f, fd, F, hm⟩ := D.ex
  exact ⟨f, fd, ps, F.ok S len fun cdv A outer s H vs Q E hr h => hbody f cdv A outer s H vs Q E hr h, hm, F.kp, F.bindsN bd⟩
end

/-! ### isinstance(e, T), T a built-in class by its name -/
def rIsiN (K : PySem.W.Frag) : List V → Hp → VK → Prop := fun xs H Q => ∃ (x : V) (n t : String) (b : Bool), xs = [x, .ty n] ∧ TyX K H x (.type t) ∧ kitB t n = some b ∧ Q (.bl b) H
theorem call_isiN {X : Cx} : CallR X (.builtin "isinstance") (rIsiN X.K) := fun pins s σ H xs us Q I r h => by
  obtain ⟨x, n, t, b, e, ty, k, q⟩ := h
  exact call_isi pins s σ H xs us Q I r ⟨x, .ty n, .type t, .type n, b, e, .ty n, ty, kit_ty k, q⟩
theorem w_isi {K : PySem.W.Frag} {x : V} {n t : String} {b : Bool} {H : Hp} {Q : VK} (ty : TyX K H x (.type t)) (k : kitB t n = some b) (h : Q (.bl b) H) : rIsiN K [x, .ty n] H Q := ⟨x, n, t, b, rfl, ty, k, h⟩
theorem tyx_int {K : PySem.W.Frag} {H : Hp} {i : Int} : TyX K H (.int i) (.type "int") := .base (.int i)
theorem tyx_non {K : PySem.W.Frag} {H : Hp} : TyX K H .non (.type "NoneType") := .base .non
theorem tyx_str {K : PySem.W.Frag} {H : Hp} {i : Str} : TyX K H (.str i) (.type "str") := .base (.str i)
theorem tyx_bl {K : PySem.W.Frag} {H : Hp} {i : Bool} : TyX K H (.bl i) (.type "bool") := .base (.bl i)
theorem tyx_sqL {K : PySem.W.Frag} {H : Hp} {a : Addr} {xs : List V} (h : SqL K H a xs) : TyX K H (.ref a) (.type "list") := by
  rcases h with (h | ⟨o, h⟩) | ⟨o, its, n, h, c, _⟩
  · exact .base (.lst h)
  · exact .base (.frz h)
  · exact .kList h c
theorem tyx_sqT {K : PySem.W.Frag} {H : Hp} {a : Addr} {xs : List V} (h : SqT K H a xs) : TyX K H (.ref a) (.type "tuple") := by
  rcases h with (h | ⟨o, h⟩) | ⟨o, its, n, h, c, _⟩
  · exact .base (.tup h)
  · exact .fTuple h
  · exact .kTuple h c
section
variable {K : PySem.W.Frag} {H : Hp} {Q : VK} {a : Addr} {xs : List V} {i : Int} {z : Str}
theorem k_ii : kitB "int" "int" = some true := by decide +kernel
theorem k_ib : kitB "int" "bool" = some false := by decide +kernel
theorem k_it : kitB "int" "tuple" = some false := by decide +kernel
theorem k_il : kitB "int" "list" = some false := by decide +kernel
theorem k_tt : kitB "tuple" "tuple" = some true := by decide +kernel
theorem k_tl : kitB "tuple" "list" = some false := by decide +kernel
theorem k_lt : kitB "list" "tuple" = some false := by decide +kernel
theorem k_ll : kitB "list" "list" = some true := by decide +kernel
theorem k_ss : kitB "str" "str" = some true := by decide +kernel
theorem k_st : kitB "str" "tuple" = some false := by decide +kernel
theorem k_sl : kitB "str" "list" = some false := by decide +kernel
theorem k_nt : kitB "NoneType" "tuple" = some false := by decide +kernel
theorem k_nl : kitB "NoneType" "list" = some false := by decide +kernel
theorem k_ni : kitB "NoneType" "int" = some false := by decide +kernel
theorem w_isi_ii (h : Q (.bl true) H) : rIsiN K [.int i, .ty "int"] H Q := w_isi tyx_int k_ii h
theorem w_isi_ib (h : Q (.bl false) H) : rIsiN K [.int i, .ty "bool"] H Q := w_isi tyx_int k_ib h
theorem w_isi_it (h : Q (.bl false) H) : rIsiN K [.int i, .ty "tuple"] H Q := w_isi tyx_int k_it h
theorem w_isi_il (h : Q (.bl false) H) : rIsiN K [.int i, .ty "list"] H Q := w_isi tyx_int k_il h
theorem w_isi_ss (h : Q (.bl true) H) : rIsiN K [.str z, .ty "str"] H Q := w_isi tyx_str k_ss h
theorem w_isi_st (h : Q (.bl false) H) : rIsiN K [.str z, .ty "tuple"] H Q := w_isi tyx_str k_st h
theorem w_isi_sl (h : Q (.bl false) H) : rIsiN K [.str z, .ty "list"] H Q := w_isi tyx_str k_sl h
theorem w_isi_nt (h : Q (.bl false) H) : rIsiN K [.non, .ty "tuple"] H Q := w_isi tyx_non k_nt h
theorem w_isi_nl (h : Q (.bl false) H) : rIsiN K [.non, .ty "list"] H Q := w_isi tyx_non k_nl h
theorem w_isi_ni (h : Q (.bl false) H) : rIsiN K [.non, .ty "int"] H Q := w_isi tyx_non k_ni h
theorem w_isi_tt (s : SqT K H a xs) (h : Q (.bl true) H) : rIsiN K [.ref a, .ty "tuple"] H Q := w_isi (tyx_sqT s) k_tt h
theorem w_isi_lt (s : SqL K H a xs) (h : Q (.bl false) H) : rIsiN K [.ref a, .ty "tuple"] H Q := w_isi (tyx_sqL s) k_lt h
theorem w_isi_ll (s : SqL K H a xs) (h : Q (.bl true) H) : rIsiN K [.ref a, .ty "list"] H Q := w_isi (tyx_sqL s) k_ll h
theorem w_isi_tl (s : SqT K H a xs) (h : Q (.bl false) H) : rIsiN K [.ref a, .ty "list"] H Q := w_isi (tyx_sqT s) k_tl h
end
/-! ### named readings -/
section
variable {X : Cx} {K : PySem.W.Frag} {H : Hp} {Q : VK} {a : Addr} {xs : List V} {i j : Int} {v : V}
def rLenA (K : PySem.W.Frag) : List V → Hp → VK → Prop := fun xs H Q => ∃ p ys, xs = [V.ref p] ∧ (SqL K H p ys ∨ SqT K H p ys) ∧ Q (.int (ys.length : Nat)) H
theorem call_lenA : CallR X (.builtin "len") (rLenA X.K) := call_len_seq
theorem w_lenL (ha : SqL K H a xs) (h : Q (.int (xs.length : Nat)) H) : rLenA K [.ref a] H Q := ⟨a, xs, rfl, .inl ha, h⟩
theorem w_lenT (ha : SqT K H a xs) (h : Q (.int (xs.length : Nat)) H) : rLenA K [.ref a] H Q := ⟨a, xs, rfl, .inr ha, h⟩
def rListA (K : PySem.W.Frag) : List V → Hp → VK → Prop := fun xs H Q => ∃ p ys, xs = [V.ref p] ∧ (SqL K H p ys ∨ SqT K H p ys) ∧ ∀ l, H l = none → Q (.ref l) (upd H l (.lst ys))
theorem call_listA : CallR X (.type "list") (rListA X.K) := call_list_of
theorem w_listL (ha : SqL K H a xs) (h : ∀ l, H l = none → Q (.ref l) (upd H l (.lst xs))) : rListA K [.ref a] H Q := ⟨a, xs, rfl, .inl ha, h⟩
def rTupA (K : PySem.W.Frag) : List V → Hp → VK → Prop := fun xs H Q => ∃ p ys, xs = [V.ref p] ∧ ((SqL K H p ys ∧ ∀ l, H l = none → Q (.ref l) (upd H l (.tup ys))) ∨ (SqT K H p ys ∧ Q (.ref p) H))
theorem call_tupA : CallR X (.type "tuple") (rTupA X.K) := call_tuple_of
theorem w_tupL (ha : SqL K H a xs) (h : ∀ l, H l = none → Q (.ref l) (upd H l (.tup xs))) : rTupA K [.ref a] H Q := ⟨a, xs, rfl, .inl ⟨ha, h⟩⟩
def rIntA : List V → Hp → VK → Prop := fun xs H Q => (∃ i, xs = [V.int i] ∧ Q (.int i) H) ∨ ∃ k, xs = [V.bl k] ∧ Q (.int (if k then 1 else 0)) H
theorem call_intA : CallR X (.type "int") rIntA := call_int1
theorem w_intI (h : Q (.int i) H) : rIntA [.int i] H Q := .inl ⟨i, rfl, h⟩
theorem w_intB {k : Bool} (h : Q (.int (if k then 1 else 0)) H) : rIntA [.bl k] H Q := .inr ⟨k, rfl, h⟩
def rMin2 : List V → Hp → VK → Prop := fun xs H Q => ∃ i j, xs = [V.int i, V.int j] ∧ Q (.int (if j < i then j else i)) H
theorem call_minA (hc : X.calm = true) : CallR X (.builtin "min") rMin2 := call_min2 hc
theorem w_min (h : Q (.int (if j < i then j else i)) H) : rMin2 [.int i, .int j] H Q := ⟨i, j, rfl, h⟩
def rMax2 : List V → Hp → VK → Prop := fun xs H Q => ∃ i j, xs = [V.int i, V.int j] ∧ Q (.int (if j > i then j else i)) H
theorem call_maxA (hc : X.calm = true) : CallR X (.builtin "max") rMax2 := call_max2 hc
theorem w_max (h : Q (.int (if j > i then j else i)) H) : rMax2 [.int i, .int j] H Q := ⟨i, j, rfl, h⟩
def rIsNo : R2 := fun x y H Q => y = .non ∧ Q (.bl (decide (x = .non))) H
theorem op_isNo : OpR X (compareOp .Is) rIsNo := op_isN
theorem w_isNoT (h : Q (.bl true) H) : rIsNo .non .non H Q := ⟨rfl, h⟩
theorem w_isNoI (h : Q (.bl false) H) : rIsNo (.int i) .non H Q := ⟨rfl, h⟩
theorem w_isNoR (h : Q (.bl false) H) : rIsNo (.ref a) .non H Q := ⟨rfl, h⟩
def rNotNo : R2 := fun x y H Q => y = .non ∧ Q (.bl (!decide (x = .non))) H
theorem op_notNo : OpR X (compareOp .IsNot) rNotNo := op_notN
theorem w_notNoT (h : Q (.bl false) H) : rNotNo .non .non H Q := ⟨rfl, h⟩
theorem w_notNoI (h : Q (.bl true) H) : rNotNo (.int i) .non H Q := ⟨rfl, h⟩
theorem w_notNoR (h : Q (.bl true) H) : rNotNo (.ref a) .non H Q := ⟨rfl, h⟩
end
/-! ### subscripts of lists and tuples -/
def rIxLT (K : PySem.W.Frag) : R2 := fun x y H Q => rIxL K x y H Q ∨ rIxT K x y H Q
theorem ix_lt {X : Cx} : IxR X (rIxLT X.K) := ix_list.or ix_tup
theorem w_ixLL {K : PySem.W.Frag} {H : Hp} {Q : VK} {a : Addr} {xs : List V} {i : Int} {v : V} (ha : SqL K H a xs) (hi : atI xs i = some v) (h : Q v H) : rIxLT K (.ref a) (.int i) H Q := .inl ⟨a, xs, i, v, rfl, rfl, ha, hi, h⟩
theorem w_ixTT0 {K : PySem.W.Frag} {H : Hp} {Q : VK} {a : Addr} {xs : List V} {v : V} (ha : SqT K H a (v :: xs)) (h : Q v H) : rIxLT K (.ref a) (.int 0) H Q := .inr ⟨a, v :: xs, 0, v, rfl, rfl, ha, atI_nat (j := 0) rfl, h⟩
theorem w_ixTT {K : PySem.W.Frag} {H : Hp} {Q : VK} {a : Addr} {xs : List V} {i : Int} {v : V} (ha : SqT K H a xs) (hi : atI xs i = some v) (h : Q v H) : rIxLT K (.ref a) (.int i) H Q := .inr ⟨a, xs, i, v, rfl, rfl, ha, hi, h⟩
/-! ### loops -/
/-- what a for over J wants -/
def ForB (J : It) (g : TG) (tb : TS) (nx : L2.St → Hp → Prop) (rt : VK) (σ : L2.St) (H : Hp) : Prop := ∃ W : Nat → Nat → L2.St → Hp → Prop, (∃ m, W 0 m σ H) ∧ ∀ i m σ H, W i m σ H →
  (J.stop i H ∧ nx σ H) ∨ (J.go i H ∧ ∃ N : L2.St → Hp → Prop, (∀ σ' H', N σ' H' → ∃ m', m' < m ∧ W (i + 1) m' σ' H') ∧ ∀ x H', J.yld i H x H' → g x σ H' fun σ2 H2 => tb ⟨N, rt, nx, N⟩ σ2 H2)
def ItL (K : PySem.W.Frag) (R : It → Hp → Prop) (x : V) (H1 : Hp) : Prop := ∃ a, x = .ref a ∧ (∃ xs, SqL K H1 a xs) ∧ R (Itl K a) H1
def ItT (K : PySem.W.Frag) (R : It → Hp → Prop) (x : V) (H1 : Hp) : Prop := ∃ a, x = .ref a ∧ (∃ xs, SqT K H1 a xs) ∧ R (Itt K a) H1
def ItR1 (R : It → Hp → Prop) (vs : List V) (H1 : Hp) : Prop := ∃ j : Int, vs = [.int j] ∧ -(2 ^ 62) ≤ j ∧ j < 2 ^ 62 ∧ R (Itr 0 j.toNat) H1
def ItR2 (R : It → Hp → Prop) (vs : List V) (H1 : Hp) : Prop := ∃ i j : Int, vs = [.int i, .int j] ∧ (-(2 ^ 62) ≤ i ∧ i < 2 ^ 62 ∧ -(2 ^ 62) ≤ j ∧ j < 2 ^ 62) ∧ R (Itr i (j - i).toNat) H1
section
variable {K : PySem.W.Frag} {wi : TI} {g : TG} {tb : TS} {nx bk ct : L2.St → Hp → Prop} {rt : VK} {σ : L2.St} {H : Hp} {te : TE} {ta : TA} {R : It → Hp → Prop} {a : Addr} {xs : List V} {tt : TT} {vs : List Nat}
theorem w_for (h : wi σ H fun J H1 => ForB J g tb nx rt σ H1) : tFor wi g tb ⟨nx, rt, bk, ct⟩ σ H := h
theorem w_iL (h : te σ H fun x H1 => ItL K R x H1) : iList K te σ H R := h
theorem w_iT (h : te σ H fun x H1 => ItT K R x H1) : iTup K te σ H R := h
theorem w_iR1 (h : ta σ H fun vs H1 => ItR1 R vs H1) : iRng1 ta σ H R := h
theorem w_iR2 (h : ta σ H fun vs H1 => ItR2 R vs H1) : iRng2 ta σ H R := h
theorem for_L (Pv : Nat → L2.St → Hp → Prop) (hS : SqL K H a xs) (h0 : Pv 0 σ H) (hl : ∀ i σ H, i ≤ xs.length → Pv i σ H → SqL K H a xs)
    (hs : ∀ i x σ H, xs[i]? = some x → Pv i σ H → g x σ H fun σ2 H2 => tb ⟨Pv (i + 1), rt, nx, Pv (i + 1)⟩ σ2 H2) (hd : ∀ σ H, Pv xs.length σ H → nx σ H) :
    ItL K (fun J H1 => ForB J g tb nx rt σ H1) (.ref a) H :=
  ⟨a, rfl, ⟨xs, hS⟩, for_list (D := ⟨nx, rt, nx, nx⟩) Pv h0 hl hs hd⟩
theorem for_T (Pv : Nat → L2.St → Hp → Prop) (hS : SqT K H a xs) (h0 : Pv 0 σ H) (hl : ∀ i σ H, i ≤ xs.length → Pv i σ H → SqT K H a xs)
    (hs : ∀ i x σ H, xs[i]? = some x → Pv i σ H → g x σ H fun σ2 H2 => tb ⟨Pv (i + 1), rt, nx, Pv (i + 1)⟩ σ2 H2) (hd : ∀ σ H, Pv xs.length σ H → nx σ H) :
    ItT K (fun J H1 => ForB J g tb nx rt σ H1) (.ref a) H :=
  ⟨a, rfl, ⟨xs, hS⟩, for_tup (D := ⟨nx, rt, nx, nx⟩) Pv h0 hl hs hd⟩
theorem for_R1 {j : Int} (Pv : Nat → L2.St → Hp → Prop) (b1 : -(2 ^ 62) ≤ j) (b2 : j < 2 ^ 62) (h0 : Pv 0 σ H)
    (hs : ∀ i σ H, i < j.toNat → Pv i σ H → g (.int (0 + (i : Nat))) σ H fun σ2 H2 => tb ⟨Pv (i + 1), rt, nx, Pv (i + 1)⟩ σ2 H2) (hd : ∀ σ H, Pv j.toNat σ H → nx σ H) :
    ItR1 (fun J H1 => ForB J g tb nx rt σ H1) [.int j] H :=
  ⟨j, rfl, b1, b2, for_range (D := ⟨nx, rt, nx, nx⟩) Pv h0 hs hd⟩
theorem for_R2 {i j : Int} (Pv : Nat → L2.St → Hp → Prop) (b1 : -(2 ^ 62) ≤ i) (b2 : i < 2 ^ 62) (b3 : -(2 ^ 62) ≤ j) (b4 : j < 2 ^ 62) (h0 : Pv 0 σ H)
    (hs : ∀ m σ H, m < (j - i).toNat → Pv m σ H → g (.int (i + (m : Nat))) σ H fun σ2 H2 => tb ⟨Pv (m + 1), rt, nx, Pv (m + 1)⟩ σ2 H2) (hd : ∀ σ H, Pv (j - i).toNat σ H → nx σ H) :
    ItR2 (fun J H1 => ForB J g tb nx rt σ H1) [.int i, .int j] H :=
  ⟨i, j, rfl, ⟨b1, b2, b3, b4⟩, for_range (D := ⟨nx, rt, nx, nx⟩) Pv h0 hs hd⟩
/-- what a comprehension wants -/
def LcB (J : It) (g : TG) (tt : TT) (te : TE) (vs : List Nat) (σ : L2.St) (Q : VK) (H1 : Hp) : Prop := ∀ D, H1 D = none → ∃ W : Nat → Nat → Hp → Prop, (∃ m, W 0 m (upd H1 D (.lst []))) ∧ ∀ i m H, W i m H →
  (J.stop i H ∧ Q (.ref D) H) ∨ (J.go i H ∧ ∃ Nx : Hp → Prop, (∀ H', Nx H' → ∃ m', m' < m ∧ W (i + 1) m' H') ∧ ∀ x H', J.yld i H x H' → g x (wipe σ vs) H' fun σ2 H2 => wipe σ2 vs = wipe σ vs ∧ tt σ2 H2 fun b H3 =>
    if b = true then te σ2 H3 fun y H4 => ∃ acc, H4 D = some (.lst acc) ∧ acc.length < sizeLine ∧ Nx (upd H4 D (.lst (acc ++ [y]))) else Nx H3)
theorem w_lc {Q : VK} (h : wi σ H fun J H1 => LcB J g tt te vs σ Q H1) : tLc wi g tt te vs σ H Q := h
/-- a turn's end: the item is laid on -/
def LcE (D : Addr) (Nx : Hp → Prop) (y : V) (H4 : Hp) : Prop := ∃ acc, H4 D = some (.lst acc) ∧ acc.length < sizeLine ∧ Nx (upd H4 D (.lst (acc ++ [y])))
theorem lc_L {Q : VK} (Pv : Addr → Nat → Hp → Prop) (hS : SqL K H a xs) (h0 : ∀ D, H D = none → Pv D 0 (upd H D (.lst []))) (hl : ∀ D i H1, H D = none → i ≤ xs.length → Pv D i H1 → SqL K H1 a xs)
    (hs : ∀ D i x H1, H D = none → xs[i]? = some x → Pv D i H1 → g x (wipe σ vs) H1 fun σ2 H2 => wipe σ2 vs = wipe σ vs ∧ tt σ2 H2 fun b H3 => if b = true then te σ2 H3 fun y H4 => LcE D (Pv D (i + 1)) y H4 else Pv D (i + 1) H3)
    (hd : ∀ D H1, H D = none → Pv D xs.length H1 → Q (.ref D) H1) :
    ItL K (fun J H1 => LcB J g tt te vs σ Q H1) (.ref a) H :=
  ⟨a, rfl, ⟨xs, hS⟩, fun D hD => lc_list (Qd := fun H1 => Q (.ref D) H1) (Pv D) (h0 D hD) (fun i H1 hi p => hl D i H1 hD hi p) (fun i x H1 hx p => hs D i x H1 hD hx p) (fun H1 p => hd D H1 hD p)⟩
theorem lc_R1 {Q : VK} {j : Int} (Pv : Addr → Nat → Hp → Prop) (b1 : -(2 ^ 62) ≤ j) (b2 : j < 2 ^ 62) (h0 : ∀ D, H D = none → Pv D 0 (upd H D (.lst [])))
    (hs : ∀ D i H1, H D = none → i < j.toNat → Pv D i H1 → g (.int (0 + (i : Nat))) (wipe σ vs) H1 fun σ2 H2 => wipe σ2 vs = wipe σ vs ∧ tt σ2 H2 fun b H3 => if b = true then te σ2 H3 fun y H4 => LcE D (Pv D (i + 1)) y H4 else Pv D (i + 1) H3)
    (hd : ∀ D H1, H D = none → Pv D j.toNat H1 → Q (.ref D) H1) :
    ItR1 (fun J H1 => LcB J g tt te vs σ Q H1) [.int j] H :=
  ⟨j, rfl, b1, b2, fun D hD => lc_range (Qd := fun H1 => Q (.ref D) H1) (Pv D) (h0 D hD) (fun i H1 hi p => hs D i H1 hD hi p) (fun H1 p => hd D H1 hD p)⟩
theorem w_lcE {D : Addr} {Nx : Hp → Prop} {y : V} {acc : List V} (ha : H D = some (.lst acc)) (hl : acc.length < sizeLine) (h : Nx (upd H D (.lst (acc ++ [y])))) : LcE D Nx y H := ⟨acc, ha, hl, h⟩
theorem w_wipe {A : Prop} {σ1 σ2 : L2.St} (e : σ1 = σ2) (h : A) : σ1 = σ2 ∧ A := ⟨e, h⟩
theorem w_ttYes {QB : Bool → Hp → Prop} (h : QB true H) : tYes σ H QB := h
theorem w_isiT {x : V} {n t : String} {b : Bool} {Q : VK} (ty : TyX K H x (.type t)) (k : kitB t n = some b) (h : Q (.bl b) H) : rIsiN K [x, .ty n] H Q := w_isi ty k h
end
end U

/-! U2: data at any depth over the abstract heap (own work). -/
open PySem PySem.Spec PyProof.Rows L2
namespace L2
section
variable {K : PySem.W.Frag} {H H' : Hp}
theorem Same.seqT {a : Addr} {xs : List V} (e : Same H H') (h : SqT K H a xs) : SqT K H' a xs := by
  rcases h with (h | ⟨o, h⟩) | h
  · exact .inl (.inl (e _ _ h))
  · exact .inl (.inr ⟨o, e _ _ h⟩)
  · exact .inr h
theorem Same.seqL {a : Addr} {xs : List V} (e : Same H H') (h : SqL K H a xs) : SqL K H' a xs := e.seq h
mutual
theorem Dp.same (e : Same H H') : ∀ (d : PyData) (v : V), Dp K H v d → Dp K H' v d
  | .none, _, h => by cases h; exact .non
  | .bool b, _, h => by cases h; exact .bl b
  | .int i, _, h => by cases h; exact .int i
  | .str x, _, h => by cases h; exact .str x
  | .list ds, _, h => by
    cases h with
    | lst hs ha => exact .lst (Same.seqL e hs) (DpAll.same e ds _ ha)
  | .tuple ds, _, h => by
    cases h with
    | tup hs ha => exact .tup (Same.seqT e hs) (DpAll.same e ds _ ha)
  | .dict _, _, h => by cases h
theorem DpAll.same (e : Same H H') : ∀ (ds : List PyData) (vs : List V), DpAll K H vs ds → DpAll K H' vs ds
  | [], _, h => by cases h; exact .nil
  | d :: ds, _, h => by
    cases h with
    | cons h1 h2 => exact .cons (Dp.same e d _ h1) (DpAll.same e ds _ h2)
end
theorem Dp.up (e : Same H H') {d : PyData} {v : V} (h : Dp K H v d) : Dp K H' v d := Dp.same e d v h
theorem DpAll.up (e : Same H H') {ds : List PyData} {vs : List V} (h : DpAll K H vs ds) : DpAll K H' vs ds := DpAll.same e ds vs h
theorem DpAll.len : ∀ {vs : List V} {ds : List PyData}, DpAll K H vs ds → vs.length = ds.length
  | _, _, .nil => rfl
  | _, _, .cons _ t => by rw [List.length_cons, List.length_cons, DpAll.len t]
theorem DpAll.get : ∀ {vs : List V} {ds : List PyData} {i : Nat} {v : V}, DpAll K H vs ds → vs[i]? = some v → ∃ d, ds[i]? = some d ∧ Dp K H v d
  | _, _, _, _, .nil, e => by simp at e
  | _, _, 0, _, .cons r _, e => by simp at e; subst e; exact ⟨_, rfl, r⟩
  | _, _, i + 1, v, .cons _ t, e => by
    obtain ⟨d, h1, h2⟩ := DpAll.get (i := i) (v := v) t (by simpa using e)
    exact ⟨d, by simpa using h1, h2⟩
theorem DpAll.getD : ∀ {vs : List V} {ds : List PyData} {i : Nat} {d : PyData}, DpAll K H vs ds → ds[i]? = some d → ∃ v, vs[i]? = some v ∧ Dp K H v d
  | _, _, _, _, .nil, e => by simp at e
  | _, _, 0, _, .cons r _, e => by simp at e; subst e; exact ⟨_, rfl, r⟩
  | _, _, i + 1, d, .cons _ t, e => by
    obtain ⟨v, h1, h2⟩ := DpAll.getD (i := i) (d := d) t (by simpa using e)
    exact ⟨v, by simpa using h1, h2⟩
theorem DpAll.snoc : ∀ {vs : List V} {ds : List PyData} {v : V} {d : PyData}, DpAll K H vs ds → Dp K H v d → DpAll K H (vs ++ [v]) (ds ++ [d])
  | _, _, _, _, .nil, h => .cons h .nil
  | _, _, _, _, .cons r t, h => .cons r (DpAll.snoc t h)
theorem DpAll.app : ∀ {vs ws : List V} {ds es : List PyData}, DpAll K H vs ds → DpAll K H ws es → DpAll K H (vs ++ ws) (ds ++ es)
  | _, _, _, _, .nil, h => h
  | _, _, _, _, .cons r t, h => .cons r (DpAll.app t h)
theorem DpAll.take : ∀ {vs : List V} {ds : List PyData} (n : Nat), DpAll K H vs ds → DpAll K H (vs.take n) (ds.take n)
  | _, _, 0, _ => .nil
  | _, _, _ + 1, .nil => .nil
  | _, _, n + 1, .cons r t => .cons r (DpAll.take n t)
theorem DpAll.drop : ∀ {vs : List V} {ds : List PyData} (n : Nat), DpAll K H vs ds → DpAll K H (vs.drop n) (ds.drop n)
  | _, _, 0, h => h
  | _, _, _ + 1, .nil => .nil
  | _, _, n + 1, .cons _ t => DpAll.drop n t
theorem DpAll.set {v : V} {d : PyData} (r : Dp K H v d) : ∀ {vs : List V} {ds : List PyData} (i : Nat), DpAll K H vs ds → DpAll K H (vs.set i v) (ds.set i d)
  | _, _, _, .nil => .nil
  | _, _, 0, .cons _ t => .cons r t
  | _, _, i + 1, .cons q t => .cons q (DpAll.set r i t)
theorem DpAll.ints : ∀ (ns : List Int), DpAll K H (ns.map V.int) (ns.map PyData.int)
  | [] => .nil
  | n :: r => .cons (.int n) (DpAll.ints r)
theorem dpAll_ints : ∀ {ns : List Int} {vs : List V}, DpAll K H vs (ns.map PyData.int) → vs = ns.map V.int
  | [], _, h => by cases h; rfl
  | n :: r, _, h => by
    cases h with
    | cons h1 h2 =>
      cases h1
      rw [dpAll_ints h2]
      rfl
theorem dp_int {v : V} {i : Int} (h : Dp K H v (.int i)) : v = .int i := by cases h; rfl
theorem dp_str {v : V} {x : Str} (h : Dp K H v (.str x)) : v = .str x := by cases h; rfl
theorem dp_non {v : V} (h : Dp K H v .none) : v = .non := by cases h; rfl
theorem dp_tup {v : V} {ds : List PyData} (h : Dp K H v (.tuple ds)) : ∃ p vs, v = .ref p ∧ SqT K H p vs ∧ DpAll K H vs ds := by
  cases h with
  | tup hs ha => exact ⟨_, _, rfl, hs, ha⟩
theorem dp_lst {v : V} {ds : List PyData} (h : Dp K H v (.list ds)) : ∃ p vs, v = .ref p ∧ SqL K H p vs ∧ DpAll K H vs ds := by
  cases h with
  | lst hs ha => exact ⟨_, _, rfl, hs, ha⟩
theorem dpa_nil {vs : List V} (h : DpAll K H vs []) : vs = [] := by cases h; rfl
theorem dpa_cons {vs : List V} {d : PyData} {ds : List PyData} (h : DpAll K H vs (d :: ds)) : ∃ v ws, vs = v :: ws ∧ Dp K H v d ∧ DpAll K H ws ds := by
  cases h with
  | cons h1 h2 => exact ⟨_, _, rfl, h1, h2⟩
/-- tuples of one, two, three, .. things -/
theorem dp_tup1 {v : V} {d1 : PyData} (h : Dp K H v (.tuple [d1])) : ∃ p v1, v = .ref p ∧ SqT K H p [v1] ∧ Dp K H v1 d1 := by
  obtain ⟨p, vs, e, s, a⟩ := dp_tup h
  obtain ⟨v1, w1, rfl, h1, a⟩ := dpa_cons a
  cases dpa_nil a
  exact ⟨p, v1, e, s, h1⟩
theorem dp_tup2 {v : V} {d1 d2 : PyData} (h : Dp K H v (.tuple [d1, d2])) : ∃ p v1 v2, v = .ref p ∧ SqT K H p [v1, v2] ∧ Dp K H v1 d1 ∧ Dp K H v2 d2 := by
  obtain ⟨p, vs, e, s, a⟩ := dp_tup h
  obtain ⟨v1, w1, rfl, h1, a⟩ := dpa_cons a
  obtain ⟨v2, w2, rfl, h2, a⟩ := dpa_cons a
  cases dpa_nil a
  exact ⟨p, v1, v2, e, s, h1, h2⟩
theorem dp_tup3 {v : V} {d1 d2 d3 : PyData} (h : Dp K H v (.tuple [d1, d2, d3])) : ∃ p v1 v2 v3, v = .ref p ∧ SqT K H p [v1, v2, v3] ∧ Dp K H v1 d1 ∧ Dp K H v2 d2 ∧ Dp K H v3 d3 := by
  obtain ⟨p, vs, e, s, a⟩ := dp_tup h
  obtain ⟨v1, w1, rfl, h1, a⟩ := dpa_cons a
  obtain ⟨v2, w2, rfl, h2, a⟩ := dpa_cons a
  obtain ⟨v3, w3, rfl, h3, a⟩ := dpa_cons a
  cases dpa_nil a
  exact ⟨p, v1, v2, v3, e, s, h1, h2, h3⟩
theorem dp_tup4 {v : V} {d1 d2 d3 d4 : PyData} (h : Dp K H v (.tuple [d1, d2, d3, d4])) : ∃ p v1 v2 v3 v4, v = .ref p ∧ SqT K H p [v1, v2, v3, v4] ∧ Dp K H v1 d1 ∧ Dp K H v2 d2 ∧ Dp K H v3 d3 ∧ Dp K H v4 d4 := by
  obtain ⟨p, vs, e, s, a⟩ := dp_tup h
  obtain ⟨v1, w1, rfl, h1, a⟩ := dpa_cons a
  obtain ⟨v2, w2, rfl, h2, a⟩ := dpa_cons a
  obtain ⟨v3, w3, rfl, h3, a⟩ := dpa_cons a
  obtain ⟨v4, w4, rfl, h4, a⟩ := dpa_cons a
  cases dpa_nil a
  exact ⟨p, v1, v2, v3, v4, e, s, h1, h2, h3, h4⟩
theorem dp_tup5 {v : V} {d1 d2 d3 d4 d5 : PyData} (h : Dp K H v (.tuple [d1, d2, d3, d4, d5])) : ∃ p v1 v2 v3 v4 v5, v = .ref p ∧ SqT K H p [v1, v2, v3, v4, v5] ∧ Dp K H v1 d1 ∧ Dp K H v2 d2 ∧ Dp K H v3 d3 ∧ Dp K H v4 d4 ∧ Dp K H v5 d5 := by
  obtain ⟨p, vs, e, s, a⟩ := dp_tup h
  obtain ⟨v1, w1, rfl, h1, a⟩ := dpa_cons a
  obtain ⟨v2, w2, rfl, h2, a⟩ := dpa_cons a
  obtain ⟨v3, w3, rfl, h3, a⟩ := dpa_cons a
  obtain ⟨v4, w4, rfl, h4, a⟩ := dpa_cons a
  obtain ⟨v5, w5, rfl, h5, a⟩ := dpa_cons a
  cases dpa_nil a
  exact ⟨p, v1, v2, v3, v4, v5, e, s, h1, h2, h3, h4, h5⟩
/-- a list that was just laid -/
theorem dp_newT {p : Addr} {xs : List V} {ds : List PyData} (h : H p = some (.tup xs)) (a : DpAll K H xs ds) : Dp K H (.ref p) (.tuple ds) := .tup (SqT.of h) a
theorem dp_newL {p : Addr} {xs : List V} {ds : List PyData} (h : H p = some (.lst xs)) (a : DpAll K H xs ds) : Dp K H (.ref p) (.list ds) := .lst (SqL.of h) a
/-- .. of a new tuple over older parts -/
theorem dp_tupN {p : Addr} {xs : List V} {ds : List PyData} (n : H p = none) (a : DpAll K H xs ds) : Dp K (upd H p (.tup xs)) (.ref p) (.tuple ds) := .tup (SqT.of upd_same) (a.up (U.same_new n _))
theorem dp_lstN {p : Addr} {xs : List V} {ds : List PyData} (n : H p = none) (a : DpAll K H xs ds) : Dp K (upd H p (.lst xs)) (.ref p) (.list ds) := .lst (SqL.of upd_same) (a.up (U.same_new n _))
end
/-! ### data that may be compared -/
theorem canLayAll_of : ∀ {ds : List PyData}, (∀ d ∈ ds, d.canLay0 = true) → PyData.canLayAll0 ds = true
  | [], _ => rfl
  | d :: r, h => by
    show (d.canLay0 && PyData.canLayAll0 r) = true
    rw [h d (List.mem_cons_self ..), canLayAll_of fun e he => h e (List.mem_cons_of_mem _ he)]
    rfl
theorem depthAll_of : ∀ {ds : List PyData} {n : Nat}, (∀ d ∈ ds, d.depth ≤ n) → PyData.depthAll ds ≤ n
  | [], _, _ => Nat.zero_le _
  | d :: r, n, h => by
    show max d.depth (PyData.depthAll r) ≤ n
    exact Nat.max_le.mpr ⟨h d (List.mem_cons_self ..), depthAll_of fun e he => h e (List.mem_cons_of_mem _ he)⟩
theorem shaped_of {d : PyData} (h : d.canLay0 = true) (h2 : d.depth ≤ 64) : SeqAt.shaped d = true := by
  unfold SeqAt.shaped
  rw [h, decide_eq_true h2]
  rfl
theorem canLay_of {d : PyData} (h : SeqAt.shaped d = true) : d.canLay0 = true := (Bool.and_eq_true_iff.mp h).1
theorem depth_of {d : PyData} (h : SeqAt.shaped d = true) : d.depth ≤ 64 := of_decide_eq_true (Bool.and_eq_true_iff.mp h).2
theorem shaped_list {ds : List PyData} {n : Nat} (h : ∀ d ∈ ds, d.canLay0 = true ∧ d.depth ≤ n) (hn : n < 64) : SeqAt.shaped (.list ds) = true :=
  shaped_of (canLayAll_of fun d hd => (h d hd).1) (Nat.succ_le_of_lt (Nat.lt_of_le_of_lt (depthAll_of fun d hd => (h d hd).2) hn))
theorem w_neD {K : PySem.W.Frag} {H : Hp} {Q : VK} {x y : V} {d : PyData} (hx : Dp K H x d) (hy : Dp K H y d) (s : SeqAt.shaped d = true) (h : Q (.bl false) H) : rNeD K x y H Q :=
  ⟨d, d, hx, hy, s, s, by rw [SeqAt.eqv_refl d (canLay_of s)]; exact h⟩
theorem w_eqD {K : PySem.W.Frag} {H : Hp} {Q : VK} {x y : V} {d : PyData} (hx : Dp K H x d) (hy : Dp K H y d) (s : SeqAt.shaped d = true) (h : Q (.bl true) H) : rEqD K x y H Q :=
  ⟨d, d, hx, hy, s, s, by rw [SeqAt.eqv_refl d (canLay_of s)]; exact h⟩
end L2

/-! U3: a heap with a part that never changes (the region), and how both grow (own work). -/
namespace U
open PySem PySem.Spec PyProof.Rows L2
/-- from (R, H) to (R', H'): R' holds R and new objects alone, H' holds R'; outside of W nothing that stood changed -/
structure Gw (W : List Addr) (R H R' H' : Hp) : Prop where
  sub : Same R' H'
  ext : Same R R'
  out : ∀ a, R' a ≠ none → R a ≠ none ∨ H a = none
  kee : ∀ a o, H a = some o → a ∉ W → H' a = some o
  dom : ∀ a, H a ≠ none → H' a ≠ none
section
variable {W : List Addr} {R H R' H' R1 H1 R2 H2 : Hp} {p m : Addr} {o u : HO}
theorem Gw.refl (s : Same R H) : Gw W R H R H := ⟨s, Same.refl R, fun _ h => .inl h, fun _ _ h _ => h, fun _ h => h⟩
theorem Gw.trans (a : Gw W R H R1 H1) (b : Gw W R1 H1 R2 H2) : Gw W R H R2 H2 where
  sub := b.sub
  ext := a.ext.trans b.ext
  out := fun c h => by
    rcases b.out c h with q | q
    · exact a.out c q
    · refine .inr ?_
      cases e : H c with
      | none => rfl
      | some o => exact absurd q (a.dom c (by rw [e]; exact fun z => nomatch z))
  kee := fun c o h n => b.kee c o (a.kee c o h n) n
  dom := fun c h => b.dom c (a.dom c h)
theorem nn_of {a : Addr} {o : HO} (h : H a = some o) : H a ≠ none := by rw [h]; exact fun z => nomatch z
theorem none_of {a : Addr} (h : ¬ H a ≠ none) : H a = none := Classical.byContradiction h
/-- a new thing that never changes -/
theorem Gw.new (g : Gw W R H R1 H1) (n : H1 p = none) (o : HO) : Gw W R H (upd R1 p o) (upd H1 p o) := g.trans {
  sub := fun a u h => by
    by_cases e : a = p
    · subst e; rw [upd_same] at h ⊢; exact h
    · rw [upd_ne e] at h ⊢; exact g.sub a u h
  ext := fun a u h => by
    by_cases e : a = p
    · subst e; have := g.sub _ _ h; rw [n] at this; cases this
    · rw [upd_ne e]; exact h
  out := fun a h => by
    by_cases e : a = p
    · subst e; exact .inr n
    · rw [upd_ne e] at h; exact .inl h
  kee := fun a u h _ => by rw [upd_ne (ne_of_none h n)]; exact h
  dom := fun a h => by
    by_cases e : a = p
    · subst e; exact absurd n h
    · rw [upd_ne e]; exact h }
/-- a new thing that will change -/
theorem Gw.newM (g : Gw W R H R1 H1) (n : H1 p = none) (o : HO) : Gw W R H R1 (upd H1 p o) := g.trans {
  sub := fun a u h => by
    rw [upd_ne (ne_of_none (g.sub a u h) n)]; exact g.sub a u h
  ext := Same.refl _
  out := fun a h => .inl h
  kee := fun a u h _ => by rw [upd_ne (ne_of_none h n)]; exact h
  dom := fun a h => by
    by_cases e : a = p
    · subst e; exact absurd n h
    · rw [upd_ne e]; exact h }
/-- a change -/
theorem Gw.mut (g : Gw W R H R1 H1) (hm : m ∈ W ∨ H m = none) (hr : R1 m = none) (o : HO) : Gw W R H R1 (upd H1 m o) where
  sub := fun a u h => by
    rw [upd_ne (ne_of_none h hr)]; exact g.sub a u h
  ext := g.ext
  out := g.out
  kee := fun a u h n => by
    by_cases e : a = m
    · subst e
      rcases hm with q | q
      · exact absurd q n
      · rw [h] at q; cases q
    · rw [upd_ne e]; exact g.kee a u h n
  dom := fun a h => by
    by_cases e : a = m
    · subst e; rw [upd_same]; exact fun z => nomatch z
    · rw [upd_ne e]; exact g.dom a h
/-- a thing that stays from now on -/
theorem Gw.frz (g : Gw W R H R1 H1) (n : H m = none) (h1 : H1 m = some o) (hr : R1 m = none) : Gw W R H (upd R1 m o) H1 where
  sub := fun a u h => by
    by_cases e : a = m
    · subst e; rw [upd_same] at h; rw [h1]; exact h
    · rw [upd_ne e] at h; exact g.sub a u h
  ext := fun a u h => by
    have q := g.ext a u h
    rw [upd_ne (ne_of_none q hr)]; exact q
  out := fun a h => by
    by_cases e : a = m
    · subst e; exact .inr n
    · rw [upd_ne e] at h; exact g.out a h
  kee := g.kee
  dom := g.dom
theorem Gw.mono {W' : List Addr} (g : Gw W R H R1 H1) (h : ∀ a ∈ W, a ∈ W' ∨ H a = none) : Gw W' R H R1 H1 where
  sub := g.sub
  ext := g.ext
  out := g.out
  kee := fun a u q n => g.kee a u q fun z => by
    rcases h a z with y | y
    · exact n y
    · rw [q] at y; cases y
  dom := g.dom
/-- .. behind a start of one's own: what the later step may change is new or allowed -/
theorem Gw.then {W' : List Addr} (a : Gw W R H R1 H1) (b : Gw W' R1 H1 R2 H2) (h : ∀ a ∈ W', a ∈ W ∨ H a = none) : Gw W R H R2 H2 where
  sub := b.sub
  ext := a.ext.trans b.ext
  out := fun c h => by
    rcases b.out c h with q | q
    · exact a.out c q
    · refine .inr ?_
      cases e : H c with
      | none => rfl
      | some o => exact absurd q (a.dom c (by rw [e]; exact fun z => nomatch z))
  kee := fun c o q n => b.kee c o (a.kee c o q n) fun z => by
    rcases h c z with y | y
    · exact n y
    · rw [q] at y; cases y
  dom := fun c h => b.dom c (a.dom c h)
/-- what is not of the region stays so, if it stood -/
theorem Gw.notR (g : Gw W R H R1 H1) (h : H m ≠ none) (hr : R m = none) : R1 m = none := by
  refine none_of fun z => ?_
  rcases g.out m z with q | q
  · exact q hr
  · exact h q
theorem Gw.noR (g : Gw W R H R1 H1) (n : H1 m = none) : R1 m = none := g.sub.free n
theorem Gw.no (g : Gw W R H R1 H1) (n : H1 m = none) : H m = none := none_of fun z => g.dom m z n
theorem Gw.at {a : Addr} {o : HO} (g : Gw W R H R1 H1) (h : H a = some o) (n : a ∉ W) : H1 a = some o := g.kee a o h n
theorem Gw.of_same (s : Same R H) (s' : Same H H1) : Gw W R H R H1 where
  sub := s.trans s'
  ext := Same.refl R
  out := fun a h => .inl h
  kee := fun a o h _ => s' a o h
  dom := fun a h => by
    cases e : H a with
    | none => exact absurd e h
    | some o => exact nn_of (s' a o e)
end
/-! ### comprehensions that make lists of data -/
section
variable {K : PySem.W.Frag} {W : List Addr} {R H : Hp} {g : TG} {tt : TT} {te : TE} {vs : List Nat} {σ : L2.St} {a : Addr} {xs : List V} {Q : VK}
/-- the invariant: D, new and not of the region, holds what stands for ds -/
def LcP (K : PySem.W.Frag) (W : List Addr) (R H : Hp) (ds : List PyData) (D : Addr) (H1 : Hp) : Prop := ∃ R1 ys, Gw W R H R1 H1 ∧ H1 D = some (.lst ys) ∧ R1 D = none ∧ DpAll K R1 ys ds
theorem lcP_nil (s : Same R H) (D : Addr) (n : H D = none) : LcP K W R H [] D (upd H D (.lst [])) := ⟨R, [], (Gw.refl s).newM n _, upd_same, s.free n, .nil⟩
theorem lcP_put {ds : List PyData} {d : PyData} {D : Addr} {R1 H1 R2 H2 : Hp} {ys : List V} {y : V} (n : H D = none) (hD : D ∉ W) (g1 : Gw W R H R1 H1) (h1 : H1 D = some (.lst ys)) (r1 : R1 D = none) (a1 : DpAll K R1 ys ds) (hl : ds.length < 100000)
    (g2 : Gw W R1 H1 R2 H2) (hy : Dp K R2 y d) : LcE D (LcP K W R H (ds ++ [d]) D) y H2 :=
  ⟨ys, g2.at h1 hD, by rw [a1.len]; exact szlt hl, R2, ys ++ [y], (g1.trans g2).mut (.inr n) (g2.notR (nn_of h1) r1) _, upd_same, g2.notR (nn_of h1) r1, (a1.up g2.ext).snoc hy⟩
theorem lcP_end {ds : List PyData} {D : Addr} {H1 : Hp} (h : LcP K W R H ds D H1) (n : H D = none) (k : ∀ R1 ys, Gw W R H R1 H1 → H1 D = some (.lst ys) → R1 D = none → DpAll K R1 ys ds → Q (.ref D) H1) : Q (.ref D) H1 := by
  obtain ⟨R1, ys, g, h1, r1, a1⟩ := h
  exact k R1 ys g h1 r1 a1
theorem take_succ {α : Type} {l : List α} {i : Nat} {x : α} (h : l[i]? = some x) : l.take (i + 1) = l.take i ++ [x] := by
  rw [List.take_add_one, h]
  rfl
theorem range_get {n i j : Nat} (h : (List.range n)[i]? = some j) : i < n ∧ j = i := by
  obtain ⟨h1, h2⟩ := List.getElem?_eq_some_iff.mp h
  rw [List.getElem_range] at h2
  rw [List.length_range] at h1
  exact ⟨h1, h2.symm⟩
/-- [te for x in l], without a test: the i-th item stands for ds[i] -/
theorem lc_data (ds : List PyData) (s : Same R H) (hW : ∀ D, H D = none → D ∉ W) (hS : SqL K R a xs) (hl : xs.length = ds.length) (hz : ds.length < 100000)
    (turn : ∀ (i : Nat) (x : V) (d : PyData) (R1 H1 : Hp) (N : V → Hp → Prop), xs[i]? = some x → ds[i]? = some d → Gw W R H R1 H1 → (∀ y R2 H2, Gw W R1 H1 R2 H2 → Dp K R2 y d → N y H2) →
      g x (wipe σ vs) H1 fun σ2 H2 => wipe σ2 vs = wipe σ vs ∧ tt σ2 H2 fun b H3 => b = true ∧ te σ2 H3 N)
    (mono : ∀ x σ H P P', (∀ σ2 H2, P σ2 H2 → P' σ2 H2) → g x σ H P → g x σ H P') (monoT : ∀ σ H P P', (∀ b H2, P b H2 → P' b H2) → tt σ H P → tt σ H P')
    (done : ∀ D R1 H1 ys, Gw W R H R1 H1 → H D = none → H1 D = some (.lst ys) → R1 D = none → DpAll K R1 ys ds → Q (.ref D) H1) :
    ItL K (fun J H1 => LcB J g tt te vs σ Q H1) (.ref a) H := by
  refine lc_L (fun D i H1 => LcP K W R H (ds.take i) D H1) (Same.seqL s hS) (fun D n => by rw [List.take_zero]; exact lcP_nil s D n) (fun D i H1 _ _ p => ?_) (fun D i x H1 n hx p => ?_) (fun D H1 n p => ?_)
  · obtain ⟨R1, ys, g1, _⟩ := p
    exact Same.seqL (g1.ext.trans g1.sub) hS
  · obtain ⟨R1, ys, g1, h1, r1, a1⟩ := p
    have hi : i < ds.length := by
      rw [← hl]
      exact (List.getElem?_eq_some_iff.mp hx).1
    have hd : ds[i]? = some ds[i] := List.getElem?_eq_getElem hi
    refine mono _ _ _ _ _ (fun σ2 H2 q => ⟨q.1, monoT _ _ _ _ (fun b H3 q => ?_) q.2⟩) (turn i x ds[i] R1 H1 (fun y H4 => LcE D (LcP K W R H (ds.take (i + 1)) D) y H4) hx hd g1 fun y R2 H2 g2 hy => ?_)
    · rw [q.1, if_pos rfl]
      exact q.2
    · rw [take_succ hd]
      exact lcP_put n (hW D n) g1 h1 r1 a1 (by rw [List.length_take]; omega) g2 hy
  · rw [hl, List.take_length] at p
    exact lcP_end p n fun R1 ys g1 h1 r1 a1 => done D R1 H1 ys g1 n h1 r1 a1
/-- .. over range(j) -/
theorem lc_dataR {j : Int} (ds : List PyData) (s : Same R H) (hW : ∀ D, H D = none → D ∉ W) (b1 : -(2 ^ 62) ≤ j) (b2 : j < 2 ^ 62) (hl : j.toNat = ds.length) (hz : ds.length < 100000)
    (turn : ∀ (i : Nat) (d : PyData) (R1 H1 : Hp) (N : V → Hp → Prop), ds[i]? = some d → Gw W R H R1 H1 → (∀ y R2 H2, Gw W R1 H1 R2 H2 → Dp K R2 y d → N y H2) →
      g (.int (0 + (i : Nat))) (wipe σ vs) H1 fun σ2 H2 => wipe σ2 vs = wipe σ vs ∧ tt σ2 H2 fun b H3 => b = true ∧ te σ2 H3 N)
    (mono : ∀ x σ H P P', (∀ σ2 H2, P σ2 H2 → P' σ2 H2) → g x σ H P → g x σ H P') (monoT : ∀ σ H P P', (∀ b H2, P b H2 → P' b H2) → tt σ H P → tt σ H P')
    (done : ∀ D R1 H1 ys, Gw W R H R1 H1 → H D = none → H1 D = some (.lst ys) → R1 D = none → DpAll K R1 ys ds → Q (.ref D) H1) :
    ItR1 (fun J H1 => LcB J g tt te vs σ Q H1) [.int j] H := by
  refine lc_R1 (fun D i H1 => LcP K W R H (ds.take i) D H1) b1 b2 (fun D n => by rw [List.take_zero]; exact lcP_nil s D n) (fun D i H1 n hi p => ?_) (fun D H1 n p => ?_)
  · obtain ⟨R1, ys, g1, h1, r1, a1⟩ := p
    have hi : i < ds.length := by omega
    have hd : ds[i]? = some ds[i] := List.getElem?_eq_getElem hi
    refine mono _ _ _ _ _ (fun σ2 H2 q => ⟨q.1, monoT _ _ _ _ (fun b H3 q => ?_) q.2⟩) (turn i ds[i] R1 H1 (fun y H4 => LcE D (LcP K W R H (ds.take (i + 1)) D) y H4) hd g1 fun y R2 H2 g2 hy => ?_)
    · rw [q.1, if_pos rfl]
      exact q.2
    · rw [take_succ hd]
      exact lcP_put n (hW D n) g1 h1 r1 a1 (by rw [List.length_take]; omega) g2 hy
  · rw [hl, List.take_length] at p
    exact lcP_end p n fun R1 ys g1 h1 r1 a1 => done D R1 H1 ys g1 n h1 r1 a1
/-- a comprehension whose test always fails -/
theorem lc_none (hS : SqL K H a xs) (turn : ∀ (i : Nat) (x : V) (D : Addr), xs[i]? = some x → H D = none → g x (wipe σ vs) (upd H D (.lst [])) fun σ2 H2 => wipe σ2 vs = wipe σ vs ∧ tt σ2 H2 fun b H3 => if b = true then te σ2 H3 fun y H4 => LcE D (fun H1 => H1 = upd H D (.lst [])) y H4 else H3 = upd H D (.lst []))
    (done : ∀ D, H D = none → Q (.ref D) (upd H D (.lst []))) : ItL K (fun J H1 => LcB J g tt te vs σ Q H1) (.ref a) H :=
  lc_L (fun D i H1 => H1 = upd H D (.lst [])) hS (fun D _ => rfl) (fun D i H1 n _ p => by rw [p]; exact Same.seqL (same_new n _) hS) (fun D i x H1 n hx p => by subst p; exact turn i x D hx n) (fun D H1 n p => by subst p; exact done D n)
theorem mono_gName (i : Nat) : ∀ x σ H P P', (∀ σ2 H2, P σ2 H2 → P' σ2 H2) → gName i x σ H P → gName i x σ H P' := fun _ _ _ _ _ h q => h _ _ q
theorem mono_yes : ∀ σ H (P P' : Bool → Hp → Prop), (∀ b H2, P b H2 → P' b H2) → tYes σ H P → tYes σ H P' := fun _ _ _ _ h q => h _ _ q
end
end U

/-! U4: the end: what the head tells of defs and built-in names (own work). -/
namespace U
open PySem PySem.Spec PyProof.Rows L2 He
def mkD (q : Str × Stmt) : DefD := ⟨(q.1, none), dnm q.2, dnm q.2, defArgs q.2, defBody q.2, defScope q.2, [], []⟩
def biNames : List Str := ["len", "range", "list", "isinstance", "int", "bool", "str", "tuple", "enumerate", "zip", "min", "max", "sum", "reversed"]
def faOf (ds : List (Str × Stmt)) : List Fa := biNames.map Fa.free ++ ds.map fun q => Fa.glo q.1
section
variable {fa : List Fa} {fn : List DefD} {K : PySem.W.Frag} {h : Heap} {mg : Str → Option Value} {ds : List (Str × Stmt)}
theorem bi_of (X : K.In h) (G : h.Ns mainGlobals mg) (c : SaysD fa fn K) (hf : ∀ x ∈ biNames, Fa.free x ∈ fa) : Bi mg := by
  have f : ∀ x ∈ biNames, mg x = none := fun x hx => free_ok X G (c.facts (hf x hx))
  exact ⟨f _ (by decide), f _ (by decide), f _ (by decide), f _ (by decide), f _ (by decide), f _ (by decide), f _ (by decide), f _ (by decide), f _ (by decide), f _ (by decide), f _ (by decide), f _ (by decide), f _ (by decide), f _ (by decide)⟩
theorem df_of (X : K.In h) (G : h.Ns mainGlobals mg) (c : SaysD fa fn K) {x : Str} {st : Stmt} (hf : Fa.glo x ∈ fa) (hd : mkD (x, st) ∈ fn) : Df K mg x st := by
  obtain ⟨fd, F⟩ := c.defs hd
  exact ⟨_, fd, F, glo_ok X G (c.facts hf)⟩
theorem df_i (X : K.In h) (G : h.Ns mainGlobals mg) (c : SaysD (faOf ds) (ds.map mkD) K) (i : Nat) {x : Str} {st : Stmt} (e : ds[i]? = some (x, st) := by rfl) : Df K mg x st := by
  have m : (x, st) ∈ ds := List.mem_of_getElem? e
  exact df_of X G c (List.mem_append.mpr (.inr (List.mem_map.mpr ⟨_, m, rfl⟩))) (List.mem_map.mpr ⟨_, m, rfl⟩)
theorem bi_i (X : K.In h) (G : h.Ns mainGlobals mg) (c : SaysD (faOf ds) (ds.map mkD) K) : Bi mg := bi_of X G c fun x hx => List.mem_append.mpr (.inl (List.mem_map.mpr ⟨x, hx, rfl⟩))
end
/-- what is wanted of the law's def -/
def spTrue (K : PySem.W.Frag) : Sp := fun vs H Q _ => ∃ (a : Addr) (ns : List Int), vs = [.ref a] ∧ SqL K H a (ns.map V.int) ∧ ns.length ≤ 63 ∧ ∀ H', Q (.bl true) H'
abbrev LawF (K : PySem.W.Frag) (st : Stmt) (f : Addr) (fd : FuncData) : Prop := FunD K "law" "law" (defArgs st) (defBody st) (defScope st) [] [] f fd
theorem law0 {P : Program} {w : World} {K : PySem.W.Frag} {mg : Str → Option Value} {base : Heap} {k : Nat} {st : Stmt} {N ps : List Str} {sp : Sp} (S : FnScope N ps (defScope st)) (len : ∀ vs H Q E, sp vs H Q E → vs.length = ps.length)
    (hbody : ∀ (f : Addr) (cdv : Value) (A : Around) (outer : List Env) (s : Shared) (H : Hp) (vs : List V) (Q : VK) (E : XK), Room k (A.deeper (envOfC "law" (defScope st) s.heap.objs.size f cdv)) → sp vs H Q E →
      ∃ t, PSs (cxOf CX0 P w K mg base N "law" (defScope st) f cdv A outer s H E).nox (defBody st) t ∧ t { nx := fun _ H' => Q .non H', rt := Q } (start N vs) H) :
    ∀ f fd, LawF K st f fd → FnOk P w K mg base CX0 (k + 1) f fd ps sp := fun f fd F => F.ok S len fun cdv A outer s H vs Q E hr h => by
  obtain ⟨t, h1, h2⟩ := hbody f cdv A outer s H vs Q E hr h
  exact ⟨t, h1.nox, h2⟩
/-- the walk of a law whose def is the last of ds -/
theorem walk_my {l : PySem.W.OpenLaw} {k n j : Nat} {q : Program} {loose : List Str} {XP : (Str → Option Value) → Heap → Prop} {d : DefRec} {x : Str} {ds : List (Str × Stmt)} {st : Stmt}
    (hn : l.most = some 63) (hdf : d.params.defaults = []) (hr : Room k callerA) (hname : d.name = ("law" : Str)) (hl : ds[j]? = some (("law" : Str), st))
    (hbind : ∀ (kV doc pm : Value) (an : Option Addr) (cdv ct : Value) (us : List Value), us.length = [x].length → bindArgs (PySem.W.fnOf "law" "law" (defArgs st) (defBody st) (defScope st) .none kV doc pm an cdv ct) ⟨us, []⟩ = pure ([x].zip us))
    (F : ∀ (w : World) (K : PySem.W.Frag) (mg : Str → Option Value) (h base : Heap), K.In h → h.Ns mainGlobals mg → SaysD (faOf ds) (ds.map mkD) K → K.In base → base.Ns mainGlobals mg → ∀ f fd, LawF K st f fd → FnOk l.prog w K mg base CX0 k f fd [x] (spTrue K)) (hd : dnm st = ("law" : Str) := by rfl) :
    PySem.W.WalkO q loose XP (hookD n (faOf ds) (ds.map mkD)).says l.row.toRowW d [] (fun f vs => PySem.call f vs) := by
  refine L2.walk_ofE (l := l) (n := 63) (k := k) (x := x) (CX := L2.CX0) hn (by decide) hdf hr ?_ (fun _ _ _ _ z => z)
  intro w mg fa h Y G hmg
  obtain ⟨K, KX, c⟩ := Y
  rw [hname] at hmg
  have m : (("law" : Str), st) ∈ ds := List.mem_of_getElem? hl
  obtain ⟨fd, FD⟩ := c.defs (d := mkD ("law", st)) (List.mem_map.mpr ⟨_, m, rfl⟩)
  have e : fa = ga K "law" := by
    have e1 := glo_ok KX G (c.facts (f := .glo "law") (List.mem_append.mpr (.inr (List.mem_map.mpr ⟨_, m, rfl⟩))))
    rw [hmg] at e1
    exact Value.ref.inj (Option.some.inj e1)
  have FD1 : FunD K (dnm st) (dnm st) (defArgs st) (defBody st) (defScope st) [] [] (ga K "law") fd := FD
  rw [hd] at FD1
  have FD' : LawF K st fa fd := by rw [e]; exact FD1
  have b := FunD.bindsA (ps := [x]) FD' hbind
  exact ⟨K, fd, spTrue K, KX, fun s u => b s [u] rfl, fun H a ns hl _ hS => ⟨a, ns, rfl, hS, hl, fun _ => rfl⟩, fun base hb hg => F w K mg h base KX G c hb hg fa fd FD'⟩
end U

/-! U5: things of one's own that change, apart from the region; classes, methods, defs held by names (own work). -/
namespace U
open PySem PySem.Spec PyProof.Rows L2
/-! ### things that change -/
/-- what stands at L's addresses, each once, none of the region, none known at the start B -/
def Own (R B H : Hp) (L : List (Addr × HO)) : Prop := (L.map (·.1)).Nodup ∧ ∀ q ∈ L, H q.1 = some q.2 ∧ B q.1 = none ∧ R q.1 = none
structure Sta (W : List Addr) (R0 B R H : Hp) (L : List (Addr × HO)) : Prop where
  g : Gw W R0 B R H
  o : Own R B H L
section
variable {W : List Addr} {R0 B R H R1 H1 : Hp} {L L' : List (Addr × HO)} {a b p : Addr} {o u : HO} {i j : Nat}
theorem Sta.get (S : Sta W R0 B R H L) (i : Nat) (e : L[i]? = some (a, o)) : H a = some o := (S.o.2 _ (List.mem_of_getElem? e)).1
theorem Sta.noB (S : Sta W R0 B R H L) (i : Nat) (e : L[i]? = some (a, o)) : B a = none := (S.o.2 _ (List.mem_of_getElem? e)).2.1
theorem Sta.noR (S : Sta W R0 B R H L) (i : Nat) (e : L[i]? = some (a, o)) : R a = none := (S.o.2 _ (List.mem_of_getElem? e)).2.2
theorem Sta.old (S : Sta W R0 B R H L) : Same R0 H := S.g.ext.trans S.g.sub
theorem Sta.sub' (S : Sta W R0 B R H L) : Same R H := S.g.sub
theorem Sta.ext' (S : Sta W R0 B R H L) : Same R0 R := S.g.ext
theorem keys_set : ∀ {L : List (Addr × HO)} {i : Nat}, L[i]? = some (a, o) → (L.set i (a, u)).map (·.1) = L.map (·.1)
  | [], _, e => by simp at e
  | x :: r, 0, e => by
    have q : x = (a, o) := by simpa using e
    subst q
    rfl
  | x :: r, i + 1, e => by
    have q : r[i]? = some (a, o) := by simpa using e
    show x.1 :: (r.set i (a, u)).map (·.1) = x.1 :: r.map (·.1)
    rw [keys_set q]
theorem mem_set_own (nd : (L.map (·.1)).Nodup) (e : L[i]? = some (a, o)) {q : Addr × HO} (h : q ∈ L.set i (a, u)) : q = (a, u) ∨ (q ∈ L ∧ q.1 ≠ a) := by
  obtain ⟨k, hk⟩ := List.mem_iff_getElem?.mp h
  rw [List.getElem?_set] at hk
  by_cases c : i = k
  · rw [if_pos c] at hk
    split at hk
    · exact .inl (Option.some.inj hk).symm
    · cases hk
  · rw [if_neg c] at hk
    refine .inr ⟨List.mem_of_getElem? hk, fun z => c ?_⟩
    have e1 : (L.map (·.1))[i]? = some a := by rw [List.getElem?_map, e]; rfl
    have e2 : (L.map (·.1))[k]? = some a := by rw [List.getElem?_map, hk, ← z]; rfl
    exact nd_ix nd e1 e2
/-- one of them changes -/
theorem Sta.set (S : Sta W R0 B R H L) (i : Nat) (e : L[i]? = some (a, o)) (u : HO) : Sta W R0 B R (upd H a u) (L.set i (a, u)) where
  g := S.g.mut (.inr (S.noB i e)) (S.noR i e) u
  o := by
    refine ⟨by rw [keys_set e]; exact S.o.1, fun q hq => ?_⟩
    rcases mem_set_own S.o.1 e hq with rfl | ⟨h, n⟩
    · exact ⟨L2.upd_same, S.noB i e, S.noR i e⟩
    · obtain ⟨h1, h2⟩ := S.o.2 q h
      exact ⟨by rw [upd_ne n]; exact h1, h2⟩
theorem Sta.ne_new (S : Sta W R0 B R H L) (n : H p = none) {q : Addr × HO} (h : q ∈ L) : q.1 ≠ p := fun z => by
  have := (S.o.2 q h).1
  rw [z, n] at this
  cases this
/-- a new one -/
theorem Sta.new (S : Sta W R0 B R H L) (n : H p = none) (o : HO) : Sta W R0 B R (upd H p o) ((p, o) :: L) where
  g := S.g.newM n o
  o := by
    refine ⟨List.nodup_cons.mpr ⟨fun m => ?_, S.o.1⟩, fun q hq => ?_⟩
    · obtain ⟨q, hq, e⟩ := List.mem_map.mp m
      exact S.ne_new n hq e
    · rcases List.mem_cons.mp hq with rfl | h
      · exact ⟨L2.upd_same, S.g.no n, S.g.noR n⟩
      · obtain ⟨h1, h2⟩ := S.o.2 q h
        exact ⟨by rw [upd_ne (S.ne_new n h)]; exact h1, h2⟩
/-- a new thing that never changes -/
theorem Sta.newR (S : Sta W R0 B R H L) (n : H p = none) (o : HO) : Sta W R0 B (upd R p o) (upd H p o) L where
  g := S.g.new n o
  o := ⟨S.o.1, fun q hq => by
    obtain ⟨h1, h2, h3⟩ := S.o.2 q hq
    exact ⟨by rw [upd_ne (S.ne_new n hq)]; exact h1, h2, by rw [upd_ne (S.ne_new n hq)]; exact h3⟩⟩
/-- a new thing that is left out of both -/
theorem Sta.newX (S : Sta W R0 B R H L) (n : H p = none) (o : HO) : Sta W R0 B R (upd H p o) L where
  g := S.g.newM n o
  o := ⟨S.o.1, fun q hq => by
    obtain ⟨h1, h2, h3⟩ := S.o.2 q hq
    exact ⟨by rw [upd_ne (S.ne_new n hq)]; exact h1, h2, h3⟩⟩
theorem Sta.perm (S : Sta W R0 B R H L) (h : L.Perm L') : Sta W R0 B R H L' where
  g := S.g
  o := ⟨(h.map (·.1)).nodup_iff.mp S.o.1, fun q hq => S.o.2 q (h.mem_iff.mpr hq)⟩
theorem Sta.eqL (S : Sta W R0 B R H L) (e : L = L') : Sta W R0 B R H L' := by subst e; exact S
theorem Sta.less (S : Sta W R0 B R H L) (h : L'.Sublist L) : Sta W R0 B R H L' where
  g := S.g
  o := ⟨(h.map (·.1)).nodup S.o.1, fun q hq => S.o.2 q (h.mem hq)⟩
/-- one of them stays as it is from now on: into the region -/
theorem Sta.frz (S : Sta W R0 B R H ((a, o) :: L)) : Sta W R0 B (upd R a o) H L where
  g := S.g.frz (S.noB 0 rfl) (S.get 0 rfl) (S.noR 0 rfl)
  o := by
    obtain ⟨n1, n2⟩ := List.nodup_cons.mp S.o.1
    refine ⟨n2, fun q hq => ?_⟩
    obtain ⟨h1, h2, h3⟩ := S.o.2 q (List.mem_cons_of_mem _ hq)
    exact ⟨h1, h2, by rw [upd_ne (fun z => n1 (List.mem_map.mpr ⟨q, hq, z⟩))]; exact h3⟩
/-- behind a step that touches none of them -/
theorem Sta.step {W' : List Addr} (S : Sta W R0 B R H L) (g : Gw W' R H R1 H1) (hW : ∀ a ∈ W', (a ∈ W ∨ B a = none) ∧ a ∉ L.map (·.1)) : Sta W R0 B R1 H1 L where
  g := S.g.then g fun a h => (hW a h).1
  o := ⟨S.o.1, fun q hq => by
    obtain ⟨h1, h2, h3⟩ := S.o.2 q hq
    exact ⟨g.kee _ _ h1 fun z => (hW _ z).2 (List.mem_map.mpr ⟨q, hq, rfl⟩), h2, g.notR (nn_of h1) h3⟩⟩
theorem Sta.start (s : Same R H) : Sta W R H R H [] := ⟨Gw.refl s, List.nodup_nil, fun _ h => by cases h⟩
theorem Sta.mem (S : Sta W R0 B R H L) {q : Addr × HO} (h : q ∈ L) : H q.1 = some q.2 := (S.o.2 q h).1
end

/-! ### classes -/
structure CI (K : PySem.W.Frag) (C : Addr) (fs : List Str) : Prop where
  cls : Cls K C
  na : ∀ f, fs.contains f = true → NoAttr K C f
/-- a method as it stands behind the top -/
structure DfM (K : PySem.W.Frag) (mg : Str → Option Value) (c : Str) (C : Addr) (m q : Str) (st : Stmt) : Prop where
  ex : ∃ f fd, FunD K m q (defArgs st) (defBody st) (defScope st) [] [] f fd ∧ Meth K C m f
  gl : mg c = some (.ref C)
structure DfI (K : PySem.W.Frag) (mg : Str → Option Value) (c : Str) (C : Addr) (q : Str) (st : Stmt) : Prop where
  ex : ∃ f fd, FunD K "__init__" q (defArgs st) (defBody st) (defScope st) [] [] f fd ∧ Mk K C f
  gl : mg c = some (.ref C)
/-- a method that may be called -/
structure CaM (P : Program) (w : World) (K : PySem.W.Frag) (mg : Str → Option Value) (base : Heap) (CX : CXT) (k : Nat) (C : Addr) (m : Str) (sp : Sp) : Prop where
  ex : ∃ f fd ps, FnOk P w K mg base CX k f fd ps sp ∧ Meth K C m f ∧ Binds K fd ps []
structure CaI (P : Program) (w : World) (K : PySem.W.Frag) (mg : Str → Option Value) (base : Heap) (CX : CXT) (k : Nat) (c : Str) (C : Addr) (sp : Sp) : Prop where
  ex : ∃ f fd ps, FnOk P w K mg base CX k f fd ps sp ∧ Mk K C f ∧ Binds K fd ps [] ∧ mg c = some (.ref C)
theorem CaM.mono {P : Program} {w : World} {K : PySem.W.Frag} {mg : Str → Option Value} {base : Heap} {CX : CXT} {j k : Nat} {C : Addr} {m : Str} {sp : Sp} (c : CaM P w K mg base CX j C m sp) (h : j ≤ k) : CaM P w K mg base CX k C m sp := by
  obtain ⟨f, fd, ps, F, r⟩ := c.ex
  exact ⟨f, fd, ps, F.mono h, r⟩
section
variable {P : Program} {w : World} {K : PySem.W.Frag} {mg : Str → Option Value} {base : Heap} {c m q : Str} {C : Addr} {st : Stmt} {N ps : List Str} {k : Nat} {sp : Sp}
theorem DfM.ca0 (D : DfM K mg c C m q st) (S : FnScope N ps (defScope st))
    (bd : ∀ (kV doc pm : Value) (an : Option Addr) (cdv ct : Value) (us : List Value), us.length = ps.length → bindArgs (PySem.W.fnOf m q (defArgs st) (defBody st) (defScope st) .none kV doc pm an cdv ct) ⟨us, []⟩ = pure (ps.zip us))
    (len : ∀ vs H Q E, sp vs H Q E → vs.length = ps.length)
    (hbody : ∀ (f : Addr) (cdv : Value) (A : Around) (outer : List Env) (s : Shared) (H : Hp) (vs : List V) (Q : VK) (E : XK), Room k (A.deeper (envOfC q (defScope st) s.heap.objs.size f cdv)) → sp vs H Q E →
      ∃ t, PSs (cxOf CX0 P w K mg base N q (defScope st) f cdv A outer s H E).nox (defBody st) t ∧ t { nx := fun _ H' => Q .non H', rt := Q } (start N vs) H) : CaM P w K mg base CX0 (k + 1) C m sp := by
  obtain ⟨f, fd, F, hm⟩ := D.ex
  refine ⟨f, fd, ps, F.ok S len fun cdv A outer s H vs Q E hr h => ?_, hm, F.bindsN bd⟩
  obtain ⟨t, h1, h2⟩ := hbody f cdv A outer s H vs Q E hr h
  exact ⟨t, h1.nox, h2⟩
theorem DfI.ca0 (D : DfI K mg c C q st) (S : FnScope N ps (defScope st))
    (bd : ∀ (kV doc pm : Value) (an : Option Addr) (cdv ct : Value) (us : List Value), us.length = ps.length → bindArgs (PySem.W.fnOf "__init__" q (defArgs st) (defBody st) (defScope st) .none kV doc pm an cdv ct) ⟨us, []⟩ = pure (ps.zip us))
    (len : ∀ vs H Q E, sp vs H Q E → vs.length = ps.length)
    (hbody : ∀ (f : Addr) (cdv : Value) (A : Around) (outer : List Env) (s : Shared) (H : Hp) (vs : List V) (Q : VK) (E : XK), Room k (A.deeper (envOfC q (defScope st) s.heap.objs.size f cdv)) → sp vs H Q E →
      ∃ t, PSs (cxOf CX0 P w K mg base N q (defScope st) f cdv A outer s H E).nox (defBody st) t ∧ t { nx := fun _ H' => Q .non H', rt := Q } (start N vs) H) : CaI P w K mg base CX0 (k + 1) c C sp := by
  obtain ⟨f, fd, F, hm⟩ := D.ex
  refine ⟨f, fd, ps, F.ok S len fun cdv A outer s H vs Q E hr h => ?_, hm, F.bindsN bd, D.gl⟩
  obtain ⟨t, h1, h2⟩ := hbody f cdv A outer s H vs Q E hr h
  exact ⟨t, h1.nox, h2⟩
end
section
variable {X : Cx} {CX : CXT} {k j : Nat} {x m : Str} {C : Addr} {sp : Sp} {E : XK} {p pos apos : Pos} {o e : Expr} {es : List Expr} {ta : TE} {t : TA}
theorem pe_mk (c : CaI X.prog X.w X.K X.mg X.base CX k x C sp) (hr : Room j X.A) (hk : k + 1 ≤ j) (hg : Gl X x) (hx : Passes CX X E) (ha : PA X (e :: es) t) (hdb : (x == ("__debug__" : Str)) = false := by decide)
    (he : starEach (e :: es) X.env = (false, eval e X.env) :: starEach es X.env := by rfl) (hpl : (backTo pos (starEach es X.env)).any (·.1) = false := by rfl) : PE X (.Call (.Name x p) (e :: es) [] pos) (tMake C sp [] E t) := by
  refine ⟨fun pins s σ H Q I h => ?_⟩
  obtain ⟨f, fd, ps, F, M, hb, hm⟩ := c.ex
  exact (pe_make (dvs := []) M F (hr.mono hk) hg hm hb .nil hx ha hdb he hpl).run pins s σ H Q I h
end
section
variable {K : PySem.W.Frag} {σ : L2.St} {H : Hp} {Q : VK} {te ta : TE} {t : TA} {nx bk ct : L2.St → Hp → Prop} {rt : VK} {f m : Str} {a C dx : Addr} {fs : List (Str × V)} {v y : V} {sp : Sp} {E : XK} {cs : List Str}
/-- a field is read -/
def FldE (K : PySem.W.Frag) (f : Str) (Q : VK) (x : V) (H1 : Hp) : Prop := ∃ a C dx fs v, x = .ref a ∧ H1 a = some (.ins C dx fs) ∧ Cls K C ∧ NoAttr K C f ∧ fs.lookup f = some v ∧ Q v H1
theorem w_fldX (h : te σ H fun x H1 => FldE K f Q x H1) : tFld K te f σ H Q := h
theorem w_fldEE (ha : H a = some (.ins C dx fs)) (c : CI K C cs) (n : cs.contains f = true) (l : fs.lookup f = some v) (h : Q v H) : FldE K f Q (.ref a) H := ⟨a, C, dx, fs, v, rfl, ha, c.cls, c.na f n, l, h⟩
def FldS (K : PySem.W.Frag) (f : Str) (nx : Hp → Prop) (y x : V) (H2 : Hp) : Prop := ∃ a C dx fs, x = .ref a ∧ H2 a = some (.ins C dx fs) ∧ Cls K C ∧ NoAttr K C f ∧ fs.length < 1000 ∧ nx (upd H2 a (.ins C dx (putF f y fs)))
theorem w_sFld {tv : TE} (h : tv σ H fun y H1 => ta σ H1 fun x H2 => FldS K f (nx σ) y x H2) : sFld K ta tv f ⟨nx, rt, bk, ct⟩ σ H := h
theorem w_fldS {N : Hp → Prop} {gs : List (Str × V)} (ha : H a = some (.ins C dx fs)) (c : CI K C cs) (n : cs.contains f = true) (l : Nat.ble fs.length 999 = true) (e : putF f y fs = gs) (h : N (upd H a (.ins C dx gs))) : FldS K f N y (.ref a) H :=
  ⟨a, C, dx, fs, rfl, ha, c.cls, c.na f n, Nat.lt_succ_of_le (ble l), by rw [e]; exact h⟩
def FldA1 (K : PySem.W.Frag) (f : Str) (R : Addr → Addr → V → Hp → Prop) (x : V) (H1 : Hp) : Prop := ∃ a C dx fs v, x = .ref a ∧ H1 a = some (.ins C dx fs) ∧ Cls K C ∧ NoAttr K C f ∧ fs.lookup f = some v ∧ R a C v H1
def FldA2 (f : Str) (nx : Hp → Prop) (a C : Addr) (z : V) (H3 : Hp) : Prop := ∃ dx' fs', H3 a = some (.ins C dx' fs') ∧ fs'.length < 1000 ∧ nx (upd H3 a (.ins C dx' (putF f z fs')))
theorem w_sFldAug {tv : TE} {rd : V → V → Hp → VK → Prop} (h : ta σ H fun x H1 => FldA1 K f (fun a C v H1 => tv σ H1 fun y H2 => rd v y H2 fun z H3 => FldA2 f (nx σ) a C z H3) x H1) : sFldAug K ta tv rd f ⟨nx, rt, bk, ct⟩ σ H := h
theorem w_fldA1 {R : Addr → Addr → V → Hp → Prop} (ha : H a = some (.ins C dx fs)) (c : CI K C cs) (n : cs.contains f = true) (l : fs.lookup f = some v) (h : R a C v H) : FldA1 K f R (.ref a) H := ⟨a, C, dx, fs, v, rfl, ha, c.cls, c.na f n, l, h⟩
theorem w_fldA2 {N : Hp → Prop} {z : V} {gs : List (Str × V)} (ha : H a = some (.ins C dx fs)) (l : Nat.ble fs.length 999 = true) (e : putF f z fs = gs) (h : N (upd H a (.ins C dx gs))) : FldA2 f N a C z H := ⟨dx, fs, ha, Nat.lt_succ_of_le (ble l), by rw [e]; exact h⟩
theorem w_rAdd {i j : Int} (h : Q (.int (i + j)) H) : rAdd (.int i) (.int j) H Q := ⟨i, j, rfl, rfl, h⟩
theorem w_rSub {i j : Int} (h : Q (.int (i - j)) H) : rSub (.int i) (.int j) H Q := ⟨i, j, rfl, rfl, h⟩
/-- a method is called: its contract may be of any def that the class holds by that name -/
def tMe (K : PySem.W.Frag) (C : Addr) (m : Str) (sp : Sp) (E : XK) (ta : TE) (t : TA) : TE := tMeth C m sp [] E ta t
def MethE (C : Addr) (m : Str) (R : V → Hp → Prop) (x : V) (H1 : Hp) : Prop := ∃ a dx fs, x = .ref a ∧ H1 a = some (.ins C dx fs) ∧ fs.lookup m = none ∧ R x H1
theorem w_meth (h : ta σ H fun x H1 => ∃ a dx fs, x = .ref a ∧ H1 a = some (.ins C dx fs) ∧ fs.lookup m = none ∧ t σ H1 fun vs H2 => sp (x :: (vs ++ [])) H2 Q E) : tMeth C m sp [] E ta t σ H Q := h
theorem w_methE {A : Prop} (ha : H a = some (.ins C dx fs)) (l : fs.lookup m = none) (h : A) : ∃ a' dx fs, V.ref a = .ref a' ∧ H a' = some (.ins C dx fs) ∧ fs.lookup m = none ∧ A := ⟨a, dx, fs, rfl, ha, l, h⟩
theorem w_make (h : t σ H fun vs H1 => ∀ x dx, H1 x = none → H1 dx = none → dx ≠ x → sp (.ref x :: (vs ++ [])) (upd (upd H1 dx (.own x)) x (.ins C dx [])) (fun v H2 => v = .non ∧ Q (.ref x) H2) E) : tMake C sp [] E t σ H Q := h
end
/-! ### a def that is held by a name -/
/-- a def that may be called, by its address -/
structure Cf (P : Program) (w : World) (K : PySem.W.Frag) (mg : Str → Option Value) (base : Heap) (CX : CXT) (k : Nat) (f : Addr) (sp : Sp) : Prop where
  ex : ∃ fd ps, FnOk P w K mg base CX k f fd ps sp ∧ PySem.W.keepIn K (.ref f) = true ∧ Binds K fd ps []
theorem Ca.cf {P : Program} {w : World} {K : PySem.W.Frag} {mg : Str → Option Value} {base : Heap} {CX : CXT} {k : Nat} {x : Str} {sp : Sp} {f : Addr} (c : Ca P w K mg base CX k x sp) (h : mg x = some (.ref f)) : Cf P w K mg base CX k f sp := by
  obtain ⟨g, fd, ps, F, hm, kp, hb⟩ := c.ex
  rw [h] at hm
  cases hm
  exact ⟨fd, ps, F, kp, hb⟩
def tCallH (i : Nat) (Hl : Addr → Sp → Prop) (E : XK) (t : TA) : TE := fun σ H Q => ∃ f sp, σ[i]? = some (some (.ref f)) ∧ Hl f sp ∧ t σ H fun vs H1 => sp vs H1 Q E
section
variable {X : Cx} {CX : CXT} {k j i : Nat} {x : Str} {E : XK} {p pos : Pos} {e : Expr} {es : List Expr} {t : TA} {Hl : Addr → Sp → Prop}
theorem pe_callH (A : ∀ f sp, Hl f sp → Cf X.prog X.w X.K X.mg X.base CX k f sp) (hr : Room j X.A) (hk : k ≤ j) (hx : Passes CX X E) (hN : X.N[i]? = some x) (hv : Vis X.env.scope x) (ha : PA X (e :: es) t)
    (hdb : (x == ("__debug__" : Str)) = false := by decide) (hcd : (x == ("__classdict__" : Str)) = false := by decide)
    (he : starEach (e :: es) X.env = (false, eval e X.env) :: starEach es X.env := by rfl) (hpl : (backTo pos (starEach es X.env)).any (·.1) = false := by rfl) : PE X (.Call (.Name x p) (e :: es) [] pos) (tCallH i Hl E t) := by
  refine ⟨fun pins s σ H Q I h => ?_⟩
  obtain ⟨f, sp, hs, hS, ht⟩ := h
  obtain ⟨fd, ps, F, hk', hb⟩ := (A f sp hS).ex
  refine (pe_callL (i := i) (f := f) (sp := sp) (dvs := []) (E := E) F (hr.mono hk) hN hv hk' hb .nil hx ha hdb hcd he hpl).run pins s σ H Q I ⟨hs, ?_⟩
  have e0 : (fun (vs : List V) (H1 : Hp) => sp (vs ++ []) H1 Q E) = fun vs H1 => sp vs H1 Q E := by
    funext vs H1
    rw [List.append_nil]
  show t σ H (fun vs H1 => sp (vs ++ []) H1 Q E)
  rw [e0]
  exact ht
end
theorem w_callH {i : Nat} {Hl : Addr → Sp → Prop} {E : XK} {t : TA} {σ : L2.St} {H : Hp} {Q : VK} {f : Addr} {sp : Sp} (e : σ[i]? = some (some (.ref f))) (hl : Hl f sp) (h : t σ H fun vs H1 => sp vs H1 Q E) : tCallH i Hl E t σ H Q := ⟨f, sp, e, hl, h⟩
/-! ### truth, while, written dicts -/
def TrE (K : PySem.W.Frag) (Q : Bool → Hp → Prop) (x : V) (H : Hp) : Prop := ∃ k, TruV K x H k ∧ Q k H
def tTru (K : PySem.W.Frag) (te : TE) : TT := fun σ H Q => te σ H fun x H' => TrE K Q x H'
theorem pt_tru {X : Cx} {a : Expr} {ta : TE} (ha : PE X a ta) (he : ∀ whole, isTrue a X.env whole = (do let v ← whole; standAt a.pos; holding [v] (truthy v)) := by intro _; rfl) : PT X a (tTru X.K ta) := pt_truth ha he
def WhT (W : Nat → L2.St → Hp → Prop) (m : Nat) (tb : TS) (nx : L2.St → Hp → Prop) (rt : VK) (b : Bool) (σ : L2.St) (H1 : Hp) : Prop :=
  if b = true then ∃ N : L2.St → Hp → Prop, (∀ σ' H', N σ' H' → ∃ m', m' < m ∧ W m' σ' H') ∧ tb ⟨N, rt, nx, N⟩ σ H1 else nx σ H1
section
variable {K : PySem.W.Frag} {σ : L2.St} {H : Hp} {Q : VK} {QB : Bool → Hp → Prop} {te : TE} {nx bk ct : L2.St → Hp → Prop} {rt : VK} {a : Addr} {xs : List V} {c : TT} {tb : TS} {w : World} {z : Str} {v : V}
theorem w_tru (h : te σ H fun x H' => TrE K QB x H') : tTru K te σ H QB := h
theorem w_truL (ha : SqL K H a xs) (h : QB (!xs.isEmpty) H) : TrE K QB (.ref a) H := ⟨_, .inl ⟨xs, ha, rfl⟩, h⟩
theorem w_truI {i : Int} (h : QB (i != 0) H) : TrE K QB (.int i) H := ⟨_, rfl, h⟩
theorem w_while (W : Nat → L2.St → Hp → Prop) (m0 : Nat) (h0 : W m0 σ H) (hs : ∀ m σ H, W m σ H → c σ H fun b H1 => WhT W m tb nx rt b σ H1) : tWhile c tb ⟨nx, rt, bk, ct⟩ σ H := ⟨W, ⟨m0, h0⟩, hs⟩
theorem w_whT {W : Nat → L2.St → Hp → Prop} {m : Nat} (h : tb ⟨fun σ' H' => ∃ m', m' < m ∧ W m' σ' H', rt, nx, fun σ' H' => ∃ m', m' < m ∧ W m' σ' H'⟩ σ H) : WhT W m tb nx rt true σ H := by
  unfold WhT
  rw [if_pos rfl]
  exact ⟨_, fun _ _ q => q, h⟩
theorem w_whF {W : Nat → L2.St → Hp → Prop} {m : Nat} (h : nx σ H) : WhT W m tb nx rt false σ H := by
  unfold WhT
  rw [if_neg Bool.false_ne_true]
  exact h
theorem wh_cases {W : Nat → L2.St → Hp → Prop} {m : Nat} {p : Prop} [Decidable p] (h1 : p → WhT W m tb nx rt true σ H) (h2 : ¬ p → WhT W m tb nx rt false σ H) : WhT W m tb nx rt (decide p) σ H := by
  by_cases h : p
  · rw [decide_eq_true h]; exact h1 h
  · rw [decide_eq_false h]; exact h2 h
theorem w_ixD (k : KDct K w a z v) (h : Q v H) : rIxD K w (.ref a) (.str z) H Q := ⟨a, z, v, rfl, rfl, k, h⟩
end
end U

/-! U6: // of any two whole numbers (own work). -/
namespace U
open PySem PySem.Spec PyProof.Rows L2
def nsOk (K : PySem.W.Frag) (a : Addr) : Bool := match K.lookup a with
  | some ⟨_, _, .dict es _, _⟩ => es.toList.all fun e => match e.key with
    | .str _ _ => true
    | _ => false
  | _ => false
theorem ns_of {K : PySem.W.Frag} {h : Heap} {a : Addr} (X : K.In h) (e : nsOk K a = true) : ∃ m, h.Ns a m ∧ ∀ x, PySem.W.nsIn K a x = some none → m x = none := by
  unfold nsOk at e
  split at e
  · rename_i c d es n sl q
    refine ⟨fun x => nsFind es x, ⟨_, es, n, X _ _ q, rfl, fun en hen => ?_, fun _ => rfl⟩, fun x hx => ?_⟩
    · have z := List.all_eq_true.mp e en (Array.mem_toList_iff.mpr hen)
      split at z
      · rename_i x t ek
        exact ⟨x, t, ek⟩
      · cases z
    · unfold PySem.W.nsIn at hx
      rw [q] at hx
      dsimp only at hx
      split at hx
      · cases hx
      · rename_i he
        show nsFind es x = none
        unfold nsFind findBy
        rw [← Array.find?_toList, he]
        rfl
  · cases e
/-- the module that the top's names know as the built-in one -/
def bmOf (K : PySem.W.Frag) : Addr := match PySem.W.nsIn K mainGlobals "__builtins__" with
  | some (some (.ref b)) => b
  | _ => 0
def bmOk (K : PySem.W.Frag) : Bool := match K.lookup (bmOf K) with
  | some ⟨.type c, some d, _, _⟩ => decide (c = "module") && decide (d = builtinsNs)
  | _ => false
/-- nothing looks on: what a division of great numbers asks -/
def seerB (K : PySem.W.Frag) : Bool := (nsOk K cStatics && (He.eqO (PySem.W.nsIn K cStatics "sys.audit-hooks") (some none) && He.eqO (PySem.W.nsIn K cStatics "sys.dict") (some none))) &&
  ((nsOk K sysModules && He.eqO (PySem.W.nsIn K sysModules "_pylong") (some none)) && (He.eqO (PySem.W.nsIn K mainGlobals "__builtins__") (some (some (.ref (bmOf K)))) && bmOk K))
theorem noSeer_of {K : PySem.W.Frag} {mg : Str → Option Value} {base : Heap} (M : Mod K mg base) (e : seerB K = true) : base.NoSeer := by
  obtain ⟨e1, e2⟩ := He.ba e
  obtain ⟨a1, a2⟩ := He.ba e1
  obtain ⟨a3, a4⟩ := He.ba a2
  obtain ⟨b1, b2⟩ := He.ba e2
  obtain ⟨b3, b4⟩ := He.ba b1
  obtain ⟨b5, b6⟩ := He.ba b2
  obtain ⟨m1, n1, k1⟩ := ns_of M.kin a1
  obtain ⟨m2, n2, k2⟩ := ns_of M.kin b3
  refine ⟨⟨m1, n1, k1 _ (He.eqO_ok a3), k1 _ (He.eqO_ok a4)⟩, ⟨m2, n2, k2 _ (He.eqO_ok b4)⟩, M.blt, ?_⟩
  unfold bmOk at b6
  split at b6
  · rename_i c d dt sl q
    obtain ⟨c1, c2⟩ := He.ba b6
    have e1 := of_decide_eq_true c1
    have e2 := of_decide_eq_true c2
    subst e1 e2
    exact ⟨mg, bmOf K, _, M.glob, PySem.W.mg_of M.kin M.glob (He.eqO_ok b5), M.kin _ _ q, rfl, rfl⟩
  · cases b6
def rFdA : R2 := rI (fun _ j => j ≠ 0) fun i j => .int (i.fdiv j)
theorem op_fdivA {X : Cx} (hS : seerB X.K = true) (hP : X.prog.given.tree = none) (hs : X.stack = X.env :: X.outer) (hgen : X.env.scope.isGenerator = false) (hco : X.env.scope.isCoroutine = false) (hd : X.A.depth + 100 < recursionLimit) : OpR X (binaryOp .FloorDiv) rFdA := by
  intro pins s σ H x y v u Q I rx ry h
  obtain ⟨i, j, rfl, rfl, hj, q⟩ := h
  obtain ⟨t, rfl⟩ := rx
  obtain ⟨t', rfl⟩ := ry
  have hN : s.heap.NoSeer := (noSeer_of I.mod hS).keeps I.bk
  refine floordiv_int hj ⟨.int (i.fdiv j), H, I.tok _, ⟨_, rfl⟩, q⟩ (.inr (PylongRoom.of I.nolimit hd ?_))
  exact SeerAt.of (M := model X.prog X.w) hN hP (I.ok.frames.trans (by rw [hs])) hgen hco I.ok.blt I.ok.glob
theorem w_fdA {i j : Int} {H : Hp} {Q : VK} (hj : j ≠ 0) (h : Q (.int (i.fdiv j)) H) : rFdA (.int i) (.int j) H Q := ⟨i, j, rfl, rfl, hj, h⟩
theorem room_deep {k : Nat} {A : Around} (r : Room k A) (h : 35 ≤ k) : A.depth + 100 < recursionLimit := by
  have := r.dp
  omega
end U

/-! U7: the end by a hook of one's own: defs, methods, constants, tables, and that nothing looks on (own work). -/
namespace U
open PySem PySem.Spec PyProof.Rows L2 He
/-- what is told of the written part: facts, defs, tables with text keys, one more Bool; the roots take in what the divisions ask -/
def rootsU (g : Addr → Option Obj) (n : Nat) : List Addr := asD g n ++ [cStatics, sysModules]
abbrev AlU : Type := AlT × Bool
def obsU (fa : List Fa) (fn : List DefD) (ts : List Tab) (ex : PySem.W.Frag → Bool) (K : PySem.W.Frag) : AlU := (obsT fa fn ts K, ex K)
def obsUG (n : Nat) (fa : List Fa) (fn : List DefD) (ts : List Tab) (ex : PySem.W.Frag → Bool) (g : Addr → Option Obj) : AlU := obsU fa fn ts ex (frG g (rootsU g n))
def SaysU (fa : List Fa) (fn : List DefD) (ts : List Tab) (ex : PySem.W.Frag → Bool) (w : World) (K : PySem.W.Frag) : Prop := obsU fa fn ts ex K = (valT fn ts w, true)
def hookU (n : Nat) (fa : List Fa) (fn : List DefD) (ts : List Tab) (ex : PySem.W.Frag → Bool) : PySem.W.Hook where
  α := AlU
  obs := fun s => obsUG n fa fn ts ex s.heap.get?
  val := fun w => (valT fn ts w, true)
  says := fun w h => ∃ K : PySem.W.Frag, K.In h ∧ SaysU fa fn ts ex w K
  of := fun _ _ e => ⟨_, frG_in, e⟩
  keeps := fun _ _ _ ⟨K, hK, c⟩ k => ⟨K, PySem.W.Frag.In.keeps hK k, c⟩
theorem obsU_eq {n : Nat} {fa : List Fa} {fn : List DefD} {ts : List Tab} {ex : PySem.W.Frag → Bool} {g : Addr → Option Obj} {s : Shared} (h : ∀ a, g a = s.heap.get? a) : obsUG n fa fn ts ex g = (hookU n fa fn ts ex).obs s := by
  have e : g = s.heap.get? := funext h
  rw [e] <;> rfl
/-- a row of the end: a def of the top; a class with its attributes; a method; a class's __init__; a whole number; a table of defs -/
inductive Wd where
  | df (x : Str) (st : Stmt)
  | cls (c : Str) (fs : List Str)
  | me (c m q : Str) (st : Stmt)
  | ini (c q : Str) (st : Stmt)
  | num (x : Str) (i : Int)
  | any (x : Str)
def Wd.fa : Wd → List Fa
  | .df x _ => [.glo x]
  | .cls c fs => .glo c :: .cls c :: fs.map fun f => .noat c f
  | .me c m _ _ => [.glo c, .meth c m]
  | .ini c _ _ => [.glo c, .mkr c]
  | .num x i => [.int x i]
  | .any x => [.glo x]
def Wd.fn : Wd → List DefD
  | .df x st => [⟨(x, none), dnm st, dnm st, defArgs st, defBody st, defScope st, [], []⟩]
  | .me c m q st => [⟨(c, some m), m, q, defArgs st, defBody st, defScope st, [], []⟩]
  | .ini c q st => [⟨(c, some "__init__"), "__init__", q, defArgs st, defBody st, defScope st, [], []⟩]
  | _ => []
def faU (ws : List Wd) : List Fa := biNames.map Fa.free ++ ws.flatMap Wd.fa
def fnU (ws : List Wd) : List DefD := ws.flatMap Wd.fn
section
variable {ws : List Wd} {ts : List Tab} {ex : PySem.W.Frag → Bool} {w : World} {K : PySem.W.Frag} {h : Heap} {mg : Str → Option Value}
theorem SaysU.t (c : SaysU (faU ws) (fnU ws) ts ex w K) : SaysT (faU ws) (fnU ws) ts w K := congrArg (fun z : AlU => z.1) c
theorem SaysU.more (c : SaysU (faU ws) (fnU ws) ts ex w K) : ex K = true := congrArg (fun z : AlU => z.2) c
theorem SaysU.fact (c : SaysU (faU ws) (fnU ws) ts ex w K) {d : Wd} (hd : d ∈ ws) {f : Fa} (hf : f ∈ d.fa) : f.ok K = true := c.t.d.facts (List.mem_append.mpr (.inr (List.mem_flatMap.mpr ⟨d, hd, hf⟩)))
theorem SaysU.fun_ (c : SaysU (faU ws) (fnU ws) ts ex w K) {d : Wd} (hd : d ∈ ws) {f : DefD} (hf : f ∈ d.fn) : ∃ fd, FunD K f.name f.qual f.params f.body f.scope (f.dvs K) (f.kws K) (fAd K f.at_) fd := c.t.d.defs (List.mem_flatMap.mpr ⟨d, hd, hf⟩)
theorem bi_u (X : K.In h) (G : h.Ns mainGlobals mg) (c : SaysU (faU ws) (fnU ws) ts ex w K) : Bi mg := bi_of X G c.t.d fun x hx => List.mem_append.mpr (.inl (List.mem_map.mpr ⟨x, hx, rfl⟩))
theorem df_u (X : K.In h) (G : h.Ns mainGlobals mg) (c : SaysU (faU ws) (fnU ws) ts ex w K) (i : Nat) {x : Str} {st : Stmt} (e : ws[i]? = some (.df x st) := by rfl) : Df K mg x st := by
  have m := List.mem_of_getElem? e
  obtain ⟨fd, F⟩ := c.fun_ m (f := ⟨(x, none), dnm st, dnm st, defArgs st, defBody st, defScope st, [], []⟩) List.mem_cons_self
  exact ⟨_, fd, F, glo_ok X G (c.fact m List.mem_cons_self)⟩
theorem ci_u (c : SaysU (faU ws) (fnU ws) ts ex w K) (i : Nat) {x : Str} {fs : List Str} (e : ws[i]? = some (.cls x fs) := by rfl) : CI K (ga K x) fs := by
  have m := List.mem_of_getElem? e
  refine ⟨cls_ok (c.fact m (f := .cls x) (List.mem_cons_of_mem _ List.mem_cons_self)), fun f hf => noat_ok (c.fact m (f := .noat x f) (List.mem_cons_of_mem _ (List.mem_cons_of_mem _ (List.mem_map.mpr ⟨f, ?_, rfl⟩))))⟩
  exact List.contains_iff_mem.mp hf
theorem me_u (X : K.In h) (G : h.Ns mainGlobals mg) (c : SaysU (faU ws) (fnU ws) ts ex w K) (i : Nat) {x m q : Str} {st : Stmt} (e : ws[i]? = some (.me x m q st) := by rfl) : DfM K mg x (ga K x) m q st := by
  have hm := List.mem_of_getElem? e
  obtain ⟨fd, F⟩ := c.fun_ hm (f := ⟨(x, some m), m, q, defArgs st, defBody st, defScope st, [], []⟩) List.mem_cons_self
  exact ⟨⟨_, fd, F, meth_ok (c.fact hm (f := .meth x m) (List.mem_cons_of_mem _ List.mem_cons_self))⟩, glo_ok X G (c.fact hm (f := .glo x) List.mem_cons_self)⟩
theorem ini_u (X : K.In h) (G : h.Ns mainGlobals mg) (c : SaysU (faU ws) (fnU ws) ts ex w K) (i : Nat) {x q : Str} {st : Stmt} (e : ws[i]? = some (.ini x q st) := by rfl) : DfI K mg x (ga K x) q st := by
  have hm := List.mem_of_getElem? e
  obtain ⟨fd, F⟩ := c.fun_ hm (f := ⟨(x, some "__init__"), "__init__", q, defArgs st, defBody st, defScope st, [], []⟩) List.mem_cons_self
  exact ⟨⟨_, fd, F, mkr_ok (c.fact hm (f := .mkr x) (List.mem_cons_of_mem _ List.mem_cons_self))⟩, glo_ok X G (c.fact hm (f := .glo x) List.mem_cons_self)⟩
theorem num_u (X : K.In h) (G : h.Ns mainGlobals mg) (c : SaysU (faU ws) (fnU ws) ts ex w K) (i : Nat) {x : Str} {n : Int} (e : ws[i]? = some (.num x n) := by rfl) : ∃ t, mg x = some (.int n t) :=
  int_ok X G (c.fact (List.mem_of_getElem? e) (f := .int x n) List.mem_cons_self)
theorem any_u (X : K.In h) (G : h.Ns mainGlobals mg) (c : SaysU (faU ws) (fnU ws) ts ex w K) (i : Nat) {x : Str} (e : ws[i]? = some (.any x) := by rfl) : mg x = some (.ref (ga K x)) :=
  glo_ok X G (c.fact (List.mem_of_getElem? e) (f := .glo x) List.mem_cons_self)
/-- a table's entry -/
theorem tab_u (c : SaysU (faU ws) (fnU ws) ts ex w K) (i : Nat) {t : Tab} (e : ts[i]? = some t) {kvs : List (Str × Dv)} (hv : valsB K (t.1 K) kvs = true) {q : Str × Dv} (hq : q ∈ kvs) : KDct K w (t.1 K) q.1 (q.2.v K) := by
  obtain ⟨es, n, hk⟩ := c.t.tab i e
  obtain ⟨u, hu, r⟩ := valsB_ok hv hq
  obtain ⟨k1, k2, k3⟩ := hk
  exact ⟨es, n, u, k1, k2, hu, r⟩
end
/-- the walk of a law whose def stands at j of ws -/
theorem walk_u {l : PySem.W.OpenLaw} {k n j : Nat} {q : Program} {loose : List Str} {XP : (Str → Option Value) → Heap → Prop} {d : DefRec} {x : Str} {ws : List Wd} {ts : List Tab} {ex : PySem.W.Frag → Bool} {st : Stmt}
    (hn : l.most = some 63) (hdf : d.params.defaults = []) (hr : Room k callerA) (hname : d.name = ("law" : Str)) (hl : ws[j]? = some (.df "law" st))
    (hbind : ∀ (kV doc pm : Value) (an : Option Addr) (cdv ct : Value) (us : List Value), us.length = [x].length → bindArgs (PySem.W.fnOf "law" "law" (defArgs st) (defBody st) (defScope st) .none kV doc pm an cdv ct) ⟨us, []⟩ = pure ([x].zip us))
    (F : ∀ (w : World) (K : PySem.W.Frag) (mg : Str → Option Value) (h base : Heap), K.In h → h.Ns mainGlobals mg → SaysU (faU ws) (fnU ws) ts ex w K → ∀ f fd, LawF K st f fd → FnOk l.prog w K mg base CX0 k f fd [x] (spTrue K)) (hd : dnm st = ("law" : Str) := by rfl) :
    PySem.W.WalkO q loose XP (hookU n (faU ws) (fnU ws) ts ex).says l.row.toRowW d [] (fun f vs => PySem.call f vs) := by
  refine L2.walk_ofE (l := l) (n := 63) (k := k) (x := x) (CX := L2.CX0) hn (by decide) hdf hr ?_ (fun _ _ _ _ z => z)
  intro w mg fa h Y G hmg
  obtain ⟨K, KX, c⟩ := Y
  rw [hname] at hmg
  have m := List.mem_of_getElem? hl
  obtain ⟨fd, FD⟩ := c.fun_ m (f := ⟨("law", none), dnm st, dnm st, defArgs st, defBody st, defScope st, [], []⟩) List.mem_cons_self
  have e : fa = ga K "law" := by
    have e1 := glo_ok KX G (c.fact m (f := .glo "law") List.mem_cons_self)
    rw [hmg] at e1
    exact Value.ref.inj (Option.some.inj e1)
  have FD1 : FunD K (dnm st) (dnm st) (defArgs st) (defBody st) (defScope st) [] [] (ga K "law") fd := FD
  rw [hd] at FD1
  have FD' : LawF K st fa fd := by rw [e]; exact FD1
  have b := FunD.bindsA (ps := [x]) FD' hbind
  exact ⟨K, fd, spTrue K, KX, fun s u => b s [u] rfl, fun H a ns hl _ hS => ⟨a, ns, rfl, hS, hl, fun _ => rfl⟩, fun base hb hg => F w K mg h base KX G c fa fd FD'⟩
end U

/-! U8: dicts with text keys, enumerate (own work). -/
namespace U
open PySem PySem.Spec PyProof.Rows L2
def DgE (Q : VK) (x y : V) (H2 : Hp) : Prop := ∃ a v, x = .ref a ∧ DGet H2 a y (some v) ∧ Q v H2
def DpE (nx : Hp → Prop) (x y v : V) (H3 : Hp) : Prop := ∃ a H4, x = .ref a ∧ DPut H3 a y v H4 ∧ nx H4
def DsE (Q : VK) (p : Addr) (ps : List (V × V)) (H2 : Hp) : Prop := H2 p = some (.dK []) ∧ ∃ kvs : List (Key × V), ps = kvs.map (fun kv => (kV kv.1, kv.2)) ∧ kvs.length ≤ 15 ∧ Q (.ref p) (upd H2 p (.dK (mergeK [] kvs)))
section
variable {K : PySem.W.Frag} {σ : L2.St} {H : Hp} {Q : VK} {td ty tv tk : TE} {nx bk ct : L2.St → Hp → Prop} {rt : VK} {a p : Addr} {kvs kvs' : List (Key × V)} {x : Str} {v : V} {tr : List (TE × TE)} {QP : List (V × V) → Hp → Prop}
theorem w_dg (h : td σ H fun x H1 => ty σ H1 fun y H2 => DgE Q x y H2) : tDGet td ty σ H Q := h
theorem w_dgE (ha : H a = some (.dK kvs)) (e : valV kvs (Sum.inr x) = some v) (h : Q v H) : DgE Q (.ref a) (.str x) H := ⟨a, v, rfl, by rw [← e]; exact .k ha (k := .inr x), h⟩
theorem w_dp (h : tv σ H fun v H1 => td σ H1 fun x H2 => ty σ H2 fun y H3 => DpE (fun H4 => nx σ H4) x y v H3) : sDPut td ty tv ⟨nx, rt, bk, ct⟩ σ H := h
theorem w_dpE {N : Hp → Prop} (ha : H a = some (.dK kvs)) (l : Nat.ble kvs.length 999 = true) (e : putK kvs (Sum.inr x) v = kvs') (h : N (upd H a (.dK kvs'))) : DpE N (.ref a) (.str x) v H :=
  ⟨a, _, rfl, .k ha (k := .inr x) (szlt (Nat.lt_of_le_of_lt (ble l) (by decide))), by rw [e]; exact h⟩
theorem w_disp (h : ∀ p, H p = none → tPairs tr σ (upd H p (.dK [])) fun ps H2 => DsE Q p ps H2) : tDisp tr σ H Q := h
theorem w_prN (h : QP [] H) : tPairs [] σ H QP := h
theorem w_prC (h : tk σ H fun x H1 => tv σ H1 fun y H2 => tPairs tr σ H2 fun ps H3 => QP ((x, y) :: ps) H3) : tPairs ((tk, tv) :: tr) σ H QP := h
theorem w_dsE {ps : List (V × V)} (kvs : List (Key × V)) (ha : H p = some (.dK [])) (e : ps = kvs.map (fun kv => (kV kv.1, kv.2))) (l : Nat.ble kvs.length 15 = true) (m : mergeK [] kvs = kvs') (h : Q (.ref p) (upd H p (.dK kvs'))) : DsE Q p ps H :=
  ⟨ha, kvs, e, ble l, by rw [m]; exact h⟩
/-! ### enumerate -/
def ItE (K : PySem.W.Frag) (R : It → Hp → Prop) (vs : List V) (H1 : Hp) : Prop := ∃ a xs, vs = [.ref a] ∧ SqL K H1 a xs ∧ R (Ite K a) H1
theorem w_iE {ta : TA} {R : It → Hp → Prop} (h : ta σ H fun vs H1 => ItE K R vs H1) : iEnum K ta σ H R := h
theorem for_E {xs : List V} {g : TG} {tb : TS} (Pv : Nat → L2.St → Hp → Prop) (hS : SqL K H a xs) (h0 : Pv 0 σ H) (hl : ∀ i σ H, i ≤ xs.length → Pv i σ H → SqL K H a xs)
    (hs : ∀ i x σ H T, xs[i]? = some x → Pv i σ H → H T = none → g (.ref T) σ (upd H T (.tup [.int (i : Nat), x])) fun σ2 H2 => tb ⟨Pv (i + 1), rt, nx, Pv (i + 1)⟩ σ2 H2) (hd : ∀ σ H, Pv xs.length σ H → nx σ H) :
    ItE K (fun J H1 => ForB J g tb nx rt σ H1) [.ref a] H := by
  refine ⟨a, xs, rfl, hS, fun i m σ H => m = xs.length - i ∧ i ≤ xs.length ∧ Pv i σ H, ⟨xs.length, by simp, Nat.zero_le _, h0⟩, ?_⟩
  rintro i m σ H ⟨rfl, hi, p⟩
  have q := hl i σ H hi p
  by_cases hlt : i < xs.length
  · refine .inr ⟨⟨xs, xs[i], q, by simp [hlt]⟩, Pv (i + 1), fun σ' H' p' => ⟨xs.length - (i + 1), by omega, rfl, hlt, p'⟩, fun x H' y => ?_⟩
    obtain ⟨T, z, e, hT, e2, y⟩ := y
    subst e e2
    exact hs i z σ H T (y xs q) p hT
  · have e : i = xs.length := by omega
    subst e
    exact .inl ⟨⟨xs, q, Nat.le_refl _⟩, hd σ H p⟩
end
/-! ### lists joined and repeated -/
section
variable {W : List Addr} {R0 B R H R1 H1 : Hp} {L : List (Addr × HO)} {K : PySem.W.Frag} {Q : VK} {a b p l : Addr} {xs ys vs : List V} {o : HO} {ds es : List PyData}
theorem w_cat (ha : H a = some (.lst xs)) (hb : H b = some (.lst ys)) (hl : xs.length + ys.length ≤ 100000) (h : ∀ p, H p = none → Q (.ref p) (upd H p (.lst (xs ++ ys)))) : rCat (.ref a) (.ref b) H Q := ⟨a, b, xs, ys, rfl, rfl, ha, hb, sz hl, h⟩
theorem w_rep {k : Int} (ha : H a = some (.lst xs)) (h0 : -1000 ≤ k) (h1 : k ≤ 1000) (hl : xs.length * k.toNat ≤ 100000) (h : ∀ p, H p = none → Q (.ref p) (upd H p (.lst (List.replicate k.toNat xs).flatten))) : rRep (.ref a) (.int k) H Q :=
  ⟨a, k, xs, rfl, rfl, ha, by omega, by omega, sz hl, h⟩
/-- a new thing, made by a step, is one's own from now on -/
theorem Sta.take (S : Sta W R0 B R H L) (g : Gw [] R H R1 H1) (n : H p = none) (h : H1 p = some o) (r : R1 p = none) : Sta W R0 B R1 H1 ((p, o) :: L) where
  g := S.g.then g fun _ h => nomatch h
  o := by
    have S1 := S.step g fun _ h => nomatch h
    refine ⟨List.nodup_cons.mpr ⟨fun m => ?_, S.o.1⟩, fun q hq => ?_⟩
    · obtain ⟨q, hq, e⟩ := List.mem_map.mp m
      exact S.ne_new n hq e
    · rcases List.mem_cons.mp hq with rfl | h'
      · exact ⟨h, S.g.no n, r⟩
      · exact S1.o.2 q h'
theorem Sta.sm (S : Sta W R0 B R H L) (s : Same H H1) : Sta W R0 B R H1 L := S.step (W' := []) (Gw.of_same S.sub' s) fun _ h => nomatch h
theorem Sta.nR (S : Sta W R0 B R H L) (n : H p = none) : R p = none := S.g.noR n
/-- one more tuple of data behind those so far, in the region -/
theorem Sta.row (S : Sta W R0 B R H L) (n : H p = none) (as : DpAll K R vs es) (a : DpAll K R xs ds) : DpAll K (upd R p (.tup xs)) (vs ++ [.ref p]) (es ++ [.tuple ds]) :=
  (as.up (same_new (S.nR n) _)).snoc (dp_tupN (S.nR n) a)
theorem Sta.row0 (S : Sta W R0 B R H L) (n : H p = none) (a : DpAll K R xs ds) : DpAll K (upd R p (.tup xs)) [.ref p] [.tuple ds] := S.row n .nil a
theorem Sta.upR (S : Sta W R0 B R H L) (n : H p = none) (o : HO) (as : DpAll K R vs es) : DpAll K (upd R p o) vs es := as.up (same_new (S.nR n) _)
end
theorem dpAll_rep {K : PySem.W.Frag} {H : Hp} {xs : List V} {ds : List PyData} (h : DpAll K H xs ds) : ∀ n : Nat, DpAll K H (List.replicate n xs).flatten (List.replicate n ds).flatten
  | 0 => .nil
  | n + 1 => by
    rw [List.replicate_succ, List.replicate_succ, List.flatten_cons, List.flatten_cons]
    exact h.app (dpAll_rep h n)
end U

/-! U9: slices with a step, in, comprehensions over enumerate, == of lists with one that is empty (own work). -/
namespace U
open PySem PySem.Spec PyProof.Rows L2
theorem vals_pick {xs : List V} {us : List Value} (r : Vals xs us) : ∀ idx : List Nat, Vals (idx.filterMap (xs[·]?)) (idx.filterMap (us[·]?))
  | [] => .nil
  | i :: idx => by
    rw [List.filterMap_cons, List.filterMap_cons]
    cases h : xs[i]? with
    | none => rw [Vals.none_of r h]; exact vals_pick r idx
    | some x =>
      obtain ⟨u, hu, ru⟩ := r.get h
      rw [hu]
      exact .cons ru (vals_pick r idx)
/-- xs[lo:hi:st] of a list: some of its items -/
def tSl3 (K : PySem.W.Frag) (te : TE) (tl th tt : TO) : TE := fun σ H Q => te σ H fun x H1 => tl σ H1 fun l H2 => th σ H2 fun u H3 => tt σ H3 fun st H4 => ∃ a xs, x = .ref a ∧ SqL K H4 a xs ∧ st ≠ some 0 ∧ ∀ ys p, ys.length ≤ xs.length → (∀ y ∈ ys, y ∈ xs) → H4 p = none → Q (.ref p) (upd H4 p (.lst ys))
theorem pe_slice3 {X : Cx} {e es : Expr} {lo hi : Option Expr} {te : TE} {tl th tt : TO} {p2 pos : Pos} (he : PE X e te) (hl : PO X lo tl) (hu : PO X hi th) (hst : PO X (some es) tt) : PE X (.Subscript e (.Slice lo hi (some es) p2) pos) (tSl3 X.K te tl th tt) := by
  refine ⟨fun pins s σ H Q I h => ?_⟩
  refine Subscript_ (thn (he.run pins s σ H _ I h) fun v s1 ⟨x, H1, I1, r1, q1⟩ => ?_)
  refine wpAny_Slice (thn (hl.run pins s1 σ H1 _ I1 q1) fun vl s2 ⟨l, H2, I2, pl, q2⟩ => thn (hu.run pins s2 σ H2 _ I2 q2) fun vu s3 ⟨u, H3, I3, pu, q3⟩ => thn (hst.run pins s3 σ H3 _ I3 q3) fun vst s4 ⟨st, H4, I4, pst, q4⟩ => ?_)
  obtain ⟨a, xs, rfl, hx, h0, q⟩ := q4
  cases r1
  have I5 : Inv X pins σ H4 { s4 with heap := s4.heap.push { cls := .type "slice", data := .fields #[vl, vu, vst] } } := I4.kept (t' := s4.toks) fun b ob q => Heap.get?_push_of_some _ q
  obtain ⟨its, r, ht, hz⟩ := I5.list hx
  have hlen := r.length
  show wpAny (model X.prog X.w) X.A (subscriptTail e (.Slice lo hi (some es) p2) (.ref a) (.ref s4.heap.objs.size)) (EP X pins σ Q) X.xe { s4 with heap := s4.heap.push { cls := .type "slice", data := .fields #[vl, vu, vst] } }
  refine tail_any (ops := [.ref a, .ref s4.heap.objs.size]) (T := "list") ht.isList.typeIs slot_list_getitem.lookup ?_ (by with_unfolding_all rfl)
  refine wpAny_getItem_list_slice ht.isList (Heap.IsSliceOf.new ..) pl pu pst h0 ?_ (by rw [List.size_toArray] <;> omega)
  have hv := vals_pick r (sliceRange (sliceBounds l u st its.toArray.size).1 (sliceBounds l u st its.toArray.size).2.1 (sliceBounds l u st its.toArray.size).2.2)
  have e1 : slicePick its.toArray l u st = ((sliceRange (sliceBounds l u st its.toArray.size).1 (sliceBounds l u st its.toArray.size).2.1 (sliceBounds l u st its.toArray.size).2.2).filterMap (its[·]?)).toArray := by
    unfold slicePick
    congr 2
    funext i
    rw [List.getElem?_toArray]
  have hs := slicePick_size_le its.toArray l u st
  generalize hidx : sliceRange (sliceBounds l u st its.toArray.size).1 (sliceBounds l u st its.toArray.size).2.1 (sliceBounds l u st its.toArray.size).2.2 = idx at *
  rw [e1] at hs ⊢
  have hl2 : (idx.filterMap (xs[·]?)).length ≤ xs.length := by
    rw [hv.length, hlen]
    rw [List.size_toArray, List.size_toArray] at hs
    exact hs
  refine ⟨.ref _, _, I5.laid (t' := s4.toks) (o := .lst (idx.filterMap (xs[·]?))) (fun b ob q => Heap.get?_push_of_some _ q) (Nat.le_refl _) ?_, rfl, q _ _ hl2 (fun y hy => ?_) (I5.hok.fresh (Nat.le_refl _))⟩
  · exact ⟨Nat.le_trans hl2 (by omega), _, 0, hv, Heap.get?_push_size _ rfl⟩
  · obtain ⟨i, _, hi⟩ := List.mem_filterMap.mp hy
    exact List.mem_of_getElem? hi
/-! ### in, == -/
section
variable {K : PySem.W.Frag} {H : Hp} {Q : VK} {a p : Addr} {xs : List V} {x : V} {b : Bool}
theorem w_inT (ha : SqT K H p xs) (fx : flatV x = true) (fs : xs.all flatV = true) (e : inV x xs = b) (h : Q (.bl b) H) : rIn K false x (.ref p) H Q := ⟨p, xs, rfl, .inr ha, fx, fs, by rw [if_neg Bool.false_ne_true, e]; exact h⟩
theorem w_neDD {x y : V} {d e : PyData} (hx : Dp K H x d) (hy : Dp K H y e) (s : SeqAt.shaped d = true) (t : SeqAt.shaped e = true) (h : Q (.bl (!PyData.eqv d e)) H) : rNeD K x y H Q := ⟨d, e, hx, hy, s, t, h⟩
theorem w_eqDD {x y : V} {d e : PyData} (hx : Dp K H x d) (hy : Dp K H y e) (s : SeqAt.shaped d = true) (t : SeqAt.shaped e = true) (h : Q (.bl (PyData.eqv d e)) H) : rEqD K x y H Q := ⟨d, e, hx, hy, s, t, h⟩
theorem eqv_nil {ds : List PyData} : PyData.eqv (.list ds) (.list []) = ds.isEmpty := by
  rw [PyData.eqv]
  cases ds <;> rfl
theorem shaped_nil : SeqAt.shaped (.list []) = true := by decide +kernel
/-- a list, whatever stands in it, against a new empty one -/
theorem w_neNil {y : V} {ds : List PyData} {vs : List V} (ha : SqL K H a vs) (hd : DpAll K H vs ds) (hy : Dp K H y (.list [])) (s : SeqAt.shaped (.list ds) = true) (h : Q (.bl (!vs.isEmpty)) H) : rNeD K (.ref a) y H Q :=
  w_neDD (.lst ha hd) hy s shaped_nil (by
    rw [eqv_nil]
    have e : ds.isEmpty = vs.isEmpty := by cases hd <;> rfl
    rw [e]; exact h)
theorem w_eqNil {y : V} {ds : List PyData} {vs : List V} (ha : SqL K H a vs) (hd : DpAll K H vs ds) (hy : Dp K H y (.list [])) (s : SeqAt.shaped (.list ds) = true) (h : Q (.bl vs.isEmpty) H) : rEqD K (.ref a) y H Q :=
  w_eqDD (.lst ha hd) hy s shaped_nil (by
    rw [eqv_nil]
    have e : ds.isEmpty = vs.isEmpty := by cases hd <;> rfl
    rw [e]; exact h)
end
/-! ### comprehensions over enumerate -/
section
variable {K : PySem.W.Frag} {g : TG} {tt : TT} {te : TE} {vs : List Nat} {σ : L2.St} {H : Hp} {a : Addr} {xs : List V}
theorem lc_E {Q : VK} (Pv : Addr → Nat → Hp → Prop) (hS : SqL K H a xs) (h0 : ∀ D, H D = none → Pv D 0 (upd H D (.lst []))) (hl : ∀ D i H1, H D = none → i ≤ xs.length → Pv D i H1 → SqL K H1 a xs)
    (hs : ∀ D i x H1 T, H D = none → xs[i]? = some x → Pv D i H1 → H1 T = none → g (.ref T) (wipe σ vs) (upd H1 T (.tup [.int (i : Nat), x])) fun σ2 H2 => wipe σ2 vs = wipe σ vs ∧ tt σ2 H2 fun b H3 => if b = true then te σ2 H3 fun y H4 => LcE D (Pv D (i + 1)) y H4 else Pv D (i + 1) H3)
    (hd : ∀ D H1, H D = none → Pv D xs.length H1 → Q (.ref D) H1) :
    ItE K (fun J H1 => LcB J g tt te vs σ Q H1) [.ref a] H := by
  refine ⟨a, xs, rfl, hS, fun D hD => ⟨fun i m H => m = xs.length - i ∧ i ≤ xs.length ∧ Pv D i H, ⟨xs.length, by simp, Nat.zero_le _, h0 D hD⟩, ?_⟩⟩
  rintro i m H ⟨rfl, hi, p⟩
  have q := hl D i H hD hi p
  by_cases hlt : i < xs.length
  · refine .inr ⟨⟨xs, xs[i], q, by simp [hlt]⟩, Pv D (i + 1), fun H' p' => ⟨xs.length - (i + 1), by omega, rfl, hlt, p'⟩, fun x H' y => ?_⟩
    obtain ⟨T, z, e, hT, e2, y⟩ := y
    subst e e2
    exact hs D i z H T hD (y xs q) p hT
  · have e : i = xs.length := by omega
    subst e
    exact .inl ⟨⟨xs, q, Nat.le_refl _⟩, hd D H hD p⟩
end
theorem ix_ltK {X : Cx} {K : PySem.W.Frag} (h : X.K = K) : IxR X (rIxLT K) := by
  subst h
  exact ix_lt
theorem cut_hi (xs : List V) (j : Nat) : cutV xs none (some (j : Int)) = xs.take j := by
  unfold cutV
  rw [HT.sIx_none, HT.sIx_nat]
  show (xs.drop 0).take (min j xs.length - 0) = _
  rw [List.drop_zero, Nat.sub_zero]
  by_cases h : j ≤ xs.length
  · rw [Nat.min_eq_left h]
  · rw [Nat.min_eq_right (by omega), List.take_of_length_le (Nat.le_refl _), List.take_of_length_le (by omega)]
theorem ixN_nat' {n k : Nat} (h : k < n) : ixN n (k : Int) = some k := by
  unfold ixN
  rw [if_pos (by omega), if_pos (by omega), Int.toNat_natCast]
theorem op_inK {X : Cx} {K : PySem.W.Frag} (h : X.K = K) : OpR X (compareOp .In) (rIn K false) := by
  subst h
  exact op_in_seq
section
variable {K : PySem.W.Frag} {g : TG} {tt : TT} {te : TE} {vs : List Nat} {σ : L2.St} {H : Hp}
theorem lc_R2 {Q : VK} {i0 j0 : Int} (Pv : Addr → Nat → Hp → Prop) (b1 : -(2 ^ 62) ≤ i0) (b2 : i0 < 2 ^ 62) (b3 : -(2 ^ 62) ≤ j0) (b4 : j0 < 2 ^ 62) (h0 : ∀ D, H D = none → Pv D 0 (upd H D (.lst [])))
    (hs : ∀ D i H1, H D = none → i < (j0 - i0).toNat → Pv D i H1 → g (.int (i0 + (i : Nat))) (wipe σ vs) H1 fun σ2 H2 => wipe σ2 vs = wipe σ vs ∧ tt σ2 H2 fun b H3 => if b = true then te σ2 H3 fun y H4 => LcE D (Pv D (i + 1)) y H4 else Pv D (i + 1) H3)
    (hd : ∀ D H1, H D = none → Pv D (j0 - i0).toNat H1 → Q (.ref D) H1) :
    ItR2 (fun J H1 => LcB J g tt te vs σ Q H1) [.int i0, .int j0] H :=
  ⟨i0, j0, rfl, ⟨b1, b2, b3, b4⟩, fun D hD => lc_range (Qd := fun H1 => Q (.ref D) H1) (Pv D) (h0 D hD) (fun i H1 hi p => hs D i H1 hD hi p) (fun H1 p => hd D H1 hD p)⟩
end
end U

/-! U10: tuples as targets of comprehensions (own work). -/
namespace U
open PySem PySem.Spec PyProof.Rows L2
theorem pg_tupK {X : Cx} {K : PySem.W.Frag} {es : List Expr} {k : Nat} {t : TGs} {n : Nat} {pos : Pos} (hK : X.K = K) (hc : X.calm = true) (h : PGs X es t)
    (hn : (assignEach es X.env).length = n := by rfl) (hst : (assignEach es X.env).findIdx? (·.1) = none := by rfl) : PG X (.Tuple es k pos) (gTup K n t) := by
  subst hK
  exact pg_tup hc h hn hst
theorem pe_slice3K {X : Cx} {K : PySem.W.Frag} {e es : Expr} {lo hi : Option Expr} {te : TE} {tl th tt : TO} {p2 pos : Pos} (hK : X.K = K) (he : PE X e te) (hl : PO X lo tl) (hu : PO X hi th) (hst : PO X (some es) tt) : PE X (.Subscript e (.Slice lo hi (some es) p2) pos) (tSl3 K te tl th tt) := by
  subst hK
  exact pe_slice3 he hl hu hst
section
variable {K : PySem.W.Frag} {σ : L2.St} {H : Hp} {Q : VK} {te : TE} {tl th tt : TO} {a : Addr} {xs : List V}
def Sl3E (K : PySem.W.Frag) (Q : VK) (x : V) (st : Option Int) (H4 : Hp) : Prop := ∃ a xs, x = .ref a ∧ SqL K H4 a xs ∧ st ≠ some 0 ∧ ∀ ys p, ys.length ≤ xs.length → (∀ y ∈ ys, y ∈ xs) → H4 p = none → Q (.ref p) (upd H4 p (.lst ys))
theorem w_sl3 (h : te σ H fun x H1 => tl σ H1 fun _ H2 => th σ H2 fun _ H3 => tt σ H3 fun st H4 => Sl3E K Q x st H4) : tSl3 K te tl th tt σ H Q := h
theorem w_sl3E {st : Int} (ha : SqL K H a xs) (h0 : st ≠ 0) (h : ∀ ys p, ys.length ≤ xs.length → (∀ y ∈ ys, y ∈ xs) → H p = none → Q (.ref p) (upd H p (.lst ys))) : Sl3E K Q (.ref a) (some st) H := ⟨a, xs, rfl, ha, fun e => h0 (Option.some.inj e), h⟩
end
end U

/-! U11: methods that take what is given in a tuple, def m(self, *row) (own work). -/
namespace U
open PySem PySem.Spec PyProof.Rows L2
/-- a method m(self, *row) that may be called: its promise speaks of self and of the new tuple -/
structure VaOk (P : Program) (w : World) (K : PySem.W.Frag) (mg : Str → Option Value) (base : Heap) (CX : CXT) (k : Nat) (f : Addr) (sp : Sp) : Prop where
  run : ∀ (A : Around) (outer : List Env) (s : Shared) (H1 : Hp) (u0 : Value) (us : List Value) (vs : List V) (Q : VK) (E : XK), Room k A → K.In s.heap → us.length ≤ sizeLine →
    Env0 P w K mg base A outer { s with heap := s.heap.push { cls := .type "tuple", data := .seq us.toArray } } H1 → Vals vs [u0, .ref s.heap.objs.size] → sp vs H1 Q E →
    codeAny (model P w) A (.call (.ref f) ⟨u0 :: us, []⟩) (CR CX outer P w H1 { s with heap := s.heap.push { cls := .type "tuple", data := .seq us.toArray } } Q E) s
section
variable {P : Program} {w : World} {K : PySem.W.Frag} {mg : Str → Option Value} {base : Heap} {CX : CXT} {k : Nat} {f : Addr} {x qual : Str} {params : Arguments} {body : List Stmt} {scope : Scope} {N ps : List Str} {sp : Sp}
theorem va_of {dV kV doc pm cdv ct oc : Value} {an od : Option Addr} {osl : Array (Option Value)} (lk : K.lookup f = some ⟨oc, od, .func (PySem.W.fnOf x qual params body scope dV kV doc pm an cdv ct), osl⟩) (hcd : PySem.W.codeIn K cdv qual = true) (S : FnScope N ps scope)
    (h2 : ps.length = 2) (bd : ∀ (u0 : Value) (us : List Value), bindArgs (PySem.W.fnOf x qual params body scope dV kV doc pm an cdv ct) ⟨u0 :: us, []⟩ = newTuple us >>= fun t => pure (ps.zip [u0, t]))
    (hbody : ∀ (A : Around) (outer : List Env) (s : Shared) (H : Hp) (vs : List V) (Q : VK) (E : XK), Room k (A.deeper (envOfC qual scope s.heap.objs.size f cdv)) → sp vs H Q E →
      ∃ t, PSs (cxOf CX P w K mg base N qual scope f cdv A outer s H E) body t ∧ t { nx := fun _ H' => Q .non H', rt := Q } (start N vs) H) : VaOk P w K mg base CX (k + 1) f sp := by
  refine ⟨fun A outer s H1 u0 us vs Q E hr KX hsz e0 r hsp => ?_⟩
  have lim := e0.mod.nolimit.keeps fun b o e => (e0.bs b o e).1
  have hkind : ∀ y ∈ ps.zip [u0, Value.ref s.heap.objs.size], scope.names.lookup y.1 = some .local ∨ (scope.names.lookup y.1 = some .cell ∧ ((cellsFrom ((s.heap.push { cls := .type "tuple", data := .seq us.toArray }).objs.size + 1) scope.names []).lookup y.1).isSome = true) := by
    rintro ⟨n, v⟩ hy
    refine (S.par n (List.of_mem_zip hy).1).imp id fun q => ⟨q, ?_⟩
    exact PySem.W.cellsFrom_some _ _ _ (.inl q)
  refine codeAny_call_function hr.depth (KX _ _ lk) rfl S.co S.gen rfl (PySem.W.codeRec_of KX hcd) ?_
  rw [bd]
  refine wpAny_bind (wpAny_newTuple (wpAny_pure ?_) hsz)
  refine wpAny_newFunctionEnv_cells S.kind hkind fun env he s1 ic => ?_
  subst he
  refine ⟨lim.keeps ic.toInCall.keep, codeAny_func ?_⟩
  obtain ⟨t, ht, hq⟩ := hbody A outer { s with heap := s.heap.push { cls := .type "tuple", data := .seq us.toArray } } H1 vs Q E (hr.deeper _) hsp
  have hl : vs.length = ps.length := by rw [r.length, h2]; rfl
  have I := inv_start (CX := CX) (E := E) S hr.hd e0 hl r ic
  refine wpAny_mono (ht.run [] s1 (start N vs) H1 _ I hq) (fun fl s' hs => ?_) fun e s' hs => hs
  cases fl with
  | ret u =>
    obtain ⟨v, σ', H', J, rv, q⟩ := hs
    exact ⟨v, H', J.os, J.bare, J.base, J.hok, rv, q⟩
  | next =>
    obtain ⟨σ', H', J, q⟩ := hs
    exact ⟨.non, H', J.os, J.bare, J.base, J.hok, rfl, q⟩
  | brk =>
    obtain ⟨_, _, _, q⟩ := hs
    cases q
  | cont =>
    obtain ⟨_, _, _, q⟩ := hs
    cases q
end
/-- such a method, as its class holds it -/
structure CaV (P : Program) (w : World) (K : PySem.W.Frag) (mg : Str → Option Value) (base : Heap) (CX : CXT) (k : Nat) (C : Addr) (m : Str) (sp : Sp) : Prop where
  ex : ∃ f, VaOk P w K mg base CX k f sp ∧ Meth K C m f
section
variable {P : Program} {w : World} {K : PySem.W.Frag} {mg : Str → Option Value} {base : Heap} {c m q : Str} {C : Addr} {st : Stmt} {N ps : List Str} {k : Nat} {sp : Sp}
theorem DfM.caV (D : DfM K mg c C m q st) (S : FnScope N ps (defScope st)) (h2 : ps.length = 2)
    (bd : ∀ (kV doc pm : Value) (an : Option Addr) (cdv ct : Value) (u0 : Value) (us : List Value), bindArgs (PySem.W.fnOf m q (defArgs st) (defBody st) (defScope st) .none kV doc pm an cdv ct) ⟨u0 :: us, []⟩ = newTuple us >>= fun t => pure (ps.zip [u0, t]))
    (hbody : ∀ (f : Addr) (cdv : Value) (A : Around) (outer : List Env) (s : Shared) (H : Hp) (vs : List V) (Q : VK) (E : XK), Room k (A.deeper (envOfC q (defScope st) s.heap.objs.size f cdv)) → sp vs H Q E →
      ∃ t, PSs (cxOf CX0 P w K mg base N q (defScope st) f cdv A outer s H E).nox (defBody st) t ∧ t { nx := fun _ H' => Q .non H', rt := Q } (start N vs) H) : CaV P w K mg base CX0 (k + 1) C m sp := by
  obtain ⟨f, fd, F, hm⟩ := D.ex
  obtain ⟨oc, od, dV, kV, doc, pm, an, cdv, ct, osl, rfl, lk, hcd, hD, _⟩ := F.ex
  rcases hD with ⟨_, rfl⟩ | ⟨e, _⟩
  · refine ⟨f, va_of lk hcd S h2 (bd kV doc pm an cdv ct) fun A outer s H vs Q E hr h => ?_, hm⟩
    obtain ⟨t, h3, h4⟩ := hbody f cdv A outer s H vs Q E hr h
    exact ⟨t, h3.nox, h4⟩
  · exact absurd rfl e
end
def tMeV (C : Addr) (m : Str) (sp : Sp) (E : XK) (ta : TE) (t : TA) : TE := fun σ H Q => ta σ H fun x H1 => ∃ a dx fs, x = .ref a ∧ H1 a = some (.ins C dx fs) ∧ fs.lookup m = none ∧
  t σ H1 fun vs H2 => vs.length ≤ 1000 ∧ ∀ T, H2 T = none → sp [x, .ref T] (upd H2 T (.tup vs)) Q E
section
variable {X : Cx} {CX : CXT} {k j : Nat} {m : Str} {C : Addr} {sp : Sp} {E : XK} {pos apos : Pos} {o e : Expr} {es : List Expr} {ta : TE} {t : TA}
theorem pe_meV {pl : Sem Bool} (he : PE X o ta) (c : Cls X.K C) (cv : CaV X.prog X.w X.K X.mg X.base CX k C m sp) (hr : Room j X.A) (hk : k ≤ j) (hx : Passes CX X E) (ha : PA X (e :: es) t)
    (hst : starEach (e :: es) X.env = (false, eval e X.env) :: starEach es X.env := by rfl) (hpl : (backTo pos (starEach es X.env)).any (·.1) = false := by rfl)
    (ht : eval (.Call (.Attribute o m apos) (e :: es) [] pos) X.env = ((eval o X.env) >>= fun ov => standAt apos.atName >>= fun _ => holding [ov] (getMethod ov m pl) >>= fun g => callWith pos g.1 g.2 (backTo pos (starEach (e :: es) X.env)) (backToKw pos (keywordEach [] X.env))) := by rfl) :
    PE X (.Call (.Attribute o m apos) (e :: es) [] pos) (tMeV C m sp E ta t) := by
  obtain ⟨f, F, hm⟩ := cv.ex
  refine ⟨fun pins s σ H Q I h => PySem.W.methodCall_KW (pl := pl) (thn (he.run pins s σ H _ I h) fun u s1 ⟨x, H1, I1, rx, a, dx, fs, ex, ea, l, q⟩ => ?_) ht⟩
  subst ex
  obtain rfl : u = Value.ref a := rx
  refine getmeth_ok I1 ea c hm l (PySem.W.callWith_K (first := [.ref a]) (h₀ := X.base) I.ok.mod.kin hm.kp (thn (ha.run pos pins s1 σ H1 _ I1 q) fun us s2 ⟨vs, H2, I2, r, hl, q2⟩ => ⟨I2.kIn, ?_⟩) hst hpl)
  have hsz : us.length ≤ sizeLine := by rw [← r.length]; exact sz (by omega)
  have hf : H2 s2.heap.objs.size = none := I2.hok.fresh (Nat.le_refl _)
  have I3 : Inv X pins σ (upd H2 s2.heap.objs.size (.tup vs)) { s2 with heap := s2.heap.push { cls := .type "tuple", data := .seq us.toArray } } :=
    I2.laid (t' := s2.toks) (fun b u e => Heap.get?_push_of_some _ e) (Nat.le_refl _) ⟨by rw [r.length]; exact hsz, us, r, ⟨_, Heap.get?_push_size _ rfl, rfl, _, rfl⟩⟩
  refine wpAny_call (codeAny_mono (F.run X.A X.stack s2 _ (.ref a) us [.ref a, .ref s2.heap.objs.size] Q E (hr.mono hk) I2.kIn hsz I3.env0 (.cons rfl (.cons rfl .nil)) (q2 _ hf)) fun res s' hq => ?_)
  cases res with
  | error e => exact hx pins σ _ _ e s' I3 hq
  | ok fl =>
    cases fl with
    | ret u => exact I3.after hq
    | next => cases hq
    | brk => cases hq
    | cont => cases hq
end
section
variable {K : PySem.W.Frag} {σ : L2.St} {H : Hp} {Q : VK} {te ta : TE} {t : TA} {m : Str} {a C dx : Addr} {fs : List (Str × V)} {sp : Sp} {E : XK} {x : V} {vs : List V}
def MeV (sp : Sp) (x : V) (Q : VK) (E : XK) (vs : List V) (H2 : Hp) : Prop := vs.length ≤ 1000 ∧ ∀ T, H2 T = none → sp [x, .ref T] (upd H2 T (.tup vs)) Q E
theorem w_meV (h : ta σ H fun x H1 => ∃ a dx fs, x = .ref a ∧ H1 a = some (.ins C dx fs) ∧ fs.lookup m = none ∧ t σ H1 fun vs H2 => MeV sp x Q E vs H2) : tMeV C m sp E ta t σ H Q := h
theorem w_mV (hl : Nat.ble vs.length 1000 = true) (h : ∀ T, H T = none → sp [x, .ref T] (upd H T (.tup vs)) Q E) : MeV sp x Q E vs H := ⟨ble hl, h⟩
end
section
variable {X : Cx} {CX : CXT} {k j : Nat} {x : Str} {C : Addr} {sp : Sp} {E : XK} {p pos : Pos}
theorem pe_mk0 (c : CaI X.prog X.w X.K X.mg X.base CX k x C sp) (hr : Room j X.A) (hk : k + 1 ≤ j) (hg : Gl X x) (hx : Passes CX X E) (hdb : (x == ("__debug__" : Str)) = false := by decide) : PE X (.Call (.Name x p) [] [] pos) (tMake C sp [] E tNil) := by
  obtain ⟨f, fd, ps, F, M, hb, hm⟩ := c.ex
  exact pe_make0 (dvs := []) M F (hr.mono hk) hg hm hb .nil hx hdb
end
end U

/-! U12: for over zip of two tuples (own work). -/
namespace U
open PySem PySem.Spec PyProof.Rows L2 RZ
def ItZ (K : PySem.W.Frag) (R : It → Hp → Prop) (vs : List V) (H1 : Hp) : Prop :=
  ∃ a b xs ys, vs = [.ref a, .ref b] ∧ ((SqL K H1 a xs ∧ SqL K H1 b ys ∧ R (Itz K a b) H1) ∨ (SqT K H1 a xs ∧ SqT K H1 b ys ∧ R (ItzT K a b) H1))
section
variable {K : PySem.W.Frag} {σ : L2.St} {H : Hp} {ta : TA} {R : It → Hp → Prop} {a b : Addr} {xs ys : List V} {g : TG} {tb : TS} {nx : L2.St → Hp → Prop} {rt : VK}
theorem w_iZ (h : ta σ H fun vs H1 => ItZ K R vs H1) : iZipA K ta σ H R := h
theorem for_Z (Pv : Nat → L2.St → Hp → Prop) (hS : SqT K H a xs) (hT : SqT K H b ys) (hl : xs.length = ys.length) (h0 : Pv 0 σ H) (hq : ∀ i σ H, Pv i σ H → SqT K H a xs ∧ SqT K H b ys)
    (hs : ∀ (i : Nat) (x y : V) (T : Addr) (σ : L2.St) (H : Hp), xs[i]? = some x → ys[i]? = some y → Pv i σ H → H T = none → g (.ref T) σ (upd H T (.tup [x, y])) fun σ2 H2 => tb ⟨Pv (i + 1), rt, nx, Pv (i + 1)⟩ σ2 H2) (hd : ∀ σ H, Pv xs.length σ H → nx σ H) :
    ItZ K (fun J H1 => ForB J g tb nx rt σ H1) [.ref a, .ref b] H :=
  ⟨a, b, xs, ys, rfl, .inr ⟨hS, hT, for_zipT (D := ⟨nx, rt, nx, nx⟩) hl Pv h0 hq hs hd⟩⟩
end
end U

/-! U13: what the end tells, by membership; tables that hold tuples of texts (own work). -/
namespace U
open PySem PySem.Spec PyProof.Rows L2 He
section
variable {ws : List Wd} {ts : List Tab} {ex : PySem.W.Frag → Bool} {w : World} {K : PySem.W.Frag} {h : Heap} {mg : Str → Option Value}
theorem df_m (X : K.In h) (G : h.Ns mainGlobals mg) (c : SaysU (faU ws) (fnU ws) ts ex w K) {x : Str} {st : Stmt} (m : Wd.df x st ∈ ws) : Df K mg x st := by
  obtain ⟨i, e⟩ := List.getElem?_of_mem m
  exact df_u X G c i e
theorem ci_m (c : SaysU (faU ws) (fnU ws) ts ex w K) {x : Str} {fs : List Str} (m : Wd.cls x fs ∈ ws) : CI K (ga K x) fs := by
  obtain ⟨i, e⟩ := List.getElem?_of_mem m
  exact ci_u c i e
theorem me_m (X : K.In h) (G : h.Ns mainGlobals mg) (c : SaysU (faU ws) (fnU ws) ts ex w K) {x m q : Str} {st : Stmt} (hm : Wd.me x m q st ∈ ws) : DfM K mg x (ga K x) m q st := by
  obtain ⟨i, e⟩ := List.getElem?_of_mem hm
  exact me_u X G c i e
theorem ini_m (X : K.In h) (G : h.Ns mainGlobals mg) (c : SaysU (faU ws) (fnU ws) ts ex w K) {x q : Str} {st : Stmt} (hm : Wd.ini x q st ∈ ws) : DfI K mg x (ga K x) q st := by
  obtain ⟨i, e⟩ := List.getElem?_of_mem hm
  exact ini_u X G c i e
theorem num_m (X : K.In h) (G : h.Ns mainGlobals mg) (c : SaysU (faU ws) (fnU ws) ts ex w K) {x : Str} {n : Int} (m : Wd.num x n ∈ ws) : ∃ t, mg x = some (.int n t) := by
  obtain ⟨i, e⟩ := List.getElem?_of_mem m
  exact num_u X G c i e
theorem any_m (X : K.In h) (G : h.Ns mainGlobals mg) (c : SaysU (faU ws) (fnU ws) ts ex w K) {x : Str} (m : Wd.any x ∈ ws) : mg x = some (.ref (ga K x)) := by
  obtain ⟨i, e⟩ := List.getElem?_of_mem m
  exact any_u X G c i e
theorem gl_m (X : K.In h) (G : h.Ns mainGlobals mg) (c : SaysU (faU ws) (fnU ws) ts ex w K) {x : Str} {st : Stmt} (m : Wd.df x st ∈ ws) : mg x = some (.ref (ga K x)) := glo_ok X G (c.fact m (f := .glo x) List.mem_cons_self)
end
/-- a tuple of texts that was written -/
def tupB (K : PySem.W.Frag) (b : Addr) (xs : List Str) : Bool := match K.lookup b with
  | some ⟨.type c, _, .seq its _, _⟩ => decide (c = "tuple") && (decide (its.size ≤ 100) && relAll (xs.map V.str) its.toList)
  | _ => false
theorem tupB_ok {K : PySem.W.Frag} {b : Addr} {xs : List Str} (h : tupB K b xs = true) (H : Hp) : SqT K H b (xs.map V.str) := by
  unfold tupB at h
  split at h
  · rename_i c d its n sl q
    obtain ⟨h1, h2⟩ := ba h
    obtain ⟨h3, h4⟩ := ba h2
    have e := of_decide_eq_true h1
    subst e
    exact .inr ⟨_, its, n, q, rfl, rfl, Nat.le_trans (of_decide_eq_true h3) (by decide), relAll_ok h4⟩
  · cases h
def tabB (K : PySem.W.Frag) (T : Addr) (rows : List (Str × List Str)) : Bool := rows.all fun q => match PySem.W.nsIn K T q.1 with
  | some (some (.ref b)) => tupB K b q.2
  | _ => false
theorem tabB_ok {K : PySem.W.Frag} {T : Addr} {rows : List (Str × List Str)} (h : tabB K T rows = true) {q : Str × List Str} (hq : q ∈ rows) : ∃ b, PySem.W.nsIn K T q.1 = some (some (.ref b)) ∧ ∀ H, SqT K H b (q.2.map V.str) := by
  have h2 := List.all_eq_true.mp h q hq
  split at h2
  · rename_i b e
    exact ⟨b, e, fun H => tupB_ok h2 H⟩
  · cases h2
theorem tabT_u {ws : List Wd} {ts : List Tab} {ex : PySem.W.Frag → Bool} {w : World} {K : PySem.W.Frag} (c : SaysU (faU ws) (fnU ws) ts ex w K) (i : Nat) {t : Tab} (e : ts[i]? = some t) {rows : List (Str × List Str)} (hv : tabB K (t.1 K) rows = true) {q : Str × List Str} (hq : q ∈ rows) :
    ∃ b, KDct K w (t.1 K) q.1 (.ref b) ∧ ∀ H, SqT K H b (q.2.map V.str) := by
  obtain ⟨es, n, hk⟩ := c.t.tab i e
  obtain ⟨b, hb, hs⟩ := tabB_ok hv hq
  obtain ⟨k1, k2, k3⟩ := hk
  exact ⟨b, ⟨es, n, .ref b, k1, k2, hb, rfl⟩, hs⟩
end U

/-! U14: comprehensions over tuples, slices of tuples (own work). -/
namespace U
open PySem PySem.Spec PyProof.Rows L2
section
variable {K : PySem.W.Frag} {g : TG} {tt : TT} {te : TE} {vs : List Nat} {σ : L2.St} {H : Hp} {a : Addr} {xs : List V} {Q : VK}
theorem lc_T (Pv : Addr → Nat → Hp → Prop) (hS : SqT K H a xs) (h0 : ∀ D, H D = none → Pv D 0 (upd H D (.lst []))) (hl : ∀ D i H1, H D = none → i ≤ xs.length → Pv D i H1 → SqT K H1 a xs)
    (hs : ∀ D i x H1, H D = none → xs[i]? = some x → Pv D i H1 → g x (wipe σ vs) H1 fun σ2 H2 => wipe σ2 vs = wipe σ vs ∧ tt σ2 H2 fun b H3 => if b = true then te σ2 H3 fun y H4 => LcE D (Pv D (i + 1)) y H4 else Pv D (i + 1) H3)
    (hd : ∀ D H1, H D = none → Pv D xs.length H1 → Q (.ref D) H1) :
    ItT K (fun J H1 => LcB J g tt te vs σ Q H1) (.ref a) H :=
  ⟨a, rfl, ⟨xs, hS⟩, fun D hD => lc_tup (Qd := fun H1 => Q (.ref D) H1) (Pv D) (h0 D hD) (fun i H1 hi p => hl D i H1 hD hi p) (fun i x H1 hx p => hs D i x H1 hD hx p) (fun H1 p => hd D H1 hD p)⟩
theorem lc_noneT (hS : SqT K H a xs) (turn : ∀ (i : Nat) (x : V) (D : Addr), xs[i]? = some x → H D = none → g x (wipe σ vs) (upd H D (.lst [])) fun σ2 H2 => wipe σ2 vs = wipe σ vs ∧ tt σ2 H2 fun b H3 => if b = true then te σ2 H3 fun y H4 => LcE D (fun H1 => H1 = upd H D (.lst [])) y H4 else H3 = upd H D (.lst []))
    (done : ∀ D, H D = none → Q (.ref D) (upd H D (.lst []))) : ItT K (fun J H1 => LcB J g tt te vs σ Q H1) (.ref a) H :=
  lc_T (fun D i H1 => H1 = upd H D (.lst [])) hS (fun D _ => rfl) (fun D i H1 n _ p => by rw [p]; exact Same.seqT (same_new n _) hS) (fun D i x H1 n hx p => by subst p; exact turn i x D hx n) (fun D H1 n p => by subst p; exact done D n)
theorem w_slTc {lo hi : Option Int} (ha : SqT K H a xs) (n : ¬ (HT.sIx xs.length 0 lo = 0 ∧ HT.sIx xs.length xs.length hi = xs.length)) (h : ∀ p, H p = none → Q (.ref p) (upd H p (.tup (cutV xs lo hi)))) : rSlT K (.ref a) lo hi H Q := ⟨a, xs, rfl, ha, n, h⟩
end
theorem pi_tupK {X : Cx} {K : PySem.W.Frag} {l : Expr} {tl : TE} (hK : X.K = K) (hl : PE X l tl) {tg : Expr} : PI X tg l (iTup K tl) := by
  subst hK
  exact pi_tup hl
theorem call_isiNK {X : Cx} {K : PySem.W.Frag} (h : X.K = K) : CallR X (.builtin "isinstance") (rIsiN K) := by
  subst h
  exact call_isiN
end U

/-! U15: the run's equation in three parts, each one by itself in the kernel's memory (own work). -/
namespace U
open PySem PySem.W PySem.Calls HandSHeadRun
/-- what is asked of the run, part by part -/
def rLooks (r : PySem.W.OpenRow) (M : Nat) (w : World) : Prop := ∀ os : OsState, (endF (stepQ (denQ tabQ) r.prog w) M r.prog w os).map (fun s => looksF r.prog (boot_heap w.params) s.abs) = some true
def rSeen (r : PySem.W.OpenRow) (q : Program) (M : Nat) (loose : List Str) (w : World) : Prop := ∀ os : OsState, (endF (stepQ (denQ tabQ) r.prog w) M r.prog w os).map (fun s => HandSHeadRun.seenQ q loose (importedModules r.prog.main.body) (fun s => xlAt q [] s && recOk r.toRowW.records s) s.abs) = some (PySem.W.openGood q loose)
def rObs (r : PySem.W.OpenRow) (M : Nat) {A : Type} (ob : PySem.W.SharedT → A) (v : World → A) (w : World) : Prop := ∀ os : OsState, (endF (stepQ (denQ tabQ) r.prog w) M r.prog w os).map ob = some (v w)
theorem run3 {r : PySem.W.OpenRow} {q : Program} {H : PySem.W.Hook} {ob : PySem.W.SharedT → H.α} {M : Nat} {loose : List Str} {w : World} (h1 : rLooks r M w) (h2 : rSeen r q M loose w) (h3 : rObs r M ob H.val w) : RunEq r q H ob M loose w := fun os => by
  have e1 := h1 os
  have e2 := h2 os
  have e3 := h3 os
  cases e : endF (stepQ (denQ tabQ) r.prog w) M r.prog w os with
  | none =>
    rw [e] at e1
    cases e1
  | some s =>
    rw [e] at e1 e2 e3
    have a1 := Option.some.inj e1
    have a2 := Option.some.inj e2
    have a3 := Option.some.inj e3
    exact congrArg some (Prod.ext a1 (Prod.ext a2 a3))
/-- two observations at once -/
theorem obs2 {r : PySem.W.OpenRow} {M : Nat} {A B : Type} {f : PySem.W.SharedT → A} {g : PySem.W.SharedT → B} {v : World → A} {u : World → B} {w : World} (h1 : rObs r M f v w) (h2 : rObs r M g u w) : rObs r M (fun s => (f s, g s)) (fun w => (v w, u w)) w := fun os => by
  have e1 := h1 os
  have e2 := h2 os
  cases e : endF (stepQ (denQ tabQ) r.prog w) M r.prog w os with
  | none =>
    rw [e] at e1
    cases e1
  | some s =>
    rw [e] at e1 e2
    exact congrArg some (Prod.ext (Option.some.inj e1) (Option.some.inj e2))
end U
namespace U
open PySem PySem.W PySem.Calls HandSHeadRun He
theorem obsU_app {fa1 fa2 : List Fa} {fn1 fn2 : List DefD} {ts1 ts2 : List Tab} {ex1 ex2 : PySem.W.Frag → Bool} {w : World} {K : PySem.W.Frag} (h1 : obsU fa1 fn1 ts1 ex1 K = (valT fn1 ts1 w, true)) (h2 : obsU fa2 fn2 ts2 ex2 K = (valT fn2 ts2 w, true)) :
    obsU (fa1 ++ fa2) (fn1 ++ fn2) (ts1 ++ ts2) (fun K => ex1 K && ex2 K) K = (valT (fn1 ++ fn2) (ts1 ++ ts2) w, true) := by
  have a1 : ((fa1.all fun f => Fa.ok K f) && fn1.all fun d => DefD.ok K d) = true := congrArg (fun z : AlU => z.1.1.1) h1
  have a2 : ((fa2.all fun f => Fa.ok K f) && fn2.all fun d => DefD.ok K d) = true := congrArg (fun z : AlU => z.1.1.1) h2
  have b1 : fn1.map (fun d => fnW K d.at_) = fn1.map DefD.val := congrArg (fun z : AlU => z.1.1.2) h1
  have b2 : fn2.map (fun d => fnW K d.at_) = fn2.map DefD.val := congrArg (fun z : AlU => z.1.1.2) h2
  have c1 : ts1.map (fun t => dicW K (t.fst K)) = ts1.map (fun t => some (keysIn w.params t.snd)) := congrArg (fun z : AlU => z.1.2) h1
  have c2 : ts2.map (fun t => dicW K (t.fst K)) = ts2.map (fun t => some (keysIn w.params t.snd)) := congrArg (fun z : AlU => z.1.2) h2
  have d1 : ex1 K = true := congrArg (fun z : AlU => z.2) h1
  have d2 : ex2 K = true := congrArg (fun z : AlU => z.2) h2
  obtain ⟨p1, q1⟩ := Bool.and_eq_true_iff.mp a1
  obtain ⟨p2, q2⟩ := Bool.and_eq_true_iff.mp a2
  unfold obsU obsT obsD valT valD
  rw [List.all_append, List.all_append, p1, p2, q1, q2, List.map_append, List.map_append, List.map_append, List.map_append, b1, b2, c1, c2]
  have d : (fun K => ex1 K && ex2 K) K = true := by show (ex1 K && ex2 K) = true; rw [d1, d2]; rfl
  rw [d]
  rfl
/-- a part of what is observed -/
abbrev obP (fa : List Fa) (fn : List DefD) (ts : List Tab) (ex : PySem.W.Frag → Bool) (s : PySem.W.SharedT) : AlU := obsUG 4 fa fn ts ex (getT s)
theorem rObs_app {r : PySem.W.OpenRow} {M : Nat} {fa1 fa2 : List Fa} {fn1 fn2 : List DefD} {ts1 ts2 : List Tab} {ex1 ex2 : PySem.W.Frag → Bool} {w : World} (h1 : rObs r M (obP fa1 fn1 ts1 ex1) (fun w => (valT fn1 ts1 w, true)) w) (h2 : rObs r M (obP fa2 fn2 ts2 ex2) (fun w => (valT fn2 ts2 w, true)) w) :
    rObs r M (obP (fa1 ++ fa2) (fn1 ++ fn2) (ts1 ++ ts2) (fun K => ex1 K && ex2 K)) (fun w => (valT (fn1 ++ fn2) (ts1 ++ ts2) w, true)) w := fun os => by
  have e1 := h1 os
  have e2 := h2 os
  cases e : endF (stepQ (denQ tabQ) r.prog w) M r.prog w os with
  | none =>
    rw [e] at e1
    cases e1
  | some s =>
    rw [e] at e1 e2
    exact congrArg some (obsU_app (Option.some.inj e1) (Option.some.inj e2))
def faW (ws : List Wd) : List Fa := ws.flatMap Wd.fa
theorem faU_app (a b : List Wd) : faU (a ++ b) = faU a ++ faW b := by unfold faU faW; rw [List.flatMap_append, List.append_assoc]
theorem faW_app (a b : List Wd) : faW (a ++ b) = faW a ++ faW b := List.flatMap_append
theorem fnU_app (a b : List Wd) : fnU (a ++ b) = fnU a ++ fnU b := List.flatMap_append
end U

/-! U16: the end's hook over places that are told beforehand, not looked up: the kernel needs less room (own work). -/
namespace U
open PySem PySem.W PySem.Calls HandSHeadRun He L2
def obsLG (as : List Addr) (fa : List Fa) (fn : List DefD) (ts : List Tab) (ex : PySem.W.Frag → Bool) (g : Addr → Option Obj) : AlU := obsU fa fn ts ex (frG g as)
def hookL (as : List Addr) (fa : List Fa) (fn : List DefD) (ts : List Tab) (ex : PySem.W.Frag → Bool) : PySem.W.Hook where
  α := AlU
  obs := fun s => obsLG as fa fn ts ex s.heap.get?
  val := fun w => (valT fn ts w, true)
  says := fun w h => ∃ K : PySem.W.Frag, K.In h ∧ SaysU fa fn ts ex w K
  of := fun _ _ e => ⟨_, frG_in, e⟩
  keeps := fun _ _ _ ⟨K, hK, c⟩ k => ⟨K, PySem.W.Frag.In.keeps hK k, c⟩
theorem obsL_eq {as : List Addr} {fa : List Fa} {fn : List DefD} {ts : List Tab} {ex : PySem.W.Frag → Bool} {g : Addr → Option Obj} {s : Shared} (h : ∀ a, g a = s.heap.get? a) : obsLG as fa fn ts ex g = (hookL as fa fn ts ex).obs s := by
  have e : g = s.heap.get? := funext h
  rw [e] <;> rfl
end U

/-! MM: the machine as a function of plain Lean (own work). -/
namespace MM
open PySem L2 U
inductive Op4 where
  | add | sub | less | share
  deriving DecidableEq
@[reducible] def Op4.word : Op4 → Str
  | .add => "add"
  | .sub => "sub"
  | .less => "less"
  | .share => "share"
def reck : Op4 → Int → Int → Option Int
  | .add, a, b => some (a + b)
  | .sub, a, b => some (a - b)
  | .less, a, b => some (if a < b then 1 else 0)
  | .share, a, b => if b = 0 then none else some (a.fdiv b)
inductive Rw where
  | put (n : Int) | get (k : Int) | set (k : Int) | say | rek (o : Op4) | go (p : Int) | nought (p : Int) | on (k : Int) | turn | call (f : Int) | back | raise
  deriving DecidableEq
def Rw.enc : Rw → PyData
  | .put n => .tuple [.str "put", .int n]
  | .get n => .tuple [.str "get", .int n]
  | .set n => .tuple [.str "set", .int n]
  | .say => .tuple [.str "say"]
  | .rek o => .tuple [.str o.word]
  | .go n => .tuple [.str "go", .int n]
  | .nought n => .tuple [.str "nought", .int n]
  | .on n => .tuple [.str "on", .int n]
  | .turn => .tuple [.str "turn"]
  | .call n => .tuple [.str "call", .int n]
  | .back => .tuple [.str "back"]
  | .raise => .tuple [.str "raise"]
abbrev St3 := Int × Int × Int
def enc3 (t : St3) : PyData := .tuple [.int t.1, .int t.2.1, .int t.2.2]
structure Cd where
  rows : List Rw
  str : List St3
  begins : List Int
  boxes : Int
def Cd.enc (C : Cd) : PyData := .tuple [.list (C.rows.map Rw.enc), .list (C.str.map enc3), .list (C.begins.map .int), .int C.boxes]
theorem Rw.enc_ok (r : Rw) : r.enc.canLay0 = true ∧ r.enc.depth ≤ 1 := by
  cases r with
  | rek o => cases o <;> exact ⟨by decide +kernel, by decide +kernel⟩
  | put n => exact ⟨by simp only [Rw.enc, PyData.canLay0, PyData.canLayAll0]; decide +kernel, by simp [Rw.enc, PyData.depth, PyData.depthAll]⟩
  | get n => exact ⟨by simp only [Rw.enc, PyData.canLay0, PyData.canLayAll0]; decide +kernel, by simp [Rw.enc, PyData.depth, PyData.depthAll]⟩
  | set n => exact ⟨by simp only [Rw.enc, PyData.canLay0, PyData.canLayAll0]; decide +kernel, by simp [Rw.enc, PyData.depth, PyData.depthAll]⟩
  | go n => exact ⟨by simp only [Rw.enc, PyData.canLay0, PyData.canLayAll0]; decide +kernel, by simp [Rw.enc, PyData.depth, PyData.depthAll]⟩
  | nought n => exact ⟨by simp only [Rw.enc, PyData.canLay0, PyData.canLayAll0]; decide +kernel, by simp [Rw.enc, PyData.depth, PyData.depthAll]⟩
  | on n => exact ⟨by simp only [Rw.enc, PyData.canLay0, PyData.canLayAll0]; decide +kernel, by simp [Rw.enc, PyData.depth, PyData.depthAll]⟩
  | call n => exact ⟨by simp only [Rw.enc, PyData.canLay0, PyData.canLayAll0]; decide +kernel, by simp [Rw.enc, PyData.depth, PyData.depthAll]⟩
  | say => exact ⟨by decide +kernel, by decide +kernel⟩
  | turn => exact ⟨by decide +kernel, by decide +kernel⟩
  | back => exact ⟨by decide +kernel, by decide +kernel⟩
  | raise => exact ⟨by decide +kernel, by decide +kernel⟩
theorem rows_shaped (l : List Rw) : SeqAt.shaped (.list (l.map Rw.enc)) = true := shaped_list (n := 1) (fun d hd => by
  obtain ⟨r, _, rfl⟩ := List.mem_map.mp hd
  exact r.enc_ok) (by decide)
theorem str_shaped (l : List St3) : SeqAt.shaped (.list (l.map enc3)) = true := shaped_list (n := 1) (fun d hd => by
  obtain ⟨r, _, rfl⟩ := List.mem_map.mp hd
  exact ⟨rfl, Nat.le_refl 1⟩) (by decide)
theorem ints_shaped (l : List Int) : SeqAt.shaped (.list (l.map PyData.int)) = true := shaped_list (n := 0) (fun d hd => by
  obtain ⟨r, _, rfl⟩ := List.mem_map.mp hd
  exact ⟨rfl, Nat.le_refl 0⟩) (by decide)
structure Fr where
  place : Int
  boxes : List Int
  pile : List Int
inductive Ou where
  | answer (n : Int) | fault (n : Int) | tired
@[reducible] def Ou.word : Ou → Str
  | .answer _ => "answer"
  | .fault _ => "fault"
  | .tired => "tired"
@[reducible] def Ou.num : Ou → Int
  | .answer n => n
  | .fault n => n
  | .tired => 0
structure MS where
  turns : Int
  fs : List Fr
  said : List Int
  out : Option Ou
@[reducible] def optV : Option Int → V
  | none => .non
  | some i => .int i
def outEnc (said : List Int) (o : Ou) : PyData := .tuple [.list (said.map .int), .str o.word, .int o.num]
/-- the goal of the first stretch that holds a place -/
def goal (place : Int) : List St3 → Option Int
  | [] => none
  | t :: r => if t.1 ≤ place ∧ place < t.2.1 then some t.2.2 else goal place r
theorem goal_cons {place : Int} {t : St3} {r : List St3} : goal place (t :: r) = if t.1 ≤ place ∧ place < t.2.1 then some t.2.2 else goal place r := rfl
/-- a fault: the functions that stand then, and the outcome, if any -/
def fault (S : List St3) (n : Int) : List Fr → List Fr × Option Ou
  | [] => ([], some (.fault n))
  | f :: r => match goal (f.place - 1) S with
    | some g => ({ f with place := g, pile := [n] } :: r, none)
    | none => fault S n r
def MS.faulted (s : MS) (S : List St3) (n : Int) : MS := { s with fs := (fault S n s.fs).1, out := (fault S n s.fs).2 }
def newFr (C : Cd) (b n : Int) : Fr := ⟨b, n :: List.replicate (C.boxes - 1).toNat 0, []⟩
/-- a function is entered -/
def enter (C : Cd) (f n : Int) (s : MS) : Option MS :=
  if s.fs.length = 8 then some (s.faulted C.str 102)
  else match atI C.begins f with
    | some b => some { s with fs := newFr C b n :: s.fs }
    | none => none
/-- a row is done; the place of the uppermost function is already the next one -/
def act (C : Cd) (s : MS) : Rw → Option MS := fun r => match s.fs with
  | [] => none
  | f :: fs => match r with
    | .put n => some { s with fs := { f with pile := n :: f.pile } :: fs }
    | .get k => match atI f.boxes k with
      | some n => some { s with fs := { f with pile := n :: f.pile } :: fs }
      | none => none
    | .set k => match f.pile, ixN f.boxes.length k with
      | n :: p, some j => some { s with fs := { f with pile := p, boxes := f.boxes.set j n } :: fs }
      | _, _ => none
    | .say => match f.pile with
      | n :: p => some { s with fs := { f with pile := p } :: fs, said := s.said ++ [n] }
      | _ => none
    | .rek o => match f.pile with
      | b :: a :: p => match reck o a b with
        | some n => some { s with fs := { f with pile := n :: p } :: fs }
        | none => some ({ s with fs := { f with pile := p } :: fs }.faulted C.str 101)
      | _ => none
    | .go p => some { s with fs := { f with place := p } :: fs }
    | .nought q => match f.pile with
      | n :: p => some { s with fs := { f with pile := p, place := if n = 0 then q else f.place } :: fs }
      | _ => none
    | .on k => match atI f.boxes k with
      | some n => some { s with fs := { f with place := n } :: fs }
      | none => none
    | .turn => if s.turns < 1 then some { s with out := some .tired } else some { s with turns := s.turns - 1 }
    | .call g => match f.pile with
      | n :: p => if s.turns < 1 then some { s with fs := { f with pile := p } :: fs, out := some .tired } else enter C g n { s with fs := { f with pile := p } :: fs, turns := s.turns - 1 }
      | _ => none
    | .back => match f.pile with
      | n :: _ => match fs with
        | [] => some { s with fs := [], out := some (.answer n) }
        | g :: gs => some { s with fs := { g with pile := n :: g.pile } :: gs }
      | _ => none
    | .raise => match f.pile with
      | n :: p => some ({ s with fs := { f with pile := p } :: fs }.faulted C.str n)
      | _ => none
def step (C : Cd) (s : MS) : Option MS := match s.fs with
  | [] => none
  | f :: fs => match atI C.rows f.place with
    | some r => act C { s with fs := { f with place := f.place + 1 } :: fs } r
    | none => none
/-- n steps, each ahead of an outcome -/
def runs (C : Cd) : Nat → MS → Option MS
  | 0, s => some s
  | n + 1, s => match s.out with
    | some _ => none
    | none => (step C s).bind (runs C n)
def init (C : Cd) (number turns : Int) : Option MS := enter C 0 number ⟨turns, [], [], none⟩
/-! ### piles and what was said stay small -/
def Small (b : Nat) (s : MS) : Prop := s.said.length ≤ b ∧ ∀ f ∈ s.fs, f.pile.length ≤ b
theorem Small.mono {b c : Nat} {s : MS} (h : Small b s) (l : b ≤ c) : Small c s := ⟨Nat.le_trans h.1 l, fun f hf => Nat.le_trans (h.2 f hf) l⟩
theorem fault_small {S : List St3} {n : Int} {b : Nat} : ∀ {l : List Fr}, (∀ f ∈ l, f.pile.length ≤ b + 1) → ∀ f ∈ (fault S n l).1, f.pile.length ≤ b + 1
  | [], _, f, h => by cases h
  | g :: r, hl, f, h => by
    unfold fault at h
    split at h
    · rcases List.mem_cons.mp h with rfl | h
      · simp
      · exact hl f (List.mem_cons_of_mem _ h)
    · exact fault_small (fun f hf => hl f (List.mem_cons_of_mem _ hf)) f h
theorem faulted_small {S : List St3} {n : Int} {b : Nat} {s : MS} (h : Small (b + 1) s) : Small (b + 1) (s.faulted S n) := ⟨h.1, fun f hf => fault_small h.2 f hf⟩
theorem small_top {b : Nat} {s : MS} {f g : Fr} {fs : List Fr} (h : Small b s) (e : s.fs = f :: fs) (l : g.pile.length ≤ b + 1) {t : Int} {sd : List Int} {o : Option Ou} (ls : sd.length ≤ b + 1) : Small (b + 1) ⟨t, g :: fs, sd, o⟩ :=
  ⟨ls, fun x hx => by
    rcases List.mem_cons.mp hx with rfl | hx
    · exact l
    · exact Nat.le_succ_of_le (h.2 x (by rw [e]; exact List.mem_cons_of_mem _ hx))⟩
theorem enter_small {C : Cd} {f n : Int} {b : Nat} {s s' : MS} (h : Small (b + 1) s) (e : enter C f n s = some s') : Small (b + 1) s' := by
  unfold enter at e
  split at e
  · cases e
    exact faulted_small h
  · split at e
    · cases e
      refine ⟨h.1, fun x hx => ?_⟩
      rcases List.mem_cons.mp hx with rfl | hx
      · simp [newFr]
      · exact h.2 x hx
    · cases e
theorem act_small {C : Cd} {b : Nat} {s s' : MS} {r : Rw} (h : Small b s) (e : act C s r = some s') : Small (b + 1) s' := by
  unfold act at e
  split at e
  · cases e
  · rename_i f fs ef
    have hf : f.pile.length ≤ b := h.2 f (by rw [ef]; exact List.mem_cons_self ..)
    have ls : s.said.length ≤ b + 1 := Nat.le_succ_of_le h.1
    cases r with
    | put n => cases e; exact small_top h ef (by simpa using hf) ls
    | get k =>
      simp only at e
      split at e
      · cases e; exact small_top h ef (by simpa using hf) ls
      · cases e
    | set k =>
      simp only at e
      split at e
      · rename_i n p j ep ej
        cases e
        exact small_top h ef (by rw [ep] at hf; simp at hf ⊢; omega) ls
      · cases e
    | say =>
      simp only at e
      split at e
      · rename_i n p ep
        cases e
        exact small_top h ef (by rw [ep] at hf; simp at hf ⊢; omega) (by have := h.1; simp; omega)
      · cases e
    | rek o =>
      simp only at e
      split at e
      · rename_i n m p ep
        rw [ep] at hf
        simp at hf
        split at e
        · cases e
          exact small_top h ef (by simp; omega) ls
        · cases e
          exact faulted_small (small_top h ef (by simp; omega) ls)
      · cases e
    | go p => cases e; exact small_top h ef (by simpa using Nat.le_succ_of_le hf) ls
    | nought q =>
      simp only at e
      split at e
      · rename_i n p ep
        cases e
        exact small_top h ef (by rw [ep] at hf; simp at hf ⊢; omega) ls
      · cases e
    | on k =>
      simp only at e
      split at e
      · cases e; exact small_top h ef (by simpa using Nat.le_succ_of_le hf) ls
      · cases e
    | turn =>
      simp only at e
      split at e
      · cases e; exact ⟨ls, fun x hx => Nat.le_succ_of_le (h.2 x hx)⟩
      · cases e; exact ⟨ls, fun x hx => Nat.le_succ_of_le (h.2 x hx)⟩
    | call g =>
      simp only at e
      split at e
      · rename_i n p ep
        rw [ep] at hf
        simp at hf
        split at e
        · cases e
          exact small_top h ef (by simp; omega) ls
        · exact enter_small (small_top h ef (by simp; omega) ls) e
      · cases e
    | back =>
      simp only at e
      split at e
      · rename_i n p ep
        split at e
        · cases e
          exact ⟨ls, fun x hx => by cases hx⟩
        · rename_i g gs
          cases e
          have hg : g.pile.length ≤ b := h.2 g (by rw [ef]; simp)
          refine ⟨ls, fun x hx => ?_⟩
          rcases List.mem_cons.mp hx with rfl | hx
          · simpa using hg
          · exact Nat.le_succ_of_le (h.2 x (by rw [ef]; simp [hx]))
      · cases e
    | raise =>
      simp only at e
      split at e
      · rename_i n p ep
        rw [ep] at hf
        simp at hf
        cases e
        exact faulted_small (small_top h ef (by simp; omega) ls)
      · cases e
theorem step_small {C : Cd} {b : Nat} {s s' : MS} (h : Small b s) (e : step C s = some s') : Small (b + 1) s' := by
  unfold step at e
  split at e
  · cases e
  · rename_i f fs ef
    split at e
    · refine act_small (s := { s with fs := { f with place := f.place + 1 } :: fs }) ⟨h.1, fun x hx => ?_⟩ e
      rcases List.mem_cons.mp hx with rfl | hx
      · exact h.2 f (by rw [ef]; exact List.mem_cons_self ..)
      · exact h.2 x (by rw [ef]; exact List.mem_cons_of_mem _ hx)
    · cases e
theorem runs_succ {C : Cd} {n : Nat} {s s' : MS} (h : runs C (n + 1) s = some s') : s.out = none ∧ ∃ t, step C s = some t ∧ runs C n t = some s' := by
  unfold runs at h
  split at h
  · cases h
  · rename_i e
    obtain ⟨t, h1, h2⟩ := Option.bind_eq_some_iff.mp h
    exact ⟨e, t, h1, h2⟩
theorem runs_of {C : Cd} {n : Nat} {s t s' : MS} (e : s.out = none) (h1 : step C s = some t) (h2 : runs C n t = some s') : runs C (n + 1) s = some s' := by
  unfold runs
  rw [e]
  show (step C s).bind (runs C n) = some s'
  rw [h1]
  exact h2
theorem runs_add {C : Cd} : ∀ {m n : Nat} {s t s' : MS}, runs C m s = some t → runs C n t = some s' → runs C (m + n) s = some s'
  | 0, n, s, t, s', h1, h2 => by
    have e : s = t := Option.some.inj h1
    rw [e, Nat.zero_add]
    exact h2
  | m + 1, n, s, t, s', h1, h2 => by
    obtain ⟨e, u, hu, h3⟩ := runs_succ h1
    rw [Nat.add_right_comm]
    exact runs_of e hu (runs_add h3 h2)
theorem fault_len {S : List St3} {n : Int} : ∀ {l : List Fr}, (fault S n l).1.length ≤ l.length
  | [] => Nat.le_refl _
  | g :: r => by
    unfold fault
    split
    · exact Nat.le_refl _
    · exact Nat.le_succ_of_le fault_len
theorem enter_len {C : Cd} {f n : Int} {s s' : MS} (h : s.fs.length ≤ 8) (e : enter C f n s = some s') : s'.fs.length ≤ 8 := by
  unfold enter at e
  split at e
  · cases e
    exact Nat.le_trans fault_len h
  · split at e
    · cases e
      show s.fs.length + 1 ≤ 8
      omega
    · cases e
theorem act_len {C : Cd} {s s' : MS} {r : Rw} (h : s.fs.length ≤ 8) (e : act C s r = some s') : s'.fs.length ≤ 8 := by
  unfold act at e
  split at e
  · cases e
  · rename_i f fs ef
    rw [ef] at h
    cases r with
    | put n => cases e; exact h
    | get k => simp only at e; split at e <;> first | (cases e; exact h) | cases e
    | set k => simp only at e; split at e <;> first | (cases e; exact h) | cases e
    | say => simp only at e; split at e <;> first | (cases e; exact h) | cases e
    | rek o =>
      simp only at e
      split at e
      · split at e
        · cases e; exact h
        · cases e; exact Nat.le_trans fault_len h
      · cases e
    | go p => cases e; exact h
    | nought q => simp only at e; split at e <;> first | (cases e; exact h) | cases e
    | on k => simp only at e; split at e <;> first | (cases e; exact h) | cases e
    | turn => simp only at e; split at e <;> (cases e; rw [ef]; exact h)
    | call g =>
      simp only at e
      split at e
      · split at e
        · cases e; exact h
        · exact enter_len (by exact h) e
      · cases e
    | back =>
      simp only at e
      split at e
      · split at e
        · cases e; exact Nat.zero_le _
        · cases e
          simp at h ⊢
          omega
      · cases e
    | raise =>
      simp only at e
      split at e
      · cases e; exact Nat.le_trans fault_len h
      · cases e
theorem step_len {C : Cd} {s s' : MS} (h : s.fs.length ≤ 8) (e : step C s = some s') : s'.fs.length ≤ 8 := by
  unfold step at e
  split at e
  · cases e
  · rename_i f fs ef
    rw [ef] at h
    split at e
    · exact act_len (s := { s with fs := { f with place := f.place + 1 } :: fs }) h e
    · cases e
end MM

local macro_rules | `(tactic| walk_at "hp") => `(tactic| first
  | assumption
  | exact L2.upd_same
  | (refine U.Sta.get (W := ?gsW) (R0 := ?gs0) (B := ?gsB) (R := ?gsR) (L := ?gsL) ?gss 0 ?gse; (case gss => assumption); (case gse => exact rfl))
  | (refine U.Sta.get (W := ?gsW) (R0 := ?gs0) (B := ?gsB) (R := ?gsR) (L := ?gsL) ?gss 1 ?gse; (case gss => assumption); (case gse => exact rfl))
  | (refine U.Sta.get (W := ?gsW) (R0 := ?gs0) (B := ?gsB) (R := ?gsR) (L := ?gsL) ?gss 2 ?gse; (case gss => assumption); (case gse => exact rfl))
  | (refine U.Sta.get (W := ?gsW) (R0 := ?gs0) (B := ?gsB) (R := ?gsR) (L := ?gsL) ?gss 3 ?gse; (case gss => assumption); (case gse => exact rfl))
  | (refine U.Sta.get (W := ?gsW) (R0 := ?gs0) (B := ?gsB) (R := ?gsR) (L := ?gsL) ?gss 4 ?gse; (case gss => assumption); (case gse => exact rfl))
  | (refine U.Sta.get (W := ?gsW) (R0 := ?gs0) (B := ?gsB) (R := ?gsR) (L := ?gsL) ?gss 5 ?gse; (case gss => assumption); (case gse => exact rfl))
  | (refine (L2.upd_ne ?hpn).trans ?hpk; (case hpn => walk_at "ne"); (case hpk => walk_at "hp")))
local macro_rules | `(tactic| walk_at "ne") => `(tactic| first
  | assumption
  | exact Ne.symm (by assumption)
  | (refine L2.ne_of_none (H := ?neH) (o := ?neo) ?nea ?neb; (case neb => assumption); (case nea => walk_at "hp"))
  | (refine Ne.symm (L2.ne_of_none (H := ?neH) (o := ?neo) ?nea ?neb); (case neb => assumption); (case nea => walk_at "hp")))
local macro_rules | `(tactic| walk_at "sq") => `(tactic| first
  | assumption
  | (refine L2.SqL.of ?sqh; walk_at "hp")
  | (refine L2.SqT.of ?sqh; walk_at "hp")
  | (refine L2.Same.seqL (H := ?sqH) ?sqs ?sqh; (case sqh => assumption); (case sqs => walk_at "sm"))
  | (refine L2.Same.seqT (H := ?sqH) ?sqs ?sqh; (case sqh => assumption); (case sqs => walk_at "sm")))
local macro_rules | `(tactic| walk_at "sm") => `(tactic| first
  | assumption
  | exact L2.Same.refl _
  | (refine U.Sta.old (W := ?gsW) (B := ?gsB) (R := ?gsR) (L := ?gsL) ?gss; (case gss => assumption))
  | (refine U.Sta.sub' (W := ?gsW) (R0 := ?gs0) (B := ?gsB) (L := ?gsL) ?gss; (case gss => assumption))
  | (refine U.same_new2 ?sma ?smb _; (case smb => assumption); (case sma => walk_at "sm"))
  | (refine L2.Same.trans (H1 := ?smH) ?sma ?smb; (case smb => assumption); (case sma => walk_at "sm")))
local macro_rules | `(tactic| walk_at "go1") => `(tactic| first
  | (with_reducible refine U.w_seqStop ?_)
  | (with_reducible refine U.w_stopF ?_)
  | (with_reducible refine U.w_stopW ?_)
  | ((with_reducible refine U.w_seqN (σ' := ?wss) ?wse ?_); (case wse => ((try simp only [List.set_cons_zero, List.set_cons_succ]); exact rfl)))
  | ((with_reducible refine U.w_var (v := ?wvv) ?wve ?_); (case wve => exact rfl))
  | (with_reducible refine U.w_c ?_)
  | (with_reducible refine U.w_op ?_)
  | (with_reducible refine U.w_rI0 ?_)
  | ((with_reducible refine U.w_rI ?wri ?_); (case wri => first
      | (show (0 : Int) < _; first | omega | decide)
      | exact ⟨by omega, by omega⟩
      | exact ⟨by decide, by decide⟩
      | exact ⟨by decide, by decide, by decide⟩
      | exact .inr ⟨by omega, by omega⟩
      | exact .inr ⟨by decide, by decide⟩
      | exact .inl ⟨by omega, by omega⟩
      | exact .inl ⟨by decide, by decide⟩))
  | ((with_reducible refine U.w_fdA ?wfd ?_); (case wfd => assumption))
  | (with_reducible refine U.w_asgN ?_)
  | (with_reducible refine U.w_nil ?_)
  | (with_reducible refine U.w_cons ?_)
  | (with_reducible refine U.w_call ?_)
  | (with_reducible refine U.w_cb ?_)
  | (with_reducible refine U.w_eqI ?_)
  | (with_reducible refine U.w_neI ?_)
  | (with_reducible refine U.w_ifS ?_)
  | (with_reducible refine U.w_test ?_)
  | (with_reducible refine U.w_tB ?_)
  | (with_reducible refine U.w_bl ?_)
  | (with_reducible refine U.w_itT ?_)
  | (with_reducible refine U.w_itF ?_)
  | (with_reducible refine U.w_itNT ?_)
  | (with_reducible refine U.w_itNF ?_)
  | (with_reducible refine U.w_asg ?_)
  | (with_reducible refine U.w_gName ?_)
  | (with_reducible refine U.w_gNil ?_)
  | (with_reducible refine U.w_gCons ?_)
  | ((with_reducible refine U.w_gTup (xs := ?wgx) ?wgt ?wgn ?_); (case wgt => walk_at "sq"); (case wgn => exact rfl))
  | (with_reducible refine U.w_gSub ?_)
  | (with_reducible refine U.w_next ?_)
  | (with_reducible refine U.w_break ?_)
  | (with_reducible refine U.w_cont ?_)
  | (with_reducible refine U.w_drop ?_)
  | (with_reducible refine U.w_ret ?_)
  | (with_reducible refine U.w_retN ?_)
  | (with_reducible refine U.w_un ?_)
  | (with_reducible refine U.w_rU ?_)
  | (with_reducible refine U.w_chain ?_)
  | (with_reducible refine U.w_tup ?_)
  | (with_reducible refine U.w_lst ?_)
  | ((with_reducible refine U.w_size ?wsz ?_); (case wsz => exact rfl))
  | (with_reducible refine U.w_bm ?_)
  | (with_reducible refine U.w_bm0 ?_)
  | ((with_reducible refine U.w_tyL (xs := ?wtx) ?wty ?_); (case wty => walk_at "hp"))
  | ((with_reducible refine U.w_lenL (xs := ?wlx) ?wll ?_); (case wll => walk_at "sq"))
  | ((with_reducible refine U.w_lenT (xs := ?wlx) ?wll ?_); (case wll => walk_at "sq"))
  | (with_reducible refine U.w_sl ?_)
  | (with_reducible refine U.w_noPart ?_)
  | (with_reducible refine U.w_part ?_)
  | (with_reducible refine U.w_partE ?_)
  | (with_reducible refine U.w_and ?_)
  | (with_reducible refine U.w_or ?_)
  | (with_reducible refine U.w_not ?_)
  | (with_reducible refine U.w_andV ?_)
  | (with_reducible refine U.w_orV ?_)
  | (with_reducible refine U.w_notV ?_)
  | (with_reducible refine U.w_ifE ?_)
  | (with_reducible refine U.w_for ?_)
  | (with_reducible refine U.w_lc ?_)
  | (with_reducible refine U.w_iL ?_)
  | (with_reducible refine U.w_iT ?_)
  | (with_reducible refine U.w_iR1 ?_)
  | (with_reducible refine U.w_iR2 ?_)
  | (with_reducible refine U.w_ttYes ?_)
  | ((with_reducible refine U.w_wipe ?wwe ?_); (case wwe => exact rfl))
  | ((with_reducible refine U.w_slL (xs := ?wlx) ?wll ?_); (case wll => walk_at "sq"))
  | (with_reducible refine U.w_fldX ?_)
  | ((with_reducible refine U.w_fldEE (C := ?wfC) (dx := ?wfd) (fs := ?wff) (v := ?wfv) (cs := ?wfc) ?wfa ?wfi ?wfn ?wfl ?_); (case wfa => walk_at "hp"); (case wfi => assumption); (case wfn => exact rfl); (case wfl => exact rfl))
  | (with_reducible refine U.w_sFld ?_)
  | ((with_reducible refine U.w_fldS (C := ?wfC) (dx := ?wfd) (fs := ?wff) (gs := ?wfg) (cs := ?wfc) ?wfa ?wfi ?wfn ?wfl ?wfe ?_); (case wfa => walk_at "hp"); (case wfi => assumption); (case wfn => exact rfl); (case wfl => exact rfl); (case wfe => exact rfl))
  | (with_reducible refine U.w_sFldAug ?_)
  | ((with_reducible refine U.w_fldA1 (C := ?wfC) (dx := ?wfd) (fs := ?wff) (v := ?wfv) (cs := ?wfc) ?wfa ?wfi ?wfn ?wfl ?_); (case wfa => walk_at "hp"); (case wfi => assumption); (case wfn => exact rfl); (case wfl => exact rfl))
  | ((with_reducible refine U.w_fldA2 (dx := ?wfd) (fs := ?wff) (gs := ?wfg) ?wfa ?wfl ?wfe ?_); (case wfa => walk_at "hp"); (case wfl => exact rfl); (case wfe => exact rfl))
  | (with_reducible refine U.w_rAdd ?_)
  | (with_reducible refine U.w_rSub ?_)
  | (with_reducible refine U.w_meth ?_)
  | ((with_reducible refine U.w_methE (C := ?wfC) (dx := ?wfd) (fs := ?wff) ?wfa ?wfl ?_); (case wfa => walk_at "hp"); (case wfl => exact rfl))
  | (with_reducible refine U.w_make ?_)
  | (with_reducible refine U.w_tru ?_)
  | ((with_reducible refine U.w_truL (xs := ?wlx) ?wll ?_); (case wll => walk_at "sq"))
  | ((with_reducible refine U.w_append (xs := ?wax) ?waa ?wal ?_); (case waa => walk_at "hp"); (case wal => assumption))
  | ((with_reducible refine U.w_pop (xs := ?wax) (y := ?way) ?waa ?_); (case waa => walk_at "hp"))
  | (with_reducible refine U.w_ttt ?_)
  | (with_reducible refine U.w_isNoT ?_)
  | (with_reducible refine U.w_isNoI ?_)
  | (with_reducible refine U.w_isNoR ?_)
  | (with_reducible refine U.w_notNoT ?_)
  | (with_reducible refine U.w_notNoI ?_)
  | (with_reducible refine U.w_notNoR ?_)
  | (with_reducible refine U.w_intI ?_)
  | (with_reducible refine U.w_intB ?_)
  | (with_reducible refine U.w_min ?_)
  | (with_reducible refine U.w_max ?_)
  | ((with_reducible refine U.w_listL (xs := ?wlx) ?wll ?_); (case wll => walk_at "sq"))
  | ((with_reducible refine U.w_tupL (xs := ?wlx) ?wll ?_); (case wll => walk_at "sq"))
  | (with_reducible refine U.w_isi_ii ?_)
  | (with_reducible refine U.w_isi_ib ?_)
  | (with_reducible refine U.w_isi_it ?_)
  | (with_reducible refine U.w_isi_il ?_)
  | (with_reducible refine U.w_isi_ss ?_)
  | (with_reducible refine U.w_isi_st ?_)
  | (with_reducible refine U.w_isi_sl ?_)
  | (with_reducible refine U.w_isi_nt ?_)
  | (with_reducible refine U.w_isi_nl ?_)
  | (with_reducible refine U.w_isi_ni ?_)
  | ((with_reducible refine U.w_isi_tt (xs := ?wix) ?wis ?_); (case wis => walk_at "sq"))
  | ((with_reducible refine U.w_isi_lt (xs := ?wix) ?wis ?_); (case wis => walk_at "sq"))
  | ((with_reducible refine U.w_isi_ll (xs := ?wix) ?wis ?_); (case wis => walk_at "sq"))
  | ((with_reducible refine U.w_isi_tl (xs := ?wix) ?wis ?_); (case wis => walk_at "sq"))
  | ((with_reducible refine U.w_eqT ?wes ?_); (case wes => exact rfl))
  | ((with_reducible refine U.w_neT ?wes ?_); (case wes => exact rfl))
  | ((with_reducible refine U.w_eqF ?wes ?wef ?_); (case wes => exact rfl); (case wef => decide +kernel))
  | ((with_reducible refine U.w_neF ?wes ?wef ?_); (case wes => exact rfl); (case wef => decide +kernel))
  | ((with_reducible refine U.w_ixLL (xs := ?wxx) (v := ?wxv) ?wxl ?wxi ?_); (case wxl => walk_at "sq"); (case wxi => exact rfl))
  | ((with_reducible refine U.w_ixTT0 (xs := ?wxx) (v := ?wxv) ?wxl ?_); (case wxl => walk_at "sq"))
  | ((with_reducible refine U.w_ixTT (xs := ?wxx) (v := ?wxv) ?wxl ?wxi ?_); (case wxl => walk_at "sq"); (case wxi => exact rfl))
  | walk_at "own1")
local macro_rules | `(tactic| walk_at "go") => `(tactic| repeat walk_at "go1")
local macro_rules | `(tactic| walk_at "st") => `(tactic| ((try dsimp only [U.cxk, U.cxkn, U.cxw, U.cxwn]); walk_at "go"))
local macro_rules | `(tactic| walk_at "if") => `(tactic| (with_reducible refine U.w_seqIf (σ' := ?wss) ?wse ?_); (case wse => ((try simp only [List.set_cons_zero, List.set_cons_succ]); exact rfl)); walk_at "go")
local macro_rules | `(tactic| walk_at "set") => `(tactic| ((try simp only [List.set_cons_zero, List.set_cons_succ]); exact rfl))
local macro_rules | `(tactic| walk_at "lp") => `(tactic| (with_reducible refine U.w_seqLp (σ' := ?wss) ?wse ?_); (case wse => ((try simp only [List.set_cons_zero, List.set_cons_succ]); exact rfl)); walk_at "go")
namespace M
open PySem PySem.Spec PyProof.Rows L2 U MM
def top (i : Nat) : Stmt := PySem.Challenge.pw_unwind_k06_refusals.main.body.getD i (.Pass ⟨0, 0, 0, 0⟩)
def plV : List Int → List V
  | [] => []
  | n :: p => plV p ++ [.int n]
theorem plV_len : ∀ p : List Int, (plV p).length = p.length
  | [] => rfl
  | n :: p => by
    show (plV p ++ [V.int n]).length = p.length + 1
    rw [List.length_append, plV_len p]
    rfl
theorem atI_map {xs : List Int} {k z : Int} (h : atI xs k = some z) : atI (xs.map V.int) k = some (.int z) := by
  unfold atI at h ⊢
  rw [List.length_map]
  obtain ⟨j, h1, h2⟩ := Option.bind_eq_some_iff.mp h
  rw [h1]
  show (xs.map V.int)[j]? = _
  rw [List.getElem?_map, h2]
  rfl
theorem szl {n : Nat} (h : n ≤ 16000000) : n < sizeLine := by rw [sizeLine_eq]; omega
theorem rep1 (k : Nat) : (List.replicate k [V.int 0]).flatten = (List.replicate k 0).map V.int := by
  induction k with
  | zero => rfl
  | succ k ih =>
    rw [List.replicate_succ, List.replicate_succ, List.flatten_cons, ih]
    rfl
@[reducible] def Rw.word : Rw → Str
  | .put _ => "put"
  | .get _ => "get"
  | .set _ => "set"
  | .say => "say"
  | .rek o => o.word
  | .go _ => "go"
  | .nought _ => "nought"
  | .on _ => "on"
  | .turn => "turn"
  | .call _ => "call"
  | .back => "back"
  | .raise => "raise"
theorem enc_head {K : PySem.W.Frag} {R : Hp} {v : V} {r : Rw} (h : Dp K R v r.enc) : ∃ p vs, v = .ref p ∧ SqT K R p (.str (Rw.word r) :: vs) := by
  cases r <;> (
    obtain ⟨p, vs, rfl, hs, ha⟩ := dp_tup h
    obtain ⟨v1, w1, rfl, h1, _⟩ := dpa_cons ha
    cases dp_str h1
    exact ⟨p, w1, rfl, hs⟩)
theorem _root_.L2.DpAll.atI {K : PySem.W.Frag} {R : Hp} {xs : List V} {ds : List PyData} {i : Int} {d : PyData} (h : DpAll K R xs ds) (e : atI ds i = some d) : ∃ v, L2.atI xs i = some v ∧ Dp K R v d := by
  unfold L2.atI at e ⊢
  rw [h.len]
  obtain ⟨j, h1, h2⟩ := Option.bind_eq_some_iff.mp e
  obtain ⟨v, h3, h4⟩ := h.getD h2
  exact ⟨v, by rw [h1]; exact h3, h4⟩
theorem atI_mapE {α β : Type} {f : α → β} {xs : List α} {i : Int} {x : α} (e : L2.atI xs i = some x) : L2.atI (xs.map f) i = some (f x) := by
  unfold L2.atI at e ⊢
  obtain ⟨j, h1, h2⟩ := Option.bind_eq_some_iff.mp e
  rw [List.length_map, h1]
  show (xs.map f)[j]? = _
  rw [List.getElem?_map, h2]
  rfl
theorem atI_zero {α : Type} (x : α) (xs : List α) : L2.atI (x :: xs) 0 = some x := atI_nat (j := 0) rfl
end M

/-! X1: a fault with a number: an own class over Exception whose __init__ keeps what it is handed (own work, after the guide's skeleton of an own error). -/
namespace PySem
namespace FltX
open PySem.W PySem.Calls PyProof.Rows PySem.HandSPX
def nA (p1 p2 : Pos) : Arguments := { posonlyargs := [], args := [{ arg := "self", annotation := none, pos := p1 }, { arg := "number", annotation := none, pos := p2 }], vararg := none, kwonlyargs := [], kw_defaults := [], kwarg := none, defaults := [] }
def nB (q1 q2 q3 q4 : Pos) : List Stmt := [.Assign [.Attribute (.Name "self" q1) "number" q2] (.Name "number" q3) q4]
def nS : Scope := { kind := .function, names := [(PySem.Str.ofString "self", .local), (PySem.Str.ofString "number", .local)], isGenerator := false, isCoroutine := false, more := [] }
/-- the class at C, its __init__ at fI, as the head tells of them -/
structure Flt (K : Frag) (mg : Str → Option Value) (C fI : Addr) : Prop where
  gl : mg "Fault" = some (.ref C)
  cl : ∃ nm q N bs sn sub ab col dd k0 k1 k2 k3 k5, K.lookup C = some (excClassObj nm q C N bs ESX.exTail true sn sub ab col dd k0 k1 k2 k3 k5 "Exception.__new__")
  sa : findIn K (.ref C) "__setattr__" = some (some (.builtin "object.__setattr__"))
  xf : L2.XfC K C
  no : findIn K (.ref C) "number" = some none
  ii : findIn K (.ref C) "__init__" = some (some (.ref fI))
  ti : typeIn K (.ref fI) = some (.type "function")
  kp : keepIn K (.ref C) = true
  ty : typeIn K (.ref C) = some (.type "type")
  te : exmOne K (.ref C) (.ref C) = some true
  fn : ∃ (oc : Value) (od : Option Addr) (kV doc pm : Value) (an : Option Addr) (cdv ct : Value) (osl : Array (Option Value)) (p1 p2 q1 q2 q3 q4 : Pos),
    K.lookup fI = some ⟨oc, od, .func (fnOf "__init__" "Fault.__init__" (nA p1 p2) (nB q1 q2 q3 q4) nS .none kV doc pm an cdv ct), osl⟩ ∧ codeIn K cdv "Fault.__init__" = true
theorem ld1 {M : Model} {s : Shared} {nm : Str} {sc : Scope} {L a : Addr} {cd : Value} {m : Str → Option Value} {x : Str} {pos : Pos} {v : Value} {Q : Value → Shared → Prop} {A : Around} {E : Value → Shared → Prop} (hn : s.heap.Ns L m) (hv : m x = some v) (h : Q v s)
    (hk : sc.kind = .function := by rfl) (hl : (envOfC nm sc L a cd).kindOf x = some .local := by rfl) (hd : (x == ("__debug__" : Str)) = false := by decide) :
    wpAny M A (eval (.Name x pos) (envOfC nm sc L a cd)) Q E s := wpAny_Name (wpAny_loadName_local hk hl hn hv h) hd
/-- what the making leaves: the fault at e, its dict at d -/
structure Mde (h h' : Heap) (e C d : Addr) (v : Value) : Prop where
  old : ∀ b o, h.get? b = some o → h'.get? b = some o
  new : h.objs.size ≤ e
  obj : ∃ t1 : Addr, h'.get? e = some { cls := .ref C, dict := some d, data := .fields #[.ref t1, .none, .none, .none, .bool false, .none] }
  big : h.objs.size ≤ d
  ne : d ≠ e
  ns : h'.Ns1 d (fun y => if y = "number" then some v else none)
section
variable {prog : Program} {w : World} {A : Around} {E : Value → Shared → Prop} {R : Result → Shared → Prop} {s : Shared} {K : Frag} {mg : Str → Option Value} {C fI : Addr}
theorem init_run (T : Flt K mg C fI) {x t0 : Addr} {v : Value} (X : K.In s.heap) (hlim : s.heap.NoLimit) (hx : s.heap.get? x = some (excO C t0)) (hroom : A.depth < recursionLimit)
    (hq : ∀ h' tk dx, (∀ b o, b ≠ x → s.heap.get? b = some o → h'.get? b = some o) → h'.get? x = some { cls := .ref C, dict := some dx, data := .fields #[.ref t0, .none, .none, .none, .bool false, .none] } → s.heap.objs.size ≤ dx → dx ≠ x →
      h'.Ns1 dx (fun y => if y = "number" then some v else none) → R (.ok (.ret .none)) { s with heap := h', toks := tk }) :
    codeAny (model prog w) A (.call (.ref fI) ⟨[.ref x, v], []⟩) R s := by
  obtain ⟨oc, od, kV, doc, pm, an, cdv, ct, osl, p1, p2, q1, q2, q3, q4, lk, hcd⟩ := T.fn
  obtain ⟨nm, q, N, bs, sn, sub, ab, col, dd, k0, k1, k2, k3, k5, hC⟩ := T.cl
  have hcl : clsIn K C = some { name := nm, bases := bs, mro := .ref C :: ESX.exTail, ns := N, qualname := q, hasDict := true, slotNames := sn, subclasses := sub, abstract := ab, collection := col, hasDel := false } := by unfold clsIn; rw [hC] <;> rfl
  refine Att.call_fn (binds := [("self", .ref x), ("number", v)]) X hlim lk hcd hroom (BindsTo.of_eq (by first | rfl | with_unfolding_all rfl)) (by first | rfl | decide | with_unfolding_all rfl) (fun s₁ ic => ?_) rfl rfl rfl
  obtain ⟨h₁, tk₁, rfl⟩ := ic.toInCall.same
  have kk : ∀ b o, s.heap.get? b = some o → h₁.get? b = some o := ic.toInCall.keep
  have hn := ic.toInCall.ns
  have X₁ : K.In h₁ := X.keeps kk
  have hx₁ := kk _ _ hx
  show wpAny _ _ (execs _ _) _ _ _
  refine wpAny_execs_cons (plainObj_wpAny_Assign_Attribute ?_)
  refine ld1 (v := v) hn (by first | rfl | with_unfolding_all rfl | kernel_rfl) (ld1 (v := .ref x) hn (by first | rfl | with_unfolding_all rfl | kernel_rfl) ?_)
  refine set_plain X₁ (ox := excO C t0) (od := none) ⟨hx₁, rfl, rfl, trivial⟩ T.sa ?_
  refine ESX.osa_new X₁ hx₁ hcl rfl rfl T.no (fun h₃ tk₃ dx k₃ dn dne hx₃ hn₃ => ?_)
  show wpAny _ _ (execs _ _) _ _ _
  have z : s.heap.objs.size < h₁.objs.size := hn.lt
  exact wpAny_execs_nil (hq h₃ tk₃ dx (fun b o hb e => k₃ b o hb (kk b o e)) hx₃ (Nat.le_of_lt (Nat.lt_of_lt_of_le z dn)) dne hn₃)
theorem size1 (v : Value) : [v].length ≤ sizeLine := by
  rw [sizeLine_eq]
  exact (by decide : 1 ≤ 16777216)
theorem make_run (T : Flt K mg C fI) {v : Value} (X : K.In s.heap) (hlim : s.heap.NoLimit) (hroom : A.depth + 1 < recursionLimit)
    (hq : ∀ h' tk e d, Mde s.heap h' e C d v → R (.ok (.ret (.ref e))) { s with heap := h', toks := tk }) :
    codeAny (model prog w) A (.call (.ref C) ⟨[v], []⟩) R s := by
  obtain ⟨nm, q, N, bs, sn, sub, ab, col, dd, k0, k1, k2, k3, k5, hC⟩ := T.cl
  obtain ⟨hp, g, dr, tk, os⟩ := s
  have kk : ∀ b o, hp.get? b = some o → ((hp.push (kdv_tup [v])).push (excO C hp.objs.size)).get? b = some o := fun b o e => Heap.get?_push_of_some _ (Heap.get?_push_of_some _ e)
  have hget : ((hp.push (kdv_tup [v])).push (excO C hp.objs.size)).get? (hp.objs.size + 1) = some (excO C hp.objs.size) := by heap_get
  refine call_own F.excBase_Exception (fun Y => rfl) (X _ _ hC) (looks_findIn X T.ii) (fun self => bind_fn X self T.ti) (size1 v) ?_
  refine init_run (s := ⟨(hp.push (kdv_tup [v])).push (excO C hp.objs.size), g, dr, tk, os⟩) T (X.keeps kk) (hlim.keeps kk) hget ?_ fun h' tk' dx k' hx dn dne hns => ?_
  · show A.depth + 1 < recursionLimit
    exact hroom
  · have old : ∀ b o, hp.get? b = some o → h'.get? b = some o := fun b o e => k' b o (Nat.ne_of_lt (Nat.lt_succ_of_lt (Heap.lt_size e))) (kk b o e)
    have z : hp.objs.size + 1 + 1 ≤ dx := by
      have y := dn
      first
        | exact y
        | (rw [Heap.size_push, Heap.size_push] at y; exact y)
    exact ⟨rfl, hq h' tk' (hp.objs.size + 1) dx ⟨old, Nat.le_succ _, ⟨_, hx⟩, Nat.le_trans (Nat.le_trans (Nat.le_succ _) (Nat.le_succ _)) z, dne, hns⟩⟩
end
end FltX
end PySem
namespace L2
open PySem PySem.Spec PyProof.Rows
theorem relO_num {v : V} {u : Value} (r : RelV v u) (f : Str) : RelO (List.lookup f [(("number" : Str), v)]) (if f = "number" then some u else none) := by
  by_cases h : f = "number"
  · subst h
    rw [if_pos rfl, show List.lookup ("number" : Str) [(("number" : Str), v)] = some v by simp [List.lookup]]
    exact r
  · have h2 : (f == ("number" : Str)) = false := by simpa using h
    rw [if_neg h, show List.lookup f [(("number" : Str), v)] = none by simp [List.lookup, h2]]
    trivial
section
variable {X : Cx} {C fI : Addr}
/-- Fault(e) -/
def tMkFlt (C : Addr) (ta : TA) : St → Hp → XK → Prop := fun σ H Q => ta σ H fun vs H1 => ∃ v, vs = [v] ∧ ∀ d, H1 d = none → Q (.ref C) (some d) (upd H1 d (.xd [(("number" : Str), v)]))
theorem pmk_flt {a : Expr} {ta : TA} {p pos : Pos} {k : Nat} (T : PySem.FltX.Flt X.K X.mg C fI) (hr : Room k X.A) (ha : PA X [a] ta) (hg : Gl X "Fault" := by rfl)
    (he : starEach (a :: []) X.env = (false, eval a X.env) :: starEach [] X.env := by rfl) (hpl : (backTo pos (starEach [] X.env)).any (·.1) = false := by rfl) :
    PMk X (.Call (.Name "Fault" p) [a] [] pos) (tMkFlt C ta) := by
  intro pins s σ H Q I h
  refine wpAny_Call_Name_kw (ld_glob I hg T.gl ?_)
  refine PySem.W.callWith_K (h₀ := X.base) I.ok.mod.kin T.kp (thn (ha.run pos pins s σ H _ I h) fun us s1 ⟨vs, H1, I1, r1, v, ev, q1⟩ => ?_) he hpl
  subst ev
  refine ⟨I1.kIn, ?_⟩
  cases r1 with
  | cons rv rn =>
    cases rn
    show wpAny _ _ (call (.ref C) [_]) _ _ _
    have lim := I1.nolimit
    have dep : X.A.depth + 1 < recursionLimit := by have := hr.dp; omega
    refine wpAny_call (PySem.FltX.make_run T I1.kIn lim dep fun h' tk' e d M => ?_)
    obtain ⟨hp, g, dr, tk, os⟩ := s1
    show MkP X pins σ Q (.ref e) ⟨h', g, dr, tk', os⟩
    obtain ⟨t1, hoe⟩ := M.obj
    obtain ⟨G', g1, g2⟩ := restrict h' fun b => decide (b ≠ e)
    have gk : ∀ b, b ≠ e → G'.get? b = h'.get? b := fun b hb => g1 b (decide_eq_true hb)
    have ge : G'.get? e = none := g2 e (by simp)
    have old : ∀ b o, hp.get? b = some o → G'.get? b = some o := fun b o q => (gk b (Nat.ne_of_lt (Nat.lt_of_lt_of_le (Heap.lt_size q) M.new))).trans (M.old b o q)
    have ob : ObjOk X.prog X.w (upd H1 d (.xd [(("number" : Str), v)])) G' d (.xd [(("number" : Str), v)]) := ⟨_, M.ns.at (fun o q => (gk d M.ne).trans q), fun f => relO_num rv f⟩
    have J : Inv X pins σ (upd H1 d (.xd [(("number" : Str), v)])) ⟨G', g, dr, tk', os⟩ := I1.laid (t' := tk') old M.big ob
    refine ⟨e, _, _, ⟨G', g, dr, tk', os⟩, _, .ref C, some d, rfl, J, fun b o q => ?_, ge, hoe, ⟨rfl, rfl⟩, rfl, rfl, ?_, rfl, I1.bare, raises_own T.xf.exC T.ty, q1 d (I1.hok.fresh M.big)⟩
    · by_cases hb : b = e
      · have q' : G'.get? b = some o := q
        rw [hb, ge] at q'
        cases q'
      · exact (gk b hb).symm.trans q
    · rw [upd_ne (Ne.symm M.ne)]
      exact I1.hok.fresh M.new
def tRaiseFlt (C : Addr) (W : WX) (ta : TA) : TS := fun _ σ H => tMkFlt C ta σ H fun cls d H' => W cls d σ H'
theorem ps_raiseFlt {a : Expr} {ta : TA} {W : WX} {p pos pos2 : Pos} {k : Nat} (hc : X.calm = true) (T : PySem.FltX.Flt X.K X.mg C fI) (hr : Room k X.A) (tk : Takes X W) (ha : PA X [a] ta) (hg : Gl X "Fault" := by rfl)
    (he : starEach (a :: []) X.env = (false, eval a X.env) :: starEach [] X.env := by rfl) (hpl : (backTo pos (starEach [] X.env)).any (·.1) = false := by rfl) :
    PS X (.Raise (some (.Call (.Name "Fault" p) [a] [] pos)) none pos2) (tRaiseFlt C W ta) := ps_raise hc tk (pmk_flt T hr ha hg he hpl)
end
end L2

/-! X2: a local name that holds a def which may raise, called within a try; two clauses, the first one with a name (own work). -/
namespace U
open PySem PySem.Spec PyProof.Rows L2
def tCallHS (i : Nat) (Hl : Addr → Sp → Prop) (E : L2.St → XK) (t : TA) : TE := fun σ H Q => ∃ f sp, σ[i]? = some (some (.ref f)) ∧ Hl f sp ∧ t σ H fun vs H1 => sp vs H1 Q (E σ)
section
variable {X : Cx} {CX : CXT} {k j i : Nat} {x : Str} {E : L2.St → XK} {p pos : Pos} {e : Expr} {es : List Expr} {t : TA} {Hl : Addr → Sp → Prop}
theorem pe_callHS (A : ∀ f sp, Hl f sp → Cf X.prog X.w X.K X.mg X.base CX k f sp) (hr : Room j X.A) (hk : k ≤ j) (hx : ∀ σ, PassesAt CX X σ (E σ)) (hN : X.N[i]? = some x) (hv : Vis X.env.scope x) (ha : PA X (e :: es) t)
    (hdb : (x == ("__debug__" : Str)) = false := by decide) (hcd : (x == ("__classdict__" : Str)) = false := by decide)
    (he : starEach (e :: es) X.env = (false, eval e X.env) :: starEach es X.env := by rfl) (hpl : (backTo pos (starEach es X.env)).any (·.1) = false := by rfl) : PE X (.Call (.Name x p) (e :: es) [] pos) (tCallHS i Hl E t) := by
  refine ⟨fun pins s σ H Q I h => ?_⟩
  obtain ⟨f, sp, hs, hS, ht⟩ := h
  obtain ⟨fd, ps, F, kp, hb⟩ := (A f sp hS).ex
  have lv := (pe_var (pos := p) hN hv hdb hcd).run pins s σ H (fun v H1 => v = .ref f ∧ H1 = H) I ⟨.ref f, hs, rfl, rfl⟩
  refine wpAny_Call_Name_kw (thn lv fun u s1 z => ?_)
  obtain ⟨v, H1, I1, r1, ev, eH⟩ := z
  subst ev eH
  cases r1
  refine PySem.W.callWith_K (h₀ := X.base) I.ok.mod.kin kp (thn (ha.run pos pins s1 σ _ _ I1 ht) fun us s2 z => ?_) he hpl
  obtain ⟨vs, H2, I2, r, q⟩ := z
  exact ⟨I2.kIn, run_fnS F (hr.mono hk) hb (hx σ) I2 r q⟩
end
/-! ### two clauses -/
section
variable {X : Cx} {x y n : Str} {c1 c2 : Value} {i : Nat} {body r1 r2 : List Stmt} {b1 b2 : Stmt} {np1 np2 pos pos1 pos2 : Pos} {tb : WX → TS} {t1 t2 : Addr → Value → Option Addr → TS} {Wo : WX}
theorem ps_try_2 (hs : X.stack = X.env :: X.outer) (hf : X.env.frame = some X.env.locals) (hN : X.N.Nodup) (hi : X.N[i]? = some n) (hln : X.env.kindOf n = some .local) (n1 : Names X x c1) (n2 : Names X y c2) (tk : Takes X Wo)
    (hb : ∀ (W : WX) (pn : List (Addr × Obj)) (xe : Value → Shared → Prop), Takes (X.tr pn xe) W → PassesOwn (model X.prog X.w) X.A X.env xe → PSs (X.tr pn xe) body (tb W))
    (h1 : ∀ (a : Addr) (oe : Obj) (cls : Value) (d : Option Addr) (pn : List (Addr × Obj)), Zc cls d oe → (∃ vs, oe.data = .fields vs) → PSs (X.suite a ((a, oe) :: pn)) (b1 :: r1) (t1 a cls d))
    (h2 : ∀ (a : Addr) (oe : Obj) (cls : Value) (d : Option Addr) (pn : List (Addr × Obj)), Zc cls d oe → (∃ vs, oe.data = .fields vs) → PSs (X.suite a ((a, oe) :: pn)) (b2 :: r2) (t2 a cls d)) :
    PS X (.Try body [.ExceptHandler (some (.Name x np1)) (some n) (b1 :: r1) pos1, .ExceptHandler (some (.Name y np2)) none (b2 :: r2) pos2] [] [] pos) (fun D σ H => tb (wAs X.K c1 i t1 (wOnly X.K c2 t2 Wo D) D) D σ H) := by
  refine ⟨fun pins s σ H D I h => wpAny_Try_except ?_⟩
  have ok := I.ok
  have frm : X.A.frames = some (X.env :: X.outer) := ok.frames.trans (by rw [hs])
  let hds : List ExceptHandler := [.ExceptHandler (some (.Name x np1)) (some n) (b1 :: r1) pos1, .ExceptHandler (some (.Name y np2)) none (b2 :: r2) pos2]
  let M := model X.prog X.w
  have run := (hb (wAs X.K c1 i t1 (wOnly X.K c2 t2 Wo D) D) (X.pn ++ pins)
    (fun e s₁ => wpAny M X.A (noteFrame e X.env) (fun _ s₂ => wpAny M X.A (setFlight e none)
      (fun _ s₃ => wpAny M X.A (handleBy e X.env hds) (SP X pins D) X.xe s₃) X.xe s₂) X.xe s₁)
    (fun u s' air => ?cat) PassesOwn.looking).run [] s σ H D (I.toTry _) h
  case cat =>
    obtain ⟨a, B, sI, pins', σ', H', cls, d, rfl, J0, nb, up, sky, na, eos, bare, b, e1, yes, no⟩ := air
    have J : Inv X pins σ' H' sI := J0.ofTry ok
    rw [show (X.tr (X.pn ++ pins) _).stack = X.env :: X.outer from hs] at sky
    show wpAny M X.A (noteFrame (.ref a) X.env) _ _ _
    refine Sky.land Zc.steady frm hf sky fun h3 fly up3 => ?_
    have up13 := up.trans up3
    have J3 : Inv X pins σ' H' { s' with heap := h3 } := J.landed nb fly.1 up13 eos bare
    obtain ⟨o3, f3, g3, z3, d3⟩ := fly.there
    have off : a ∉ frs (X.env :: X.outer) := fun hm => by
      obtain ⟨_, o', e', nf⟩ := fly.2.2.1.mem hm
      cases g3.symm.trans e'
      exact nf _ d3
    have offL : a ≠ X.env.locals := fun z => off (List.mem_filterMap.mpr ⟨X.env, List.mem_cons_self, hf.trans (congrArg some z.symm)⟩)
    have offF : a ∉ X.fs := fun hm => by
      obtain ⟨ev, hev, q⟩ := List.mem_filterMap.mp hm
      exact off (List.mem_filterMap.mpr ⟨ev, List.mem_cons_of_mem _ hev, q⟩)
    have S3 := J3.suite g3 d3 na offL offF
    have LT : PySem.W.Looks M h3 (typeOf (.ref a)) cls := fun A Q E s k q => wpAny_typeOf_ref (k _ _ g3) (z3.1.symm ▸ q)
    have named : ∀ {nm : Str} {c : Value} {np : Pos} {Q : Value → Shared → Prop} {E : Value → Shared → Prop}, Names X nm c → Q c { s' with heap := h3 } → wpAny M (X.A.mark (some (.ref a))) (eval (.Name nm np) X.env) Q E { s' with heap := h3 } := by
      intro nm c np Q E hc q
      obtain ⟨hg, dbg, z⟩ := hc
      rcases z with hm | ⟨hm, hv, hnn⟩
      · exact ld_glob (X := X.suite a ((a, o3) :: (X.pn ++ pins))) S3 hg hm q dbg
      · exact ld_blt (X := X.suite a ((a, o3) :: (X.pn ++ pins))) S3 hg hm hv q hnn dbg
    refine wpAny_handleBy_cons (codeAny_handlers_test (named n1 ((PySem.W.exm_one (M := M) J3.kIn LT e1).here ?_))) (fun q => by cases q)
    cases b with
    | true =>
      refine codeAny_handlers_suite_as (HandSPX.lands_againZ fly fun h4 fl4 up4 => ?_)
      have J4 : Inv X pins σ' H' { s' with heap := h4 } := J.landed nb fl4.1 (up13.trans up4) eos bare
      obtain ⟨o4, f4, g4, z4, d4⟩ := fl4.there
      refine store_ok (X := X.suite a ((a, o4) :: (X.pn ++ pins))) (v := .ref a) (J4.suite g4 d4 na offL offF) hN hi (.inl hln) rfl (fun s5 S5 => ?_) (.inr hln)
      have sr := (h1 a o4 cls d (X.pn ++ pins) z4 ⟨_, d4⟩).run [] s5 _ H' _ S5 (yes rfl a na)
      refine wpAny_mono sr (fun fl s6 w => ?_) fun _ _ z => z.elim
      have fin : ∀ {σ6 : L2.St} {H6 : Hp} {Q : Shared → Prop}, Inv (X.suite a ((a, o4) :: (X.pn ++ pins))) [] σ6 H6 s6 → (∀ s7, Inv X pins (σ6.set i none) H6 s7 → Q s7) →
          wpAny M X.A (do bindName X.env n .none; unbindBehindTheSuite X.env n pos1) (fun _ s7 => Q s7) X.xe s6 := fun S6 hq => gone_ok (S6.unsuite ok) hN hi hln hq
      cases fl with
      | ret u => obtain ⟨v6, σ6, H6, S6, r6, q6⟩ := w; exact fin S6 fun s7 J7 => ⟨_, _, _, J7, r6, q6⟩
      | next => obtain ⟨σ6, H6, S6, q6⟩ := w; exact fin S6 fun s7 J7 => ⟨_, _, J7, q6⟩
      | brk => obtain ⟨σ6, H6, S6, q6⟩ := w; exact fin S6 fun s7 J7 => ⟨_, _, J7, q6⟩
      | cont => obtain ⟨σ6, H6, S6, q6⟩ := w; exact fin S6 fun s7 J7 => ⟨_, _, J7, q6⟩
    | false =>
      obtain ⟨b, e2, yes2, no2⟩ := no rfl
      refine wpAny_handleBy_cons (codeAny_handlers_test (named n2 ((PySem.W.exm_one (M := M) J3.kIn LT e2).here ?_))) (fun q => by cases q)
      cases b with
      | true =>
        refine codeAny_handlers_suite (HandSPX.lands_againZ fly fun h4 fl4 up4 => ?_)
        have J4 : Inv X pins σ' H' { s' with heap := h4 } := J.landed nb fl4.1 (up13.trans up4) eos bare
        obtain ⟨o4, f4, g4, z4, d4⟩ := fl4.there
        have sr := (h2 a o4 cls d (X.pn ++ pins) z4 ⟨_, d4⟩).run [] _ _ H' _ (J4.suite g4 d4 na offL offF) (yes2 rfl a na)
        refine wpAny_mono sr (fun fl s6 w => ?_) fun _ _ z => z.elim
        cases fl with
        | ret u => obtain ⟨v6, σ6, H6, S6, r6, q6⟩ := w; exact ⟨_, _, _, S6.unsuite ok, r6, q6⟩
        | next => obtain ⟨σ6, H6, S6, q6⟩ := w; exact ⟨_, _, S6.unsuite ok, q6⟩
        | brk => obtain ⟨σ6, H6, S6, q6⟩ := w; exact ⟨_, _, S6.unsuite ok, q6⟩
        | cont => obtain ⟨σ6, H6, S6, q6⟩ := w; exact ⟨_, _, S6.unsuite ok, q6⟩
      | false =>
        refine wpAny_handleBy_nil ?_
        obtain ⟨_, _, _, oe, vs, T, oT, ts', he, _, hd, hv1, _⟩ := id fly
        unfold PySem.passOn
        refine wpAny_bind (wpAny_field he hd hv1 ?_)
        rw [if_neg (show ¬ ((Value.ref T == Value.none) = true) by simp)]
        have off2 : wpAny M X.A (setFlight (.ref a) X.env.frame) (fun _ s4 => wpAny M X.A (throw (.ref a) : Sem Flow) (SP X pins D) X.xe s4) X.xe { s' with heap := h3 } := by
          rw [hf]
          refine HandSPX.setFlight_upZ fly fun h4 hh4 up4 => wpAny_throw (tk _ _ ⟨a, B, sI, pins, σ', H', cls, d, rfl, J, nb, up13.trans up4, .inr (.inr ?_), na, eos, bare, no2 rfl⟩)
          rw [hs]
          exact hh4
        first
          | exact wpAny_bind (wpAny_pure (wpAny_bind off2))
          | exact wpAny_bind off2
  refine wpAny_mono run (fun fl s1 w => ?_) fun _ _ z => z
  cases fl with
  | next => obtain ⟨σ', H', J', q⟩ := w; exact wpAny_execs_nil ⟨σ', H', J'.ofTry ok, q⟩
  | ret u => obtain ⟨v, σ', H', J', r, q⟩ := w; exact ⟨v, σ', H', J'.ofTry ok, r, q⟩
  | brk => obtain ⟨σ', H', J', q⟩ := w; exact ⟨σ', H', J'.ofTry ok, q⟩
  | cont => obtain ⟨σ', H', J', q⟩ := w; exact ⟨σ', H', J'.ofTry ok, q⟩
end
end U

/-! X3: the two classes of faults, from what the head tells (own work). -/
namespace PySem
namespace FltX
open PySem.W PySem.Calls PyProof.Rows
def xclB (K : Frag) (C : Addr) : Bool := match K.lookup C with
  | some ⟨.type c, _, .cls cd, sl⟩ => decide (c = "type") && (decide (cd.mro = .ref C :: ESX.exTail) && (cd.hasDict && (!cd.hasDel && (match sl.toList with
    | [_, _, _, _, some (.builtin n), _] => decide (n = "Exception.__new__")
    | _ => false))))
  | _ => false
theorem xclB_ok {K : Frag} {C : Addr} (h : xclB K C = true) : ∃ nm q N bs sn sub ab col dd k0 k1 k2 k3 k5, K.lookup C = some (excClassObj nm q C N bs ESX.exTail true sn sub ab col dd k0 k1 k2 k3 k5 "Exception.__new__") := by
  unfold xclB at h
  split at h
  · rename_i c dd cd sl ho
    simp only [Bool.and_eq_true, decide_eq_true_eq, Bool.not_eq_true'] at h
    obtain ⟨rfl, hm, hd, hl, hs⟩ := h
    split at hs
    · rename_i k0 k1 k2 k3 n k5 hsl
      have hn := of_decide_eq_true hs
      subst hn
      obtain ⟨nm, bs, mro, ns, qn, hdct, sn, sub, ab, col, del⟩ := cd
      dsimp only at hm hd hl
      subst hm hd hl
      have e : sl = #[k0, k1, k2, k3, some (.builtin "Exception.__new__"), k5] := by
        obtain ⟨l⟩ := sl
        simp only at hsl
        rw [hsl]
      subst e
      exact ⟨nm, qn, ns, bs, sn, sub, ab, col, dd, k0, k1, k2, k3, k5, ho⟩
    · cases hs
  · cases h
def iAd (K : Frag) (C : Addr) : Addr := match findIn K (.ref C) "__init__" with
  | some (some (.ref f)) => f
  | _ => 0
def fltB (K : Frag) (C : Addr) : Bool := xclB K C && (decide (findIn K (.ref C) "__setattr__" = some (some (.builtin "object.__setattr__"))) && (L2.xfB K C && (decide (findIn K (.ref C) "number" = some none) &&
  (decide (typeIn K (.ref (iAd K C)) = some (.type "function")) && (keepIn K (.ref C) && (decide (typeIn K (.ref C) = some (.type "type")) && decide (exmOne K (.ref C) (.ref C) = some true)))))))
theorem flt_of {K : Frag} {mg : Str → Option Value} {C : Addr} {st : Stmt} (D : U.DfM K mg "Fault" C "__init__" "Fault.__init__" st) (h : fltB K C = true) {p1 p2 q1 q2 q3 q4 : Pos} (ea : L2.defArgs st = nA p1 p2) (eb : L2.defBody st = nB q1 q2 q3 q4) (es : L2.defScope st = nS) : ∃ fI, Flt K mg C fI := by
  unfold fltB at h
  simp only [Bool.and_eq_true, decide_eq_true_eq] at h
  obtain ⟨h1, h2, h3, h4, h5, h6, h7, h8⟩ := h
  obtain ⟨f, fd, F, hm⟩ := D.ex
  obtain ⟨oc, od, dV, kV, doc, pm, an, cdv, ct, osl, rfl, lk, hcd, hD, _⟩ := F.ex
  have hf : iAd K C = f := by
    unfold iAd
    rw [hm.at_]
  rw [hf] at h5
  refine ⟨f, D.gl, xclB_ok h1, h2, L2.xfB_ok h3, h4, hm.at_, h5, h6, h7, h8, ?_⟩
  rw [ea, eb, es] at lk
  rcases hD with ⟨_, rfl⟩ | ⟨e, _⟩
  · exact ⟨oc, od, kV, doc, pm, an, cdv, ct, osl, p1, p2, q1, q2, q3, q4, lk, hcd⟩
  · exact absurd rfl e
/-- the class without a body -/
structure Trd (K : Frag) (mg : Str → Option Value) (C cF : Addr) : Prop where
  gl : mg "Tired" = some (.ref C)
  ex : excIn K C [.type "Exception", .type "BaseException", .type "object"] "Exception.__new__" = true
  kp : keepIn K (.ref C) = true
  sb : subIn K (.ref C) (.type "BaseException") = some true
  ty : typeIn K (.ref C) = some (.type "type")
  te : exmOne K (.ref C) (.ref C) = some true
  nf : exmOne K (.ref C) (.ref cF) = some false
def trdB (K : Frag) (C cF : Addr) : Bool := excIn K C [.type "Exception", .type "BaseException", .type "object"] "Exception.__new__" && (keepIn K (.ref C) && (decide (subIn K (.ref C) (.type "BaseException") = some true) && (decide (typeIn K (.ref C) = some (.type "type")) &&
  (decide (exmOne K (.ref C) (.ref C) = some true) && decide (exmOne K (.ref C) (.ref cF) = some false)))))
theorem trd_of {K : Frag} {mg : Str → Option Value} {C cF : Addr} (g : mg "Tired" = some (.ref C)) (h : trdB K C cF = true) : Trd K mg C cF := by
  unfold trdB at h
  simp only [Bool.and_eq_true, decide_eq_true_eq] at h
  obtain ⟨h1, h2, h3, h4, h5, h6⟩ := h
  exact ⟨g, h1, h2, h3, h4, h5, h6⟩
end FltX
end PySem
namespace U
open PySem PySem.Spec PyProof.Rows L2
/-- a call of a top's def within a try -/
theorem pe_caS {X : Cx} {CX : CXT} {k j : Nat} {x : Str} {sp : Sp} {E : L2.St → XK} {p pos : Pos} {e : Expr} {es : List Expr} {t : TA} (c : Ca X.prog X.w X.K X.mg X.base CX k x sp) (hr : Room j X.A) (hk : k ≤ j) (hg : Gl X x) (hx : ∀ σ, PassesAt CX X σ (E σ)) (ha : PA X (e :: es) t)
    (hdb : (x == ("__debug__" : Str)) = false := by decide) (he : starEach (e :: es) X.env = (false, eval e X.env) :: starEach es X.env := by rfl) (hpl : (backTo pos (starEach es X.env)).any (·.1) = false := by rfl) : PE X (.Call (.Name x p) (e :: es) [] pos) (tCallS sp E t) := by
  refine ⟨fun pins s σ H Q I h => ?_⟩
  obtain ⟨f, fd, ps, F, hm, kp, hb⟩ := c.ex
  exact (pe_callS F (hr.mono hk) hg hm kp hb hx ha hdb he hpl).run pins s σ H Q I h
end U

namespace CM
open PySem PySem.Spec PyProof.Rows L2 U MM M He
abbrev fK : List Str := ["rows", "stretches", "places", "boxes"]
abbrev fA : List Str := ["give", "leave", "again", "ends"]
def cW : List Wd := [.cls "Maker" fK, .cls "Around" fA, .num "BOXES" 4, .me "Maker" "mark" "Maker.mark" (inClass (top 23) 1), .me "Maker" "here" "Maker.here" (inClass (top 23) 2), .me "Maker" "make" "Maker.make" (inClass (top 23) 3),
  .ini "Maker" "Maker.__init__" (inClass (top 23) 0), .ini "Around" "Around.__init__" (inClass (top 24) 0), .df "_expression" (top 28), .df "_go_to_last" (top 51), .df "_bring_to_last" (top 52),
  .df "_let_others_go_on" (top 47), .df "_ways_to_last" (top 50), .df "_held" (top 44), .df "set_making" (top 31), .df "_say_or_raise" (top 33), .df "if_making" (top 34),
  .df "loop_making" (top 36), .df "leave_making" (top 38), .df "next_making" (top 40), .df "give_making" (top 42), .df "catch_making" (top 45), .df "end_making" (top 48), .df "block_making" (top 29),
  .df "_function" (top 27), .df "_placed" (top 26), .df "made" (top 25), .any "ACTS_making"]
def acN : List (Str × Dv) := [("set", .glo "set_making"), ("say", .glo "_say_or_raise"), ("if", .glo "if_making"), ("loop", .glo "loop_making"), ("leave", .glo "leave_making"), ("next", .glo "next_making"), ("give", .glo "give_making"), ("raise", .glo "_say_or_raise"), ("catch", .glo "catch_making"), ("end", .glo "end_making")]
def acT : Tab := (fun K => ga K "ACTS_making", ["set", "say", "if", "loop", "leave", "next", "give", "raise", "catch", "end"])
def cX (K : PySem.W.Frag) : Bool := valsB K (ga K "ACTS_making") acN
end CM
namespace CK
open PySem PySem.Spec PyProof.Rows L2 U MM M He
def kW : List Wd := [.df "checked" (top 15), .df "_check_block" (top 16), .df "_check_statement" (top 17), .df "_check_expression" (top 18), .df "_check_box" (top 19),
  .df "_check_function" (top 20), .num "BOXES" 4, .num "MOST_BLOCKS" 8, .num "MOST_PARTS" 6, .any "STATEMENTS", .any "EXPRESSIONS"]
def stR : List (Str × List Str) := [("set", ["box", "expression"]), ("say", ["expression"]), ("if", ["expression", "block", "block"]), ("loop", ["expression", "block"]), ("leave", []), ("next", []), ("give", ["expression"]), ("raise", ["expression"]), ("catch", ["block", "number", "box", "block"]), ("end", ["block", "block"])]
def exR : List (Str × List Str) := [("num", ["number"]), ("box", ["box"]), ("add", ["expression", "expression"]), ("sub", ["expression", "expression"]), ("less", ["expression", "expression"]), ("share", ["expression", "expression"]), ("call", ["function", "expression"])]
def stT : Tab := (fun K => ga K "STATEMENTS", ["set", "say", "if", "loop", "leave", "next", "give", "raise", "catch", "end"])
def exT : Tab := (fun K => ga K "EXPRESSIONS", ["num", "box", "add", "sub", "less", "share", "call"])
def kX (K : PySem.W.Frag) : Bool := tabB K (ga K "STATEMENTS") stR && tabB K (ga K "EXPRESSIONS") exR
end CK
namespace TT
open PySem PySem.Spec PyProof.Rows L2 U MM M He
def tW : List Wd := [.cls "Run" ["program", "turns", "entered", "said"], .num "NOUGHT" 101, .num "DEEP" 102, .num "DEEPEST" 8, .num "BOXES" 4, .ini "Run" "Run.__init__" (inClass (top 57) 0), .df "reckoned" (top 21),
  .df "told" (top 58),
  .df "_given_back" (top 59),
  .df "_take_turn" (top 60),
  .df "_number" (top 61),
  .df "block_trees" (top 62),
  .df "set_trees" (top 64),
  .df "_say" (top 66),
  .df "if_trees" (top 67),
  .df "loop_trees" (top 69),
  .df "leave_trees" (top 71),
  .df "next_trees" (top 73),
  .df "give_trees" (top 75),
  .df "_raise" (top 77),
  .df "catch_trees" (top 78),
  .df "end_trees" (top 80),
  .any "ACTS_trees", .me "Fault" "__init__" "Fault.__init__" (inClass (top 56) 0), .any "Tired"]
def tcN : List (Str × Dv) := [("set", .glo "set_trees"), ("say", .glo "_say"), ("if", .glo "if_trees"), ("loop", .glo "loop_trees"), ("leave", .glo "leave_trees"), ("next", .glo "next_trees"), ("give", .glo "give_trees"), ("raise", .glo "_raise"), ("catch", .glo "catch_trees"), ("end", .glo "end_trees")]
def tcT : Tab := (fun K => ga K "ACTS_trees", ["set", "say", "if", "loop", "leave", "next", "give", "raise", "catch", "end"])
def tX (K : PySem.W.Frag) : Bool := valsB K (ga K "ACTS_trees") tcN && (PySem.FltX.fltB K (ga K "Fault") && (PySem.FltX.trdB K (ga K "Tired") (ga K "Fault") && seerB K))
end TT

/-! T1: programs as data of plain Lean, and how the laws draw them (own work). -/
namespace TR
open PySem L2 U MM
inductive Ex where
  | num (n : Int) | box (k : Int) | op (o : Op4) (a b : Ex) | call (f : Int) (e : Ex)
inductive Sm where
  | set (k : Int) (e : Ex) | say (e : Ex) | iff (e : Ex) (a b : List Sm) | loop (e : Ex) (b : List Sm) | leave | next | give (e : Ex) | raise (e : Ex) | catch (b : List Sm) (n : Option Int) (k : Int) (h : List Sm) | endd (b l : List Sm)
abbrev Pg := List (List Sm)
@[reducible] def optD : Option Int → PyData
  | none => .none
  | some n => .int n
def Ex.enc : Ex → PyData
  | .num n => .tuple [.str "num", .int n]
  | .box k => .tuple [.str "box", .int k]
  | .op o a b => .tuple [.str o.word, a.enc, b.enc]
  | .call f e => .tuple [.str "call", .int f, e.enc]
mutual
def Sm.enc : Sm → PyData
  | .set k e => .tuple [.str "set", .int k, e.enc]
  | .say e => .tuple [.str "say", e.enc]
  | .iff e a b => .tuple [.str "if", e.enc, .list (encL a), .list (encL b)]
  | .loop e b => .tuple [.str "loop", e.enc, .list (encL b)]
  | .leave => .tuple [.str "leave"]
  | .next => .tuple [.str "next"]
  | .give e => .tuple [.str "give", e.enc]
  | .raise e => .tuple [.str "raise", e.enc]
  | .catch b n k h => .tuple [.str "catch", .list (encL b), optD n, .int k, .list (encL h)]
  | .endd b l => .tuple [.str "end", .list (encL b), .list (encL l)]
def encL : List Sm → List PyData
  | [] => []
  | s :: r => s.enc :: encL r
end
theorem encL_map : ∀ l : List Sm, encL l = l.map Sm.enc
  | [] => rfl
  | s :: r => by rw [encL, encL_map r]; rfl
theorem encL_app (a b : List Sm) : encL (a ++ b) = encL a ++ encL b := by rw [encL_map, encL_map, encL_map, List.map_append]
theorem encL_len (a : List Sm) : (encL a).length = a.length := by rw [encL_map, List.length_map]
def encB (b : List Sm) : PyData := .list (encL b)
def encP (p : Pg) : PyData := .list (p.map encB)
/-! ### what is drawn -/
def nxt (ns : List Int) (p : Nat) : Int :=
  if p < ns.length then (ns[p]?).getD 0 else if 4 < ns.length ∧ p < 44 then ((ns[p % ns.length]?).getD 0 + 7919 * (p : Int)) * 48271 % 1000003 else 0
def numbT (c : Int) : Int := if c % 5 = 4 then c / 5 % 10 ^ Int.toNat 30 - 5 * 10 ^ Int.toNat 29 else c / 5 % 8 - 2
def opW (k : Int) : Op4 := if k = 4 then .add else if k = 5 then .sub else if k = 6 then .less else if k = 7 then .share else .add
/-- a tree at depth 6 - f; also the place behind -/
def treeG (ns : List Int) (count : Nat) : Nat → Nat → Ex × Nat
  | 0, p => if nxt ns p % 9 % 3 = 0 then (.num (numbT (nxt ns p / 9)), p + 1) else (.box (nxt ns p / 9 % 4), p + 1)
  | f + 1, p =>
    let kind := if f < 2 ∧ 0 < nxt ns p % 4 then nxt ns p % 9 % 3 else nxt ns p % 9
    if kind = 0 then (.num (numbT (nxt ns p / 9)), p + 1)
    else if kind < 3 then (.box (nxt ns p / 9 % 4), p + 1)
    else if kind = 3 then (.call (nxt ns p / 9 % (count : Int)) (treeG ns count f (p + 1)).1, (treeG ns count f (p + 1)).2)
    else (.op (opW kind) (treeG ns count f (p + 1)).1 (treeG ns count f (treeG ns count f (p + 1)).2).1, (treeG ns count f (treeG ns count f (p + 1)).2).2)
def outG (ns : List Int) (count : Nat) (more : Int) (loops : Nat) (p : Nat) : Sm × Nat :=
  if 0 < loops ∧ 0 < more % 4 then (if more % 2 = 0 then .leave else .next, p) else (.give (treeG ns count 5 p).1, (treeG ns count 5 p).2)
def manyR (row : Nat → Sm × Nat) : Nat → Nat → List Sm × Nat
  | 0, p => ([], p)
  | m + 1, p => ((row p).1 :: (manyR row m (row p).2).1, (manyR row m (row p).2).2)
theorem manyR_snoc (row : Nat → Sm × Nat) : ∀ (m p : Nat), manyR row (m + 1) p = ((manyR row m p).1 ++ [(row (manyR row m p).2).1], (row (manyR row m p).2).2)
  | 0, p => rfl
  | m + 1, p => by
    show ((row p).1 :: (manyR row (m + 1) (row p).2).1, (manyR row (m + 1) (row p).2).2) = _
    rw [manyR_snoc row m (row p).2]
    rfl
def blkG (ns : List Int) (extra : Nat) (row : Nat → Sm × Nat) (p : Nat) : List Sm × Nat := manyR row ((nxt ns p % 4).toNat + extra) (p + 1)
/-- a block at depth 1 has two more -/
abbrev Bf := Nat → Nat → List Sm × Nat
def lessE (k n : Int) : Ex := .op .less (.box k) (.num n)
def wayN (z : Int) : Sm := if z = 0 then .next else .leave
def loopG (ns : List Int) (count : Nat) (more : Int) (f : Nat) (B1 : Bf) (loops p : Nat) : Sm × Nat :=
  if more % 4 = 0 then (.loop (treeG ns count 5 p).1 (B1 (loops + 1) (treeG ns count 5 p).2).1, (B1 (loops + 1) (treeG ns count 5 p).2).2)
  else
    let k := more / 4 % 4
    let b := B1 (loops + 1) p
    let c := nxt ns b.2
    (.loop (lessE k (1 + more / 16 % 4)) ([.set k (.op .add (.box k) (.num 1))] ++ b.1 ++ if 3 ≤ f ∧ 0 < c % 3 then [.endd [.iff (lessE k (c / 3 % 4)) [wayN (c / 12 % 2)] [wayN (1 - c / 12 % 2)]] [.say (.box k)]] else []), b.2 + 1)
def catchN (more : Int) : Option Int := if more % 3 = 0 then none else if more % 3 = 1 then some (100 + more / 12 % 4) else some (numbT (more / 12))
def catchG (ns : List Int) (more : Int) (B1 : Bf) (loops p : Nat) : Sm × Nat :=
  let k := more / 3 % 4
  let b := B1 loops p
  let c := nxt ns b.2
  let h := B1 loops (b.2 + 1)
  (.catch (b.1 ++ (match catchN more with
    | some n => if c % 3 = 1 then [.raise (.num n)] else if c % 3 = 2 then [.raise (.num (100 + c / 3 % 4))] else []
    | none => if c % 3 = 2 then [.raise (.num (100 + c / 3 % 4))] else [])) (catchN more) k (.say (.box k) :: h.1), h.2)
def endsG (ns : List Int) (count : Nat) (more : Int) (B1 B2 : Bf) (loops p : Nat) : Sm × Nat :=
  let b := B2 loops p
  let o := outG ns count (more / 3) loops b.2
  let q := if 0 < more % 3 then o.2 else b.2
  let l := B1 loops q
  (.endd [.endd (if 0 < more % 3 then b.1 ++ [o.1] else b.1) [.say (.num (more / 12 % 9))]] ([.say (.num (10 + more / 12 % 9))] ++ l.1), l.2)
/-- a statement at depth 7 - f -/
def rowS (ns : List Int) (count : Nat) (f : Nat) (B1 B2 : Bf) (loops p : Nat) : Sm × Nat :=
  let c := nxt ns p
  let more := c / 12
  let kind := if f = 0 then c % 12 % 5 else c % 12
  if kind = 0 then (.set (more % 4) (treeG ns count 5 (p + 1)).1, (treeG ns count 5 (p + 1)).2)
  else if kind < 3 then (.say (treeG ns count 5 (p + 1)).1, (treeG ns count 5 (p + 1)).2)
  else if kind = 3 then outG ns count more loops (p + 1)
  else if kind = 4 then (.raise (if more % 3 = 0 then (treeG ns count 4 (p + 1)).1 else .num (100 + more / 3 % 4)), (treeG ns count 4 (p + 1)).2)
  else if kind < 7 then loopG ns count more f B1 loops (p + 1)
  else if kind = 7 then
    let t := treeG ns count 5 (p + 1)
    let a := B1 loops t.2
    let b := B1 loops a.2
    (.iff t.1 a.1 b.1, b.2)
  else if kind < 10 then catchG ns more B1 loops (p + 1)
  else if kind = 11 ∧ 2 ≤ f then endsG ns count more B1 B2 loops (p + 1)
  else
    let a := B1 loops (p + 1)
    let b := B1 loops a.2
    (.endd a.1 b.1, b.2)
def nob : Bf := fun _ p => ([], p)
def rowG (ns : List Int) (count : Nat) : Nat → Nat → Nat → Sm × Nat
  | 0 => rowS ns count 0 nob nob
  | 1 => rowS ns count 1 (fun l => blkG ns 0 (rowS ns count 0 nob nob l)) nob
  | f + 2 => rowS ns count (f + 2) (fun l => blkG ns 0 (rowG ns count (f + 1) l)) (fun l => blkG ns 0 (rowG ns count f l))
/-- the block at depth 7 - f -/
def blk (ns : List Int) (count f : Nat) (loops p : Nat) : List Sm × Nat := blkG ns (if f = 6 then 2 else 0) (rowG ns count f loops) p
def othersG (ns : List Int) (count : Nat) : Nat → Nat → Pg × Nat
  | 0, p => ([], p)
  | m + 1, p => let o := othersG ns count m p; let b := blk ns count 5 0 o.2; (o.1 ++ [b.1], b.2)
def countG (c : Int) : Nat := if c / 3 % 8 = 1 then 8 else (1 + c % 3).toNat
def progG (ns : List Int) (p : Nat) : Pg × Nat :=
  let n := countG (nxt ns p)
  let o := othersG ns n (n - 1) (p + 1)
  let m := blk ns n 6 0 o.2
  ([m.1] ++ o.1, m.2)
/-! ### trees, kind by kind -/
def kT (f : Nat) (c : Int) : Int := if f = 0 ∨ (f < 3 ∧ 0 < c % 4) then c % 9 % 3 else c % 9
section
variable {ns : List Int} {count f p : Nat}
theorem kT_S (c : Int) : kT (f + 1) c = if f < 2 ∧ 0 < c % 4 then c % 9 % 3 else c % 9 := by
  unfold kT
  by_cases h : f < 2 ∧ 0 < c % 4
  · rw [if_pos h, if_pos (.inr ⟨by omega, h.2⟩)]
  · rw [if_neg h, if_neg (fun z => z.elim (fun z => by omega) fun z => h ⟨by omega, z.2⟩)]
theorem kT_bd (c : Int) : 0 ≤ kT f c ∧ kT f c ≤ 8 := by
  unfold kT
  split <;> omega
theorem kT_0 (c : Int) : kT 0 c < 3 := by
  unfold kT
  rw [if_pos (.inl rfl)]
  omega
theorem tg_num (h : kT f (nxt ns p) = 0) : treeG ns count f p = (.num (numbT (nxt ns p / 9)), p + 1) := by
  cases f with
  | zero =>
    unfold treeG
    rw [if_pos (by unfold kT at h; rwa [if_pos (.inl rfl)] at h)]
  | succ f =>
    rw [kT_S] at h
    unfold treeG
    simp only
    rw [if_pos h]
theorem tg_box (h0 : ¬ kT f (nxt ns p) = 0) (h : kT f (nxt ns p) < 3) : treeG ns count f p = (.box (nxt ns p / 9 % 4), p + 1) := by
  cases f with
  | zero =>
    unfold treeG
    rw [if_neg (by unfold kT at h0; rwa [if_pos (.inl rfl)] at h0)]
  | succ f =>
    rw [kT_S] at h h0
    unfold treeG
    simp only
    rw [if_neg h0, if_pos h]
theorem tg_call (h : kT (f + 1) (nxt ns p) = 3) : treeG ns count (f + 1) p = (.call (nxt ns p / 9 % (count : Int)) (treeG ns count f (p + 1)).1, (treeG ns count f (p + 1)).2) := by
  rw [kT_S] at h
  rw [treeG]
  rw [if_neg (by omega), if_neg (by omega), if_pos h]
theorem tg_op (h : 3 < kT (f + 1) (nxt ns p)) : treeG ns count (f + 1) p = (.op (opW (kT (f + 1) (nxt ns p))) (treeG ns count f (p + 1)).1 (treeG ns count f (treeG ns count f (p + 1)).2).1, (treeG ns count f (treeG ns count f (p + 1)).2).2) := by
  rw [kT_S] at h ⊢
  rw [treeG]
  rw [if_neg (by omega), if_neg (by omega), if_neg (by omega)]
end
theorem manyR_len (row : Nat → Sm × Nat) : ∀ (m p : Nat), (manyR row m p).1.length = m
  | 0, _ => rfl
  | m + 1, p => congrArg (· + 1) (manyR_len row m (row p).2)
theorem blk_len (ns : List Int) (count f loops p : Nat) : (blk ns count f loops p).1.length ≤ 5 := by
  unfold blk blkG
  rw [manyR_len]
  split <;> omega
theorem rowG_0 (ns : List Int) (count : Nat) : rowG ns count 0 = rowS ns count 0 nob nob := rfl
theorem rowG_1 (ns : List Int) (count : Nat) : rowG ns count 1 = rowS ns count 1 (blk ns count 0) nob := rfl
theorem rowG_S (ns : List Int) (count f : Nat) (h : f ≤ 4) : rowG ns count (f + 2) = rowS ns count (f + 2) (blk ns count (f + 1)) (blk ns count f) := by
  rw [rowG]
  congr 1
  · funext l p
    unfold blk
    rw [if_neg (by omega)]
  · funext l p
    unfold blk
    rw [if_neg (by omega)]
theorem rowG_S' (ns : List Int) (count f : Nat) (h : f ≤ 6) : ∃ B1 B2, rowG ns count f = rowS ns count f B1 B2 ∧ (∀ g, f = g + 1 → B1 = blk ns count g) ∧ (∀ g, f = g + 2 → B2 = blk ns count g) := by
  match f with
  | 0 => exact ⟨nob, nob, rfl, fun g e => by omega, fun g e => by omega⟩
  | 1 => exact ⟨blk ns count 0, nob, rfl, fun g e => by rw [show g = 0 from by omega], fun g e => by omega⟩
  | f + 2 => exact ⟨_, _, rowG_S ns count f (by omega), fun g e => by rw [show g = f + 1 from by omega], fun g e => by rw [show g = f from by omega]⟩
theorem countG_bd (c : Int) : 1 ≤ countG c ∧ countG c ≤ 8 := by
  unfold countG
  split <;> omega
theorem othersG_len (ns : List Int) (count : Nat) : ∀ (m p : Nat), (othersG ns count m p).1.length = m
  | 0, _ => rfl
  | m + 1, p => by
    show ((othersG ns count m p).1 ++ [_]).length = m + 1
    rw [List.length_append, othersG_len ns count m p]
    rfl
theorem progG_len (ns : List Int) (p : Nat) : (progG ns p).1.length = countG (nxt ns p) := by
  have := countG_bd (nxt ns p)
  show ([_] ++ (othersG ns _ _ _).1).length = _
  rw [List.length_append, othersG_len, List.length_singleton]
  omega
end TR

/-! T2: what is made of a program, as a function (own work). -/
namespace TR
open PySem L2 U MM
/-- a row before the marks have places -/
inductive Rr where
  | put (n : Int) | way (m : Nat) | get (k : Int) | set (k : Int) | on (k : Int) | say | rek (o : Op4) | go (m : Nat) | nought (m : Nat) | turn | call (f : Int) | back | raise
def Rr.enc : Rr → PyData
  | .put n => .tuple [.str "put", .int n]
  | .way m => .tuple [.str "way", .int (m : Nat)]
  | .get k => .tuple [.str "get", .int k]
  | .set k => .tuple [.str "set", .int k]
  | .on k => .tuple [.str "on", .int k]
  | .say => .tuple [.str "say"]
  | .rek o => .tuple [.str o.word]
  | .go m => .tuple [.str "go", .int (m : Nat)]
  | .nought m => .tuple [.str "nought", .int (m : Nat)]
  | .turn => .tuple [.str "turn"]
  | .call f => .tuple [.str "call", .int f]
  | .back => .tuple [.str "back"]
  | .raise => .tuple [.str "raise"]
structure Mk where
  rows : List Rr
  str : List (Nat × Nat × Nat)
  places : List (Option Nat)
  boxes : Nat
structure Ar where
  give : Nat
  lv : Option (Nat × Nat)
  ends : Nat
def Mk.mark (s : Mk) : Mk := { s with places := s.places ++ [none] }
def Mk.here (s : Mk) (m : Nat) : Mk := { s with places := s.places.set m (some s.rows.length) }
def Mk.make (s : Mk) (r : Rr) : Mk := { s with rows := s.rows ++ [r] }
def Mk.box (s : Mk) (b : Nat) : Mk := { s with boxes := max s.boxes b }
def heldC (f : Mk → Mk) (goal : Nat) (s : Mk) : Mk := if s.rows.length < (f s).rows.length then { f s with str := (f s).str ++ [(s.rows.length, (f s).rows.length, goal)] } else f s
def goLast (way mark start : Nat) (s : Mk) : Mk := ((s.make (.way mark)).make (.set (way : Nat))).make (.go start)
def bring (mark way start : Nat) (s : Mk) : Mk := goLast way s.places.length start ((s.mark.here mark).make (.set ((way + 1 : Nat) : Int)))
def exC : Ex → Mk → Mk
  | .num n, s => s.make (.put n)
  | .box k, s => s.make (.get k)
  | .call f e, s => (exC e s).make (.call f)
  | .op o a b, s => (exC b (exC a s)).make (.rek o)
def othersC (z : Int) (s : Mk) : Mk :=
  let o := s.places.length
  ((((((((((s.mark.make (.set 4)).make (.get 4)).make (.put z)).make (.rek .sub)).make (.nought o)).make (.get 4)).make .raise).here o).make (.get 4)))
def wantC (n : Option Int) (s : Mk) : Mk := match n with
  | none => s
  | some z => othersC z s
def goOuts (way o : Nat) : Option (Nat × Nat) → Mk → Mk
  | none, s => s
  | some (lv, ag), s => goLast way ag (o + 1) ((goLast way lv (o + 1) (s.here (o + 4))).here (o + 5))
def innerA (o : Nat) (ar : Ar) : Ar := match ar.lv with
  | none => ⟨o + 3, none, ar.ends + 1⟩
  | some _ => ⟨o + 3, some (o + 4, o + 5), ar.ends + 1⟩
def marksE (ar : Ar) (s : Mk) : Mk := match ar.lv with
  | none => s.mark.mark.mark.mark
  | some _ => s.mark.mark.mark.mark.mark.mark
def endTail (way worth give_on fault_on behind give : Nat) (s : Mk) : Mk := (((((((s.make (.on (way : Nat))).here give_on).make (.get (worth : Nat))).make (.go give)).here fault_on).make (.get (worth : Nat))).make .raise).here behind
mutual
def smC : Sm → Ar → Mk → Mk
  | .set k e, _, s => (exC e s).make (.set k)
  | .say e, _, s => (exC e s).make .say
  | .raise e, _, s => (exC e s).make .raise
  | .give e, ar, s => (exC e s).make (.go ar.give)
  | .leave, ar, s => s.make (.go (ar.lv.getD (0, 0)).1)
  | .next, ar, s => s.make (.go (ar.lv.getD (0, 0)).2)
  | .iff e a b, ar, s => (blC b ar (((blC a ar ((exC e s.mark.mark).make (.nought s.places.length))).make (.go (s.places.length + 1))).here s.places.length)).here (s.places.length + 1)
  | .loop e b, ar, s => ((blC b ⟨ar.give, some (s.places.length + 1, s.places.length), ar.ends⟩ ((exC e ((s.mark.mark.here s.places.length).make .turn)).make (.nought (s.places.length + 1)))).make (.go s.places.length)).here (s.places.length + 1)
  | .catch b n k h, ar, s =>
    let s3 := ((heldC (blC b ar) s.places.length s.mark.mark).make (.go (s.places.length + 1))).here s.places.length
    (blC h ar ((wantC n s3).make (.set k))).here (s.places.length + 1)
  | .endd b l, ar, s =>
    let o := s.places.length
    let way := 5 + 2 * ar.ends
    let s2 := heldC (blC b (innerA o ar)) o (marksE ar (s.box (way + 2)))
    let s4 := goOuts way o ar.lv (goLast way (o + 2) (o + 1) s2)
    let s5 := bring (o + 3) way (o + 1) s4
    let s6 := bring o way (o + 1) s5
    endTail way (way + 1) s4.places.length s5.places.length (o + 2) ar.give (blC l ⟨ar.give, ar.lv, ar.ends + 1⟩ (s6.here (o + 1)))
def blC : List Sm → Ar → Mk → Mk
  | [], _, s => s
  | x :: r, ar, s => blC r ar (smC x ar s)
end
def fnC (b : List Sm) (s : Mk) : Mk := (((blC b ⟨s.places.length, none, 0⟩ s.mark).make (.put 0)).here s.places.length).make .back
/-! ### sizes: how much longer the three lists become together -/
def Mk.tot (s : Mk) : Nat := s.rows.length + s.str.length + s.places.length
def Ex.sz : Ex → Nat
  | .num _ => 1
  | .box _ => 1
  | .call _ e => e.sz + 1
  | .op _ a b => a.sz + b.sz + 1
mutual
def Sm.sz : Sm → Nat
  | .set _ e => e.sz + 1
  | .say e => e.sz + 1
  | .raise e => e.sz + 1
  | .give e => e.sz + 1
  | .leave => 1
  | .next => 1
  | .iff e a b => e.sz + szL a + szL b + 4
  | .loop e b => e.sz + szL b + 5
  | .catch b _ _ h => szL b + szL h + 14
  | .endd b l => szL b + szL l + 31
def szL : List Sm → Nat
  | [] => 0
  | x :: r => x.sz + szL r
end
section
variable {s : Mk} {m : Nat} {r : Rr}
theorem tot_mark : s.mark.tot = s.tot + 1 := by simp only [Mk.mark, Mk.tot, List.length_append, List.length_singleton]; omega
theorem tot_here : (s.here m).tot = s.tot := by simp only [Mk.here, Mk.tot, List.length_set]
theorem tot_make : (s.make r).tot = s.tot + 1 := by simp only [Mk.make, Mk.tot, List.length_append, List.length_singleton]; omega
theorem tot_box : (s.box m).tot = s.tot := rfl
theorem tot_goLast {way mark start : Nat} : (goLast way mark start s).tot = s.tot + 3 := by unfold goLast; rw [tot_make, tot_make, tot_make]
theorem tot_bring {way mark start : Nat} : (bring mark way start s).tot = s.tot + 5 := by unfold bring; rw [tot_goLast, tot_make, tot_here, tot_mark]
theorem tot_held {f : Mk → Mk} {goal n : Nat} (h : (f s).tot ≤ s.tot + n) : (heldC f goal s).tot ≤ s.tot + n + 1 := by
  unfold heldC
  split
  · show (f s).rows.length + ((f s).str ++ [_]).length + (f s).places.length ≤ _
    rw [List.length_append, List.length_singleton]
    unfold Mk.tot at *
    omega
  · omega
theorem tot_ex : ∀ (e : Ex) (s : Mk), (exC e s).tot = s.tot + e.sz
  | .num _, s => by rw [exC, tot_make, Ex.sz]
  | .box _, s => by rw [exC, tot_make, Ex.sz]
  | .call _ e, s => by rw [exC, tot_make, tot_ex e, Ex.sz]; omega
  | .op _ a b, s => by rw [exC, tot_make, tot_ex b, tot_ex a, Ex.sz]; omega
theorem tot_others {z : Int} : (othersC z s).tot = s.tot + 9 := by
  unfold othersC
  simp only [tot_make, tot_here, tot_mark]
theorem tot_want {n : Option Int} : (wantC n s).tot ≤ s.tot + 9 := by
  cases n with
  | none => show s.tot ≤ _; omega
  | some z => show (othersC z s).tot ≤ _; rw [tot_others]; omega
theorem tot_goOuts {way o : Nat} : ∀ (lv : Option (Nat × Nat)) (s : Mk), (goOuts way o lv s).tot ≤ s.tot + 6
  | none, s => by show s.tot ≤ _; omega
  | some (lv, ag), s => by unfold goOuts; rw [tot_goLast, tot_here, tot_goLast, tot_here]; omega
theorem tot_marksE {ar : Ar} : (marksE ar s).tot ≤ s.tot + 6 := by
  unfold marksE
  split <;> simp only [tot_mark] <;> omega
theorem tot_endTail {way worth g f b gv : Nat} : (endTail way worth g f b gv s).tot = s.tot + 5 := by
  unfold endTail
  simp only [tot_make, tot_here]
end
mutual
theorem tot_sm : ∀ (x : Sm) (ar : Ar) (s : Mk), (smC x ar s).tot ≤ s.tot + x.sz
  | .set _ e, _, s => by rw [smC, tot_make, tot_ex, Sm.sz]; omega
  | .say e, _, s => by rw [smC, tot_make, tot_ex, Sm.sz]; omega
  | .raise e, _, s => by rw [smC, tot_make, tot_ex, Sm.sz]; omega
  | .give e, _, s => by rw [smC, tot_make, tot_ex, Sm.sz]; omega
  | .leave, _, s => by rw [smC, tot_make, Sm.sz]; omega
  | .next, _, s => by rw [smC, tot_make, Sm.sz]; omega
  | .iff e a b, ar, s => by
    rw [smC, tot_here, Sm.sz]
    refine Nat.le_trans (tot_bl b ar _) ?_
    rw [tot_here, tot_make]
    have h := tot_bl a ar ((exC e s.mark.mark).make (.nought s.places.length))
    rw [tot_make, tot_ex, tot_mark, tot_mark] at h
    omega
  | .loop e b, ar, s => by
    rw [smC, tot_here, tot_make, Sm.sz]
    have h := tot_bl b ⟨ar.give, some (s.places.length + 1, s.places.length), ar.ends⟩ ((exC e ((s.mark.mark.here s.places.length).make .turn)).make (.nought (s.places.length + 1)))
    rw [tot_make, tot_ex, tot_make, tot_here, tot_mark, tot_mark] at h
    omega
  | .catch b n k h, ar, s => by
    rw [smC, Sm.sz]
    rw [tot_here]
    refine Nat.le_trans (tot_bl h ar _) ?_
    rw [tot_make]
    have h1 := tot_held (goal := s.places.length) (tot_bl b ar s.mark.mark)
    rw [tot_mark, tot_mark] at h1
    have h2 := tot_want (n := n) (s := ((heldC (blC b ar) s.places.length s.mark.mark).make (.go (s.places.length + 1))).here s.places.length)
    rw [tot_here, tot_make] at h2
    omega
  | .endd b l, ar, s => by
    rw [smC, Sm.sz]
    rw [tot_endTail]
    have h0 := tot_marksE (ar := ar) (s := s.box (5 + 2 * ar.ends + 2))
    rw [tot_box] at h0
    have h1 := tot_held (goal := s.places.length) (tot_bl b (innerA s.places.length ar) (marksE ar (s.box (5 + 2 * ar.ends + 2))))
    generalize heldC (blC b (innerA s.places.length ar)) s.places.length (marksE ar (s.box (5 + 2 * ar.ends + 2))) = s2 at *
    have h2 := tot_goOuts (way := 5 + 2 * ar.ends) (o := s.places.length) ar.lv (goLast (5 + 2 * ar.ends) (s.places.length + 2) (s.places.length + 1) s2)
    rw [tot_goLast] at h2
    generalize goOuts (5 + 2 * ar.ends) s.places.length ar.lv (goLast (5 + 2 * ar.ends) (s.places.length + 2) (s.places.length + 1) s2) = s4 at *
    have h3 := tot_bl l ⟨ar.give, ar.lv, ar.ends + 1⟩ ((bring s.places.length (5 + 2 * ar.ends) (s.places.length + 1) (bring (s.places.length + 3) (5 + 2 * ar.ends) (s.places.length + 1) s4)).here (s.places.length + 1))
    rw [tot_here, tot_bring, tot_bring] at h3
    omega
theorem tot_bl : ∀ (l : List Sm) (ar : Ar) (s : Mk), (blC l ar s).tot ≤ s.tot + szL l
  | [], _, s => by rw [blC, szL]; omega
  | x :: r, ar, s => by
    rw [blC, szL]
    have h1 := tot_sm x ar s
    have h2 := tot_bl r ar (smC x ar s)
    omega
end
def Ex.dep : Ex → Nat
  | .num _ => 1
  | .box _ => 1
  | .call _ e => e.dep + 1
  | .op _ a b => max a.dep b.dep + 1
def Sm.ki : Sm → Nat
  | .set _ _ => 0
  | .say _ => 1
  | .raise _ => 1
  | .iff _ _ _ => 2
  | .loop _ _ => 3
  | .leave => 4
  | .next => 5
  | .give _ => 6
  | .catch _ _ _ _ => 7
  | .endd _ _ => 8
def Sm.word : Sm → String
  | .set _ _ => "set"
  | .say _ => "say"
  | .raise _ => "raise"
  | .iff _ _ _ => "if"
  | .loop _ _ => "loop"
  | .leave => "leave"
  | .next => "next"
  | .give _ => "give"
  | .catch _ _ _ _ => "catch"
  | .endd _ _ => "end"
mutual
/-- expressions at most six deep; ways out of loops only in loops; at most m blocks in one another -/
def Sm.ok : Sm → Bool → Nat → Prop
  | .set _ e, _, _ => e.dep ≤ 6
  | .say e, _, _ => e.dep ≤ 6
  | .raise e, _, _ => e.dep ≤ 6
  | .give e, _, _ => e.dep ≤ 6
  | .leave, lp, _ => lp = true
  | .next, lp, _ => lp = true
  | .iff e a b, lp, m => e.dep ≤ 6 ∧ okL a lp m ∧ okL b lp m
  | .loop e b, _, m => e.dep ≤ 6 ∧ okL b true m
  | .catch b _ _ h, lp, m => okL b lp m ∧ okL h lp m
  | .endd b l, lp, m => okL b lp m ∧ okL l lp m
def okL : List Sm → Bool → Nat → Prop
  | [], _, m => 0 < m
  | x :: r, lp, m => x.ok lp (m - 1) ∧ okL r lp m
end
theorem okL_pos : ∀ {l : List Sm} {lp : Bool} {m : Nat}, okL l lp m → 0 < m
  | [], _, _, h => by rwa [okL] at h
  | _ :: r, _, _, h => by rw [okL] at h; exact okL_pos h.2
theorem okL_get : ∀ {l : List Sm} {lp : Bool} {m i : Nat} {x : Sm}, okL l lp m → l[i]? = some x → x.ok lp (m - 1)
  | [], _, _, _, _, _, h => by cases h
  | y :: r, _, _, 0, x, h, e => by rw [okL] at h; cases e; exact h.1
  | y :: r, _, _, i + 1, x, h, e => by rw [okL] at h; exact okL_get h.2 e
end TR

/-! T3: how many marks there are (own work). -/
namespace TR
open PySem L2 U MM
section
variable {s : Mk} {m : Nat} {r : Rr}
theorem pn_mark : s.mark.places.length = s.places.length + 1 := by unfold Mk.mark; rw [List.length_append, List.length_singleton]
theorem pn_here : (s.here m).places.length = s.places.length := by unfold Mk.here; rw [List.length_set]
theorem pn_make : (s.make r).places.length = s.places.length := rfl
theorem pn_box : (s.box m).places.length = s.places.length := rfl
theorem pn_goLast {way mark start : Nat} : (goLast way mark start s).places.length = s.places.length := rfl
theorem pn_bring {way mark start : Nat} : (bring mark way start s).places.length = s.places.length + 1 := by unfold bring; rw [pn_goLast, pn_make, pn_here, pn_mark]
theorem pn_held {f : Mk → Mk} {goal : Nat} : (heldC f goal s).places.length = (f s).places.length := by
  unfold heldC
  split <;> rfl
theorem pn_ex : ∀ (e : Ex) (s : Mk), (exC e s).places.length = s.places.length
  | .num _, s => rfl
  | .box _, s => rfl
  | .call _ e, s => by rw [exC, pn_make, pn_ex e]
  | .op _ a b, s => by rw [exC, pn_make, pn_ex b, pn_ex a]
theorem pn_others {z : Int} : (othersC z s).places.length = s.places.length + 1 := by
  unfold othersC
  simp only [pn_make, pn_here, pn_mark]
theorem pn_want {n : Option Int} : s.places.length ≤ (wantC n s).places.length := by
  cases n with
  | none => exact Nat.le_refl _
  | some z => show _ ≤ (othersC z s).places.length; rw [pn_others]; omega
theorem pn_goOuts {way o : Nat} : ∀ (lv : Option (Nat × Nat)) (s : Mk), (goOuts way o lv s).places.length = s.places.length
  | none, s => rfl
  | some (lv, ag), s => by unfold goOuts; rw [pn_goLast, pn_here, pn_goLast, pn_here]
theorem pn_marksE {ar : Ar} : (marksE ar s).places.length = s.places.length + (if ar.lv.isSome then 6 else 4) := by
  unfold marksE
  cases ar.lv <;> simp [pn_mark]
theorem pn_endTail {way worth g f b gv : Nat} : (endTail way worth g f b gv s).places.length = s.places.length := by
  unfold endTail
  simp only [pn_make, pn_here]
end
mutual
theorem pn_sm : ∀ (x : Sm) (ar : Ar) (s : Mk), s.places.length ≤ (smC x ar s).places.length
  | .set _ e, _, s => by rw [smC, pn_make, pn_ex]; exact Nat.le_refl _
  | .say e, _, s => by rw [smC, pn_make, pn_ex]; exact Nat.le_refl _
  | .raise e, _, s => by rw [smC, pn_make, pn_ex]; exact Nat.le_refl _
  | .give e, _, s => by rw [smC, pn_make, pn_ex]; exact Nat.le_refl _
  | .leave, _, s => by rw [smC]; exact Nat.le_refl _
  | .next, _, s => by rw [smC]; exact Nat.le_refl _
  | .iff e a b, ar, s => by
    rw [smC, pn_here]
    refine Nat.le_trans ?_ (pn_bl b ar _)
    rw [pn_here, pn_make]
    refine Nat.le_trans ?_ (pn_bl a ar _)
    rw [pn_make, pn_ex, pn_mark, pn_mark]
    omega
  | .loop e b, ar, s => by
    rw [smC, pn_here, pn_make]
    refine Nat.le_trans ?_ (pn_bl b _ _)
    rw [pn_make, pn_ex, pn_make, pn_here, pn_mark, pn_mark]
    omega
  | .catch b n k h, ar, s => by
    rw [smC, pn_here]
    refine Nat.le_trans ?_ (pn_bl h ar _)
    rw [pn_make]
    refine Nat.le_trans ?_ pn_want
    rw [pn_here, pn_make, pn_held]
    refine Nat.le_trans ?_ (pn_bl b ar _)
    rw [pn_mark, pn_mark]
    omega
  | .endd b l, ar, s => by
    rw [smC, pn_endTail]
    refine Nat.le_trans ?_ (pn_bl l _ _)
    rw [pn_here, pn_bring, pn_bring, pn_goOuts, pn_goLast, pn_held]
    refine Nat.le_trans ?_ (Nat.add_le_add_right (Nat.add_le_add_right (pn_bl b _ _) 1) 1)
    rw [pn_marksE, pn_box]
    omega
theorem pn_bl : ∀ (l : List Sm) (ar : Ar) (s : Mk), s.places.length ≤ (blC l ar s).places.length
  | [], _, s => by rw [blC]; exact Nat.le_refl _
  | x :: r, ar, s => by
    rw [blC]
    exact Nat.le_trans (pn_sm x ar s) (pn_bl r ar _)
end
end TR

/-! T4: how large the laws' programs are, and that they are good (own work). -/
namespace TR
open PySem L2 U MM
/-- the cells that may be other than 0 -/
def mm (p : Nat) : Nat := min p 63
theorem mm_le {p q : Nat} (h : p ≤ q) : mm p ≤ mm q := by unfold mm; omega
theorem mm_S {p : Nat} (h : p < 63) : mm (p + 1) = mm p + 1 := by unfold mm; omega
section
variable {ns : List Int} {count : Nat}
theorem nxt_0 {p : Nat} (hl : ns.length ≤ 63) (h : 63 ≤ p) : nxt ns p = 0 := by
  unfold nxt
  rw [if_neg (by omega), if_neg (by omega)]
theorem nxt_lt {p : Nat} (hl : ns.length ≤ 63) (h : nxt ns p ≠ 0) : p < 63 := by
  by_cases c : p < 63
  · exact c
  · exact absurd (nxt_0 hl (by omega)) h
theorem kT_zero (f : Nat) : kT f 0 = 0 := by
  unfold kT
  split <;> rfl
theorem tree_sz (hl : ns.length ≤ 63) : ∀ (f p : Nat), (treeG ns count f p).1.sz + 2 * mm p ≤ 2 * mm (treeG ns count f p).2 + 1 ∧ p < (treeG ns count f p).2 ∧ (treeG ns count f p).1.dep ≤ f + 1
  | f, p => by
    have hm : mm p ≤ mm (p + 1) := mm_le (Nat.le_succ p)
    by_cases h0 : kT f (nxt ns p) = 0
    · rw [tg_num h0]
      refine ⟨?_, Nat.lt_succ_self p, ?_⟩
      · show 1 + _ ≤ _
        simp only
        omega
      · show 1 ≤ _
        omega
    by_cases h1 : kT f (nxt ns p) < 3
    · rw [tg_box h0 h1]
      refine ⟨?_, Nat.lt_succ_self p, ?_⟩
      · show 1 + _ ≤ _
        simp only
        omega
      · show 1 ≤ _
        omega
    have hp : p < 63 := nxt_lt hl fun z => h0 (by rw [z]; exact kT_zero f)
    have hS := mm_S hp
    match f, h0, h1 with
    | 0, _, h1 => exact absurd (kT_0 _) h1
    | f + 1, h0, h1 =>
      obtain ⟨a1, a2, a3⟩ := tree_sz hl f (p + 1)
      by_cases h2 : kT (f + 1) (nxt ns p) = 3
      · rw [tg_call h2]
        refine ⟨?_, by simp only; omega, ?_⟩
        · show (treeG ns count f (p + 1)).1.sz + 1 + _ ≤ _
          simp only
          omega
        · show (treeG ns count f (p + 1)).1.dep + 1 ≤ _
          omega
      · rw [tg_op (by omega)]
        obtain ⟨b1, b2, b3⟩ := tree_sz hl f (treeG ns count f (p + 1)).2
        refine ⟨?_, by simp only; omega, ?_⟩
        · show (treeG ns count f (p + 1)).1.sz + (treeG ns count f (treeG ns count f (p + 1)).2).1.sz + 1 + _ ≤ _
          simp only
          omega
        · show max (treeG ns count f (p + 1)).1.dep (treeG ns count f (treeG ns count f (p + 1)).2).1.dep + 1 ≤ _
          omega
termination_by f => f
def Sml (B : Bf) : Prop := ∀ l p, szL (B l p).1 + 210 * mm p ≤ 210 * mm (B l p).2 ∧ p ≤ (B l p).2
theorem szL_app' : ∀ (l r : List Sm), szL (l ++ r) = szL l + szL r
  | [], r => by rw [List.nil_append, szL]; omega
  | y :: l, r => by rw [List.cons_append, szL, szL, szL_app' l r]; omega
theorem szL_1 (x : Sm) : szL [x] = x.sz := by rw [szL, szL]; omega
theorem out_sz (hl : ns.length ≤ 63) (more : Int) (loops p : Nat) : (outG ns count more loops p).1.sz + 210 * mm p ≤ 210 * mm (outG ns count more loops p).2 + 2 ∧ p ≤ (outG ns count more loops p).2 := by
  unfold outG
  split
  · refine ⟨?_, Nat.le_refl _⟩
    simp only
    split <;> (rw [Sm.sz]; omega)
  · obtain ⟨t1, t2, _⟩ := tree_sz (count := count) hl 5 p
    have := mm_le (Nat.le_of_lt t2)
    simp only [Sm.sz]
    omega
theorem loop_sz (hl : ns.length ≤ 63) (more : Int) (f : Nat) {B1 : Bf} (h1 : Sml B1) (loops p : Nat) : (loopG ns count more f B1 loops p).1.sz + 210 * mm p ≤ 210 * mm (loopG ns count more f B1 loops p).2 + 60 ∧ p ≤ (loopG ns count more f B1 loops p).2 := by
  unfold loopG
  split
  · obtain ⟨t1, t2, _⟩ := tree_sz (count := count) hl 5 p
    have := mm_le (Nat.le_of_lt t2)
    obtain ⟨b1, b2⟩ := h1 (loops + 1) (treeG ns count 5 p).2
    simp only [Sm.sz]
    omega
  · obtain ⟨b1, b2⟩ := h1 (loops + 1) p
    simp only [Sm.sz, szL_app', szL_1, Ex.sz, lessE]
    have := mm_le (Nat.le_add_right (B1 (loops + 1) p).2 1)
    have hz : szL (if 3 ≤ f ∧ 0 < nxt ns (B1 (loops + 1) p).2 % 3 then [Sm.endd [Sm.iff (lessE (more / 4 % 4) (nxt ns (B1 (loops + 1) p).2 / 3 % 4)) [wayN (nxt ns (B1 (loops + 1) p).2 / 12 % 2)] [wayN (1 - nxt ns (B1 (loops + 1) p).2 / 12 % 2)]] [Sm.say (.box (more / 4 % 4))]] else []) ≤ 44 := by
      split
      · simp only [szL_1, Sm.sz, Ex.sz, lessE]
        unfold wayN
        split <;> split <;> simp only [Sm.sz] <;> omega
      · rw [szL]; omega
    unfold lessE at hz
    omega
theorem catch_sz (more : Int) {B1 : Bf} (h1 : Sml B1) (loops p : Nat) : (catchG ns more B1 loops p).1.sz + 210 * mm p ≤ 210 * mm (catchG ns more B1 loops p).2 + 30 ∧ p ≤ (catchG ns more B1 loops p).2 := by
  obtain ⟨b1, b2⟩ := h1 loops p
  obtain ⟨c1, c2⟩ := h1 loops ((B1 loops p).2 + 1)
  have := mm_le (Nat.le_add_right (B1 loops p).2 1)
  unfold catchG
  simp only [Sm.sz, szL_app', szL, Ex.sz]
  generalize catchN more = o
  generalize nxt ns (B1 loops p).2 = c
  cases o with
  | none =>
    simp only
    split <;> simp only [szL, Sm.sz, Ex.sz] <;> omega
  | some n =>
    simp only
    split
    · simp only [szL, Sm.sz, Ex.sz]; omega
    · split <;> simp only [szL, Sm.sz, Ex.sz] <;> omega
theorem ends_sz (hl : ns.length ≤ 63) (more : Int) {B1 B2 : Bf} (h1 : Sml B1) (h2 : Sml B2) (loops p : Nat) : (endsG ns count more B1 B2 loops p).1.sz + 210 * mm p ≤ 210 * mm (endsG ns count more B1 B2 loops p).2 + 70 ∧ p ≤ (endsG ns count more B1 B2 loops p).2 := by
  obtain ⟨b1, b2⟩ := h2 loops p
  obtain ⟨o1, o2⟩ := out_sz (count := count) hl (more / 3) loops (B2 loops p).2
  unfold endsG
  by_cases c : 0 < more % 3
  · simp only [if_pos c, Sm.sz, szL_app', szL, Ex.sz]
    obtain ⟨c1, c2⟩ := h1 loops (outG ns count (more / 3) loops (B2 loops p).2).2
    omega
  · simp only [if_neg c, Sm.sz, szL_app', szL, Ex.sz]
    obtain ⟨c1, c2⟩ := h1 loops (B2 loops p).2
    omega
theorem row_sz (hl : ns.length ≤ 63) (F : Nat) {B1 B2 : Bf} (h1 : Sml B1) (h2 : Sml B2) (loops p : Nat) : (rowS ns count F B1 B2 loops p).1.sz + 210 * mm p ≤ 210 * mm (rowS ns count F B1 B2 loops p).2 + 70 ∧ p < (rowS ns count F B1 B2 loops p).2 := by
  have hm := mm_le (Nat.le_add_right p 1)
  obtain ⟨t1, t2, _⟩ := tree_sz (count := count) hl 5 (p + 1)
  obtain ⟨u1, u2, _⟩ := tree_sz (count := count) hl 4 (p + 1)
  have t3 := mm_le (Nat.le_of_lt t2)
  have u3 := mm_le (Nat.le_of_lt u2)
  unfold rowS
  simp only
  generalize (if F = 0 then nxt ns p % 12 % 5 else nxt ns p % 12) = kd
  generalize nxt ns p / 12 = more
  split
  · simp only [Sm.sz]; omega
  split
  · simp only [Sm.sz]; omega
  split
  · obtain ⟨o1, o2⟩ := out_sz (count := count) hl more loops (p + 1)
    omega
  split
  · have e : (if more % 3 = 0 then (treeG ns count 4 (p + 1)).1 else .num (100 + more / 3 % 4)).sz ≤ (treeG ns count 4 (p + 1)).1.sz + 1 := by
      split
      · omega
      · rw [Ex.sz]; omega
    simp only [Sm.sz]
    omega
  split
  · obtain ⟨o1, o2⟩ := loop_sz (count := count) hl more F h1 loops (p + 1)
    omega
  split
  · obtain ⟨a1, a2⟩ := h1 loops (treeG ns count 5 (p + 1)).2
    obtain ⟨b1, b2⟩ := h1 loops (B1 loops (treeG ns count 5 (p + 1)).2).2
    simp only [Sm.sz]
    omega
  split
  · obtain ⟨o1, o2⟩ := catch_sz (ns := ns) more h1 loops (p + 1)
    omega
  split
  · obtain ⟨o1, o2⟩ := ends_sz (count := count) hl more h1 h2 loops (p + 1)
    omega
  · obtain ⟨a1, a2⟩ := h1 loops (p + 1)
    obtain ⟨b1, b2⟩ := h1 loops (B1 loops (p + 1)).2
    simp only [Sm.sz]
    omega
theorem many_sz {row : Nat → Sm × Nat} (h : ∀ p, (row p).1.sz + 210 * mm p ≤ 210 * mm (row p).2 + 70 ∧ p < (row p).2) : ∀ (m p : Nat), szL (manyR row m p).1 + 210 * mm p ≤ 210 * mm (manyR row m p).2 + 70 * m ∧ p ≤ (manyR row m p).2
  | 0, p => by
    unfold manyR
    simp only [szL]
    omega
  | m + 1, p => by
    obtain ⟨a1, a2⟩ := h p
    obtain ⟨b1, b2⟩ := many_sz h m (row p).2
    unfold manyR
    simp only [szL]
    omega
theorem blkG_sz (hl : ns.length ≤ 63) (ex : Nat) {row : Nat → Sm × Nat} (h : ∀ p, (row p).1.sz + 210 * mm p ≤ 210 * mm (row p).2 + 70 ∧ p < (row p).2) (p : Nat) : szL (blkG ns ex row p).1 + 210 * mm p ≤ 210 * mm (blkG ns ex row p).2 + 70 * ex ∧ p < (blkG ns ex row p).2 := by
  obtain ⟨a1, a2⟩ := many_sz h ((nxt ns p % 4).toNat + ex) (p + 1)
  have hm := mm_le (Nat.le_add_right p 1)
  unfold blkG
  by_cases c : nxt ns p = 0
  · rw [c] at a1 a2 ⊢
    have e : ((0 : Int) % 4).toNat + ex = ex := by rw [show ((0 : Int) % 4).toNat = 0 from rfl]; omega
    rw [e] at a1 a2 ⊢
    omega
  · have hS := mm_S (nxt_lt hl c)
    have : (nxt ns p % 4).toNat ≤ 3 := by omega
    omega
theorem nob_sz : Sml nob := fun l p => by
  unfold nob
  simp only [szL]
  omega
theorem rowG_sz (hl : ns.length ≤ 63) : ∀ (f loops p : Nat), (rowG ns count f loops p).1.sz + 210 * mm p ≤ 210 * mm (rowG ns count f loops p).2 + 70 ∧ p < (rowG ns count f loops p).2
  | 0, loops, p => row_sz hl 0 nob_sz nob_sz loops p
  | 1, loops, p => row_sz hl 1 (fun l p => (blkG_sz hl 0 (fun p => rowG_sz hl 0 l p) p).imp (fun h => h) Nat.le_of_lt) nob_sz loops p
  | f + 2, loops, p => row_sz hl (f + 2) (fun l p => (blkG_sz hl 0 (fun p => rowG_sz hl (f + 1) l p) p).imp (fun h => h) Nat.le_of_lt) (fun l p => (blkG_sz hl 0 (fun p => rowG_sz hl f l p) p).imp (fun h => h) Nat.le_of_lt) loops p
theorem blk_sz (hl : ns.length ≤ 63) (f loops p : Nat) : szL (blk ns count f loops p).1 + 210 * mm p ≤ 210 * mm (blk ns count f loops p).2 + 140 ∧ p < (blk ns count f loops p).2 := by
  obtain ⟨a, b⟩ := blkG_sz hl (if f = 6 then 2 else 0) (fun p => rowG_sz (count := count) hl f loops p) p
  unfold blk
  refine ⟨?_, b⟩
  split at a <;> split <;> omega
end
end TR

/-! T5: the laws' programs are good (own work). -/
namespace TR
open PySem L2 U MM
section
variable {ns : List Int} {count : Nat}
theorem okL_app : ∀ {l r : List Sm} {lp : Bool} {m : Nat}, okL l lp m → okL r lp m → okL (l ++ r) lp m
  | [], r, _, _, _, h => h
  | x :: l, r, _, _, h, h2 => by
    rw [okL] at h
    rw [List.cons_append, okL]
    exact ⟨h.1, okL_app h.2 h2⟩
theorem okL_1 {x : Sm} {lp : Bool} {m : Nat} (h : x.ok lp m) : okL [x] lp (m + 1) := by
  rw [okL, okL]
  exact ⟨h, Nat.succ_pos m⟩
theorem out_ok (hl : ns.length ≤ 63) (more : Int) (loops p m : Nat) : (outG ns count more loops p).1.ok (decide (0 < loops)) m := by
  unfold outG
  split
  · rename_i h
    simp only
    split <;> (rw [Sm.ok]; exact decide_eq_true h.1)
  · simp only [Sm.ok]
    exact (tree_sz hl 5 p).2.2
def Okb (B : Bf) (m : Nat) : Prop := ∀ l p, okL (B l p).1 (decide (0 < l)) m
theorem loop_ok (hl : ns.length ≤ 63) (more : Int) (f : Nat) {B1 : Bf} (h1 : Okb B1 (f + 1)) (loops p : Nat) (lp : Bool) : (loopG ns count more (f + 1) B1 loops p).1.ok lp (f + 1) := by
  have hB : ∀ p, okL (B1 (loops + 1) p).1 true (f + 1) := fun p => by
    have h := h1 (loops + 1) p
    rwa [decide_eq_true (Nat.succ_pos loops)] at h
  unfold loopG
  split
  · simp only [Sm.ok]
    exact ⟨(tree_sz hl 5 p).2.2, hB _⟩
  · simp only [Sm.ok, lessE]
    refine ⟨by simp only [Ex.dep]; omega, okL_app (okL_app (okL_1 (by simp only [Sm.ok, Ex.dep]; omega)) (hB p)) ?_⟩
    split
    · rename_i c
      obtain ⟨g, rfl⟩ : ∃ g, f = g + 2 := ⟨f - 2, by omega⟩
      refine okL_1 ?_
      simp only [Sm.ok]
      refine ⟨okL_1 ?_, okL_1 (by simp only [Sm.ok, Ex.dep]; omega)⟩
      simp only [Sm.ok]
      refine ⟨by simp only [Ex.dep]; omega, okL_1 ?_, okL_1 ?_⟩ <;> (unfold wayN; split <;> rw [Sm.ok])
    · rw [okL]; exact Nat.succ_pos f
theorem catch_ok (more : Int) (f : Nat) {B1 : Bf} (h1 : Okb B1 (f + 1)) (loops p : Nat) : (catchG ns more B1 loops p).1.ok (decide (0 < loops)) (f + 1) := by
  unfold catchG
  simp only [Sm.ok]
  refine ⟨okL_app (h1 loops p) ?_, ?_⟩
  · generalize catchN more = o
    have nil : okL [] (decide (0 < loops)) (f + 1) := by rw [okL]; exact Nat.succ_pos f
    have one : ∀ z : Int, okL [Sm.raise (.num z)] (decide (0 < loops)) (f + 1) := fun z => okL_1 (by simp only [Sm.ok, Ex.dep]; omega)
    cases o with
    | none => simp only; split <;> first | exact one _ | exact nil
    | some n =>
      simp only
      split
      · exact one _
      · split <;> first | exact one _ | exact nil
  · rw [okL]
    exact ⟨by simp only [Sm.ok, Ex.dep]; omega, h1 loops _⟩
theorem ends_ok (hl : ns.length ≤ 63) (more : Int) (f : Nat) {B1 B2 : Bf} (h1 : Okb B1 (f + 2)) (h2 : Okb B2 (f + 1)) (loops p : Nat) : (endsG ns count more B1 B2 loops p).1.ok (decide (0 < loops)) (f + 2) := by
  unfold endsG
  simp only [Sm.ok]
  refine ⟨okL_1 ?_, okL_app (okL_1 (by simp only [Sm.ok, Ex.dep]; omega)) (h1 loops _)⟩
  simp only [Sm.ok]
  refine ⟨?_, okL_1 (by simp only [Sm.ok, Ex.dep]; omega)⟩
  split
  · exact okL_app (h2 loops p) (okL_1 (out_ok hl _ _ _ _))
  · exact h2 loops p
theorem row_ok (hl : ns.length ≤ 63) (F : Nat) {B1 B2 : Bf} (h1 : ∀ f, F = f + 1 → Okb B1 (f + 1)) (h2 : ∀ f, F = f + 2 → Okb B2 (f + 1)) (loops p : Nat) : (rowS ns count F B1 B2 loops p).1.ok (decide (0 < loops)) F := by
  have t5 := fun p => (tree_sz (ns := ns) (count := count) hl 5 p).2.2
  have t4 := fun p => (tree_sz (ns := ns) (count := count) hl 4 p).2.2
  unfold rowS
  simp only
  have hk0 : F = 0 → (if F = 0 then nxt ns p % 12 % 5 else nxt ns p % 12) < 5 := fun e => by rw [if_pos e]; omega
  generalize (if F = 0 then nxt ns p % 12 % 5 else nxt ns p % 12) = kd at *
  generalize nxt ns p / 12 = more
  split
  · simp only [Sm.ok]; exact t5 _
  split
  · simp only [Sm.ok]; exact t5 _
  split
  · exact out_ok hl _ _ _ _
  split
  · simp only [Sm.ok]
    split
    · have := t4 (p + 1); omega
    · simp only [Ex.dep]; omega
  have hF : F ≠ 0 := fun z => by have := hk0 z; omega
  obtain ⟨f, rfl⟩ : ∃ f, F = f + 1 := ⟨F - 1, by omega⟩
  have b1 := h1 f rfl
  split
  · exact loop_ok hl _ _ b1 _ _ _
  split
  · simp only [Sm.ok]
    exact ⟨t5 _, b1 _ _, b1 _ _⟩
  split
  · exact catch_ok _ _ b1 _ _
  split
  · rename_i h
    obtain ⟨g, rfl⟩ : ∃ g, f = g + 1 := ⟨f - 1, by omega⟩
    exact ends_ok hl _ _ b1 (h2 g rfl) _ _
  · simp only [Sm.ok]
    exact ⟨b1 _ _, b1 _ _⟩
theorem many_ok {row : Nat → Sm × Nat} {lp : Bool} {f : Nat} (h : ∀ p, (row p).1.ok lp f) : ∀ (m p : Nat), okL (manyR row m p).1 lp (f + 1)
  | 0, p => by unfold manyR; simp only; rw [okL]; exact Nat.succ_pos f
  | m + 1, p => by unfold manyR; simp only; rw [okL]; exact ⟨h p, many_ok h m _⟩
theorem rowG_ok (hl : ns.length ≤ 63) : ∀ (f loops p : Nat), (rowG ns count f loops p).1.ok (decide (0 < loops)) f
  | 0, loops, p => row_ok hl 0 (fun f e => by omega) (fun f e => by omega) loops p
  | 1, loops, p => row_ok hl 1 (fun f e => by
      obtain rfl : f = 0 := by omega
      exact fun l p => many_ok (fun p => rowG_ok hl 0 l p) _ _) (fun f e => by omega) loops p
  | g + 2, loops, p => row_ok hl (g + 2) (fun f e => by
      obtain rfl : f = g + 1 := by omega
      exact fun l p => many_ok (fun p => rowG_ok hl (g + 1) l p) _ _) (fun f e => by
      obtain rfl : f = g := by omega
      exact fun l p => many_ok (fun p => rowG_ok hl f l p) _ _) loops p
theorem blk_ok (hl : ns.length ≤ 63) (f loops p : Nat) : okL (blk ns count f loops p).1 (decide (0 < loops)) (f + 1) := many_ok (fun p => rowG_ok hl f loops p) _ _
end
mutual
theorem ok_mono : ∀ (x : Sm) {lp : Bool} {m n : Nat}, m ≤ n → x.ok lp m → x.ok lp n
  | .set _ e, _, _, _, _, h => by rw [Sm.ok] at h ⊢; exact h
  | .say e, _, _, _, _, h => by rw [Sm.ok] at h ⊢; exact h
  | .raise e, _, _, _, _, h => by rw [Sm.ok] at h ⊢; exact h
  | .give e, _, _, _, _, h => by rw [Sm.ok] at h ⊢; exact h
  | .leave, _, _, _, _, h => by rw [Sm.ok] at h ⊢; exact h
  | .next, _, _, _, _, h => by rw [Sm.ok] at h ⊢; exact h
  | .iff e a b, _, _, _, c, h => by rw [Sm.ok] at h ⊢; exact ⟨h.1, okL_mono a c h.2.1, okL_mono b c h.2.2⟩
  | .loop e b, _, _, _, c, h => by rw [Sm.ok] at h ⊢; exact ⟨h.1, okL_mono b c h.2⟩
  | .catch b n k l, _, _, _, c, h => by rw [Sm.ok] at h ⊢; exact ⟨okL_mono b c h.1, okL_mono l c h.2⟩
  | .endd b l, _, _, _, c, h => by rw [Sm.ok] at h ⊢; exact ⟨okL_mono b c h.1, okL_mono l c h.2⟩
theorem okL_mono : ∀ (l : List Sm) {lp : Bool} {m n : Nat}, m ≤ n → okL l lp m → okL l lp n
  | [], _, _, _, c, h => by rw [okL] at h ⊢; omega
  | x :: r, _, _, _, c, h => by rw [okL] at h ⊢; exact ⟨ok_mono x (Nat.sub_le_sub_right c 1) h.1, okL_mono r c h.2⟩
end
end TR

/-! T6: boxes and functions that are there (own work). -/
namespace TR
open PySem L2 U MM
def boxR (k : Int) : Prop := 0 ≤ k ∧ k < 4
def Ex.rng (n : Nat) : Ex → Prop
  | .num _ => True
  | .box k => boxR k
  | .op _ a b => a.rng n ∧ b.rng n
  | .call f e => 0 ≤ f ∧ f < (n : Int) ∧ e.rng n
mutual
def Sm.rng (n : Nat) : Sm → Prop
  | .set k e => boxR k ∧ e.rng n
  | .say e => e.rng n
  | .raise e => e.rng n
  | .give e => e.rng n
  | .leave => True
  | .next => True
  | .iff e a b => e.rng n ∧ rngL n a ∧ rngL n b
  | .loop e b => e.rng n ∧ rngL n b
  | .catch b _ k h => rngL n b ∧ boxR k ∧ rngL n h
  | .endd b l => rngL n b ∧ rngL n l
def rngL (n : Nat) : List Sm → Prop
  | [] => True
  | x :: r => x.rng n ∧ rngL n r
end
section
variable {ns : List Int} {count : Nat}
theorem rngL_app {n : Nat} : ∀ {l r : List Sm}, rngL n l → rngL n r → rngL n (l ++ r)
  | [], r, _, h => h
  | x :: l, r, h, h2 => by
    rw [rngL] at h
    rw [List.cons_append, rngL]
    exact ⟨h.1, rngL_app h.2 h2⟩
theorem rngL_1 {n : Nat} {x : Sm} (h : x.rng n) : rngL n [x] := by
  rw [rngL, rngL]
  exact ⟨h, trivial⟩
theorem box4 (c : Int) : boxR (c % 4) := ⟨by omega, by omega⟩
theorem tree_rng (hc : 1 ≤ count) : ∀ (f p : Nat), (treeG ns count f p).1.rng count
  | f, p => by
    by_cases h0 : kT f (nxt ns p) = 0
    · rw [tg_num h0]; exact trivial
    by_cases h1 : kT f (nxt ns p) < 3
    · rw [tg_box h0 h1]; exact box4 _
    match f, h0, h1 with
    | 0, _, h1 => exact absurd (kT_0 _) h1
    | f + 1, h0, h1 =>
      by_cases h2 : kT (f + 1) (nxt ns p) = 3
      · rw [tg_call h2]
        exact ⟨Int.emod_nonneg _ (by omega), Int.emod_lt_of_pos _ (by omega), tree_rng hc f (p + 1)⟩
      · rw [tg_op (by omega)]
        exact ⟨tree_rng hc f (p + 1), tree_rng hc f _⟩
termination_by f => f
theorem out_rng (hc : 1 ≤ count) (more : Int) (loops p : Nat) : (outG ns count more loops p).1.rng count := by
  unfold outG
  split
  · simp only
    split <;> (rw [Sm.rng]; trivial)
  · simp only [Sm.rng]
    exact tree_rng hc 5 p
def Rgb (n : Nat) (B : Bf) : Prop := ∀ l p, rngL n (B l p).1
theorem loop_rng (hc : 1 ≤ count) (more : Int) (f : Nat) {B1 : Bf} (h1 : Rgb count B1) (loops p : Nat) : (loopG ns count more f B1 loops p).1.rng count := by
  unfold loopG
  split
  · simp only [Sm.rng]
    exact ⟨tree_rng hc 5 p, h1 _ _⟩
  · simp only [Sm.rng, lessE]
    have bk := box4 (more / 4)
    refine ⟨⟨bk, trivial⟩, rngL_app (rngL_app (rngL_1 (by simp only [Sm.rng]; exact ⟨bk, bk, trivial⟩)) (h1 _ _)) ?_⟩
    split
    · refine rngL_1 ?_
      simp only [Sm.rng]
      refine ⟨rngL_1 ?_, rngL_1 (by simp only [Sm.rng]; exact bk)⟩
      simp only [Sm.rng]
      refine ⟨⟨bk, trivial⟩, rngL_1 ?_, rngL_1 ?_⟩ <;> (unfold wayN; split <;> (rw [Sm.rng]; trivial))
    · exact trivial
theorem catch_rng (more : Int) {B1 : Bf} (h1 : Rgb count B1) (loops p : Nat) : (catchG ns more B1 loops p).1.rng count := by
  unfold catchG
  simp only [Sm.rng]
  have bk := box4 (more / 3)
  refine ⟨rngL_app (h1 loops p) ?_, bk, ?_⟩
  · generalize catchN more = o
    have one : ∀ z : Int, rngL count [Sm.raise (.num z)] := fun z => rngL_1 (by rw [Sm.rng]; exact trivial)
    cases o with
    | none => simp only; split <;> first | exact one _ | exact trivial
    | some n =>
      simp only
      split
      · exact one _
      · split <;> first | exact one _ | exact trivial
  · rw [rngL]
    exact ⟨by rw [Sm.rng]; exact bk, h1 loops _⟩
theorem ends_rng (hc : 1 ≤ count) (more : Int) {B1 B2 : Bf} (h1 : Rgb count B1) (h2 : Rgb count B2) (loops p : Nat) : (endsG ns count more B1 B2 loops p).1.rng count := by
  unfold endsG
  have sy : ∀ z : Int, rngL count [Sm.say (.num z)] := fun z => rngL_1 (by rw [Sm.rng]; exact trivial)
  simp only [Sm.rng]
  refine ⟨rngL_1 ?_, rngL_app (sy _) (h1 loops _)⟩
  simp only [Sm.rng]
  refine ⟨?_, sy _⟩
  split
  · exact rngL_app (h2 loops p) (rngL_1 (out_rng hc _ _ _))
  · exact h2 loops p
theorem row_rng (hc : 1 ≤ count) (F : Nat) {B1 B2 : Bf} (h1 : Rgb count B1) (h2 : Rgb count B2) (loops p : Nat) : (rowS ns count F B1 B2 loops p).1.rng count := by
  have t5 := fun p => tree_rng (ns := ns) hc 5 p
  have t4 := fun p => tree_rng (ns := ns) hc 4 p
  unfold rowS
  simp only
  generalize (if F = 0 then nxt ns p % 12 % 5 else nxt ns p % 12) = kd at *
  generalize nxt ns p / 12 = more
  split
  · simp only [Sm.rng]; exact ⟨box4 _, t5 _⟩
  split
  · simp only [Sm.rng]; exact t5 _
  split
  · exact out_rng hc _ _ _
  split
  · simp only [Sm.rng]
    split
    · exact t4 _
    · exact trivial
  split
  · exact loop_rng hc _ _ h1 _ _
  split
  · simp only [Sm.rng]
    exact ⟨t5 _, h1 _ _, h1 _ _⟩
  split
  · exact catch_rng _ h1 _ _
  split
  · exact ends_rng hc _ h1 h2 _ _
  · simp only [Sm.rng]
    exact ⟨h1 _ _, h1 _ _⟩
theorem many_rng {row : Nat → Sm × Nat} (h : ∀ p, (row p).1.rng count) : ∀ (m p : Nat), rngL count (manyR row m p).1
  | 0, p => trivial
  | m + 1, p => by unfold manyR; simp only; rw [rngL]; exact ⟨h p, many_rng h m _⟩
theorem nob_rng : Rgb count nob := fun _ _ => trivial
theorem rowG_rng (hc : 1 ≤ count) : ∀ (f loops p : Nat), (rowG ns count f loops p).1.rng count
  | 0, loops, p => row_rng hc 0 nob_rng nob_rng loops p
  | 1, loops, p => row_rng hc 1 (fun l p => many_rng (fun p => rowG_rng hc 0 l p) _ _) nob_rng loops p
  | g + 2, loops, p => row_rng hc (g + 2) (fun l p => many_rng (fun p => rowG_rng hc (g + 1) l p) _ _) (fun l p => many_rng (fun p => rowG_rng hc g l p) _ _) loops p
theorem blk_rng (hc : 1 ≤ count) (f loops p : Nat) : rngL count (blk ns count f loops p).1 := many_rng (fun p => rowG_rng hc f loops p) _ _
end
end TR

/-! Z1: what a program is refused for, as a function; the programs of k06 and what they are due (own work). -/
namespace TR
open PySem L2 U MM
inductive Kl where
  | box | fn | loop | deep
deriving DecidableEq
def fst1 (a b : Option Kl) : Option Kl := match a with
  | some k => some k
  | none => b
def chBox (k : Int) : Option Kl := if 0 ≤ k ∧ k < 4 then none else some .box
def chFn (n : Nat) (f : Int) : Option Kl := if 0 ≤ f ∧ f < (n : Int) then none else some .fn
/-- an expression at this depth -/
def chE (n : Nat) : Ex → Nat → Option Kl
  | .num _, d => if 6 < d then some .deep else none
  | .box k, d => if 6 < d then some .deep else chBox k
  | .op _ a b, d => if 6 < d then some .deep else fst1 (chE n a (d + 1)) (chE n b (d + 1))
  | .call f e, d => if 6 < d then some .deep else fst1 (chFn n f) (chE n e (d + 1))
mutual
def chS (n : Nat) : Sm → Nat → Bool → Option Kl
  | .set k e, _, _ => fst1 (chBox k) (chE n e 1)
  | .say e, _, _ => chE n e 1
  | .give e, _, _ => chE n e 1
  | .raise e, _, _ => chE n e 1
  | .leave, _, lp => if lp = true then none else some .loop
  | .next, _, lp => if lp = true then none else some .loop
  | .iff e a b, d, lp => fst1 (chE n e 1) (fst1 (if 8 < d + 1 then some .deep else chL n a (d + 1) lp) (if 8 < d + 1 then some .deep else chL n b (d + 1) lp))
  | .loop e b, d, _ => fst1 (chE n e 1) (if 8 < d + 1 then some .deep else chL n b (d + 1) true)
  | .catch b _ k h, d, lp => fst1 (if 8 < d + 1 then some .deep else chL n b (d + 1) lp) (fst1 (chBox k) (if 8 < d + 1 then some .deep else chL n h (d + 1) lp))
  | .endd b l, d, lp => fst1 (if 8 < d + 1 then some .deep else chL n b (d + 1) lp) (if 8 < d + 1 then some .deep else chL n l (d + 1) lp)
/-- the statements of a block that stands at this depth -/
def chL (n : Nat) : List Sm → Nat → Bool → Option Kl
  | [], _, _ => none
  | x :: r, d, lp => fst1 (chS n x d lp) (chL n r d lp)
end
def chB (n : Nat) (b : List Sm) (d : Nat) (lp : Bool) : Option Kl := if 8 < d then some .deep else chL n b d lp
def chBs (n : Nat) : Pg → Option Kl
  | [] => none
  | b :: r => fst1 (chB n b 1 false) (chBs n r)
def chP (pg : Pg) : Option Kl := match pg with
  | [] => some .fn
  | _ => chBs pg.length pg
theorem fst1_none {a b : Option Kl} : fst1 a b = none ↔ a = none ∧ b = none := by
  cases a with
  | none => exact ⟨fun h => ⟨rfl, h⟩, fun h => h.2⟩
  | some k => exact ⟨(fun h => nomatch h), (fun h => nomatch h.1)⟩
theorem fst1_assoc (a b c : Option Kl) : fst1 (fst1 a b) c = fst1 a (fst1 b c) := by cases a <;> rfl
theorem chL_app (n : Nat) : ∀ (a b : List Sm) (d : Nat) (lp : Bool), chL n (a ++ b) d lp = fst1 (chL n a d lp) (chL n b d lp)
  | [], b, d, lp => by rw [List.nil_append, chL]; rfl
  | x :: a, b, d, lp => by rw [List.cons_append, chL, chL_app n a b, chL, fst1_assoc]
/-! ### what is refused for nothing is good -/
theorem chBox_ok {k : Int} : chBox k = none ↔ boxR k := by
  unfold chBox boxR
  split <;> simp_all
theorem chE_ok {n : Nat} : ∀ {e : Ex} {d : Nat}, chE n e d = none → e.dep + d ≤ 7 ∧ e.rng n
  | .num _, d, h => by
    rw [chE] at h
    split at h
    · cases h
    · exact ⟨by rw [Ex.dep]; omega, trivial⟩
  | .box k, d, h => by
    rw [chE] at h
    split at h
    · cases h
    · exact ⟨by rw [Ex.dep]; omega, chBox_ok.mp h⟩
  | .op _ a b, d, h => by
    rw [chE] at h
    split at h
    · cases h
    · obtain ⟨h1, h2⟩ := fst1_none.mp h
      have a1 := chE_ok h1
      have a2 := chE_ok h2
      exact ⟨by rw [Ex.dep]; omega, a1.2, a2.2⟩
  | .call f e, d, h => by
    rw [chE] at h
    split at h
    · cases h
    · obtain ⟨h1, h2⟩ := fst1_none.mp h
      have a2 := chE_ok h2
      unfold chFn at h1
      split at h1
      · rename_i c
        exact ⟨by rw [Ex.dep]; omega, c.1, c.2, a2.2⟩
      · cases h1
mutual
theorem chS_ok {n : Nat} : ∀ {x : Sm} {d : Nat} {lp : Bool}, d ≤ 8 → chS n x d lp = none → x.ok lp (8 - d) ∧ x.rng n
  | .set k e, d, lp, hd, h => by
    rw [chS] at h
    obtain ⟨h1, h2⟩ := fst1_none.mp h
    have a := chE_ok h2
    rw [Sm.ok, Sm.rng]
    exact ⟨by omega, chBox_ok.mp h1, a.2⟩
  | .say e, d, lp, hd, h => by rw [chS] at h; have a := chE_ok h; rw [Sm.ok, Sm.rng]; exact ⟨by omega, a.2⟩
  | .give e, d, lp, hd, h => by rw [chS] at h; have a := chE_ok h; rw [Sm.ok, Sm.rng]; exact ⟨by omega, a.2⟩
  | .raise e, d, lp, hd, h => by rw [chS] at h; have a := chE_ok h; rw [Sm.ok, Sm.rng]; exact ⟨by omega, a.2⟩
  | .leave, d, lp, hd, h => by
    rw [chS] at h
    split at h
    · rename_i c; rw [Sm.ok, Sm.rng]; exact ⟨c, trivial⟩
    · cases h
  | .next, d, lp, hd, h => by
    rw [chS] at h
    split at h
    · rename_i c; rw [Sm.ok, Sm.rng]; exact ⟨c, trivial⟩
    · cases h
  | .iff e a b, d, lp, hd, h => by
    rw [chS] at h
    obtain ⟨h1, h2⟩ := fst1_none.mp h
    obtain ⟨h3, h4⟩ := fst1_none.mp h2
    have a1 := chE_ok h1
    split at h3
    · cases h3
    · rename_i c
      rw [if_neg c] at h4
      have a2 := chL_ok (by omega) h3
      have a3 := chL_ok (by omega) h4
      rw [Sm.ok, Sm.rng]
      rw [show 9 - (d + 1) = 8 - d by omega] at a2 a3
      exact ⟨⟨by omega, a2.1, a3.1⟩, a1.2, a2.2, a3.2⟩
  | .loop e b, d, lp, hd, h => by
    rw [chS] at h
    obtain ⟨h1, h3⟩ := fst1_none.mp h
    have a1 := chE_ok h1
    split at h3
    · cases h3
    · have a2 := chL_ok (by omega) h3
      rw [Sm.ok, Sm.rng]
      rw [show 9 - (d + 1) = 8 - d by omega] at a2
      exact ⟨⟨by omega, a2.1⟩, a1.2, a2.2⟩
  | .catch b z k l, d, lp, hd, h => by
    rw [chS] at h
    obtain ⟨h3, h2⟩ := fst1_none.mp h
    obtain ⟨h1, h4⟩ := fst1_none.mp h2
    split at h3
    · cases h3
    · rename_i c
      rw [if_neg c] at h4
      have a2 := chL_ok (by omega) h3
      have a3 := chL_ok (by omega) h4
      rw [Sm.ok, Sm.rng]
      rw [show 9 - (d + 1) = 8 - d by omega] at a2 a3
      exact ⟨⟨a2.1, a3.1⟩, a2.2, chBox_ok.mp h1, a3.2⟩
  | .endd b l, d, lp, hd, h => by
    rw [chS] at h
    obtain ⟨h3, h4⟩ := fst1_none.mp h
    split at h3
    · cases h3
    · rename_i c
      rw [if_neg c] at h4
      have a2 := chL_ok (by omega) h3
      have a3 := chL_ok (by omega) h4
      rw [Sm.ok, Sm.rng]
      rw [show 9 - (d + 1) = 8 - d by omega] at a2 a3
      exact ⟨⟨a2.1, a3.1⟩, a2.2, a3.2⟩
theorem chL_ok {n : Nat} : ∀ {l : List Sm} {d : Nat} {lp : Bool}, d ≤ 8 → chL n l d lp = none → okL l lp (9 - d) ∧ rngL n l
  | [], d, lp, hd, h => by rw [okL, rngL]; exact ⟨by omega, trivial⟩
  | x :: r, d, lp, hd, h => by
    rw [chL] at h
    obtain ⟨h1, h2⟩ := fst1_none.mp h
    have a1 := chS_ok hd h1
    have a2 := chL_ok hd h2
    rw [okL, rngL, show 9 - d - 1 = 8 - d by omega]
    exact ⟨⟨a1.1, a2.1⟩, a1.2, a2.2⟩
end
theorem chBs_ok {n : Nat} : ∀ {pg : Pg}, chBs n pg = none → ∀ b ∈ pg, okL b false 8 ∧ rngL n b
  | [], h, b, hb => by cases hb
  | c :: r, h, b, hb => by
    rw [chBs] at h
    obtain ⟨h1, h2⟩ := fst1_none.mp h
    rcases List.mem_cons.mp hb with rfl | hb
    · unfold chB at h1
      rw [if_neg (by decide)] at h1
      exact chL_ok (by decide) h1
    · exact chBs_ok h2 b hb
theorem chP_ok {pg : Pg} (h : chP pg = none) : pg ≠ [] ∧ ∀ b ∈ pg, okL b false 8 ∧ rngL pg.length b := by
  cases pg with
  | nil => cases h
  | cons b r => exact ⟨List.cons_ne_nil _ _, chBs_ok h⟩
end TR

/-! X6: the classes by which a program is refused (own work). -/
namespace U
open PySem PySem.Spec PyProof.Rows L2 TR
abbrev veL : List Value := [.type "ValueError", .type "Exception", .type "BaseException", .type "object"]
structure Rcl (K : PySem.W.Frag) (mg : Str → Option Value) (x : Str) (C : Addr) : Prop where
  gl : mg x = some (.ref C)
  ex : PySem.W.excIn K C veL "ValueError.__new__" = true
  kp : PySem.W.keepIn K (.ref C) = true
  sb : PySem.W.subIn K (.ref C) (.type "BaseException") = some true
  ty : PySem.W.typeIn K (.ref C) = some (.type "type")
def rclB (K : PySem.W.Frag) (C : Addr) : Bool := PySem.W.excIn K C veL "ValueError.__new__" && (PySem.W.keepIn K (.ref C) && (decide (PySem.W.subIn K (.ref C) (.type "BaseException") = some true) && decide (PySem.W.typeIn K (.ref C) = some (.type "type"))))
theorem rcl_of {K : PySem.W.Frag} {mg : Str → Option Value} {x : Str} {C : Addr} (g : mg x = some (.ref C)) (h : rclB K C = true) : Rcl K mg x C := by
  unfold rclB at h
  simp only [Bool.and_eq_true, decide_eq_true_eq] at h
  exact ⟨g, h.1, h.2.1, h.2.2.1, h.2.2.2⟩
def klN : Kl → Str
  | .box => "NoBox"
  | .fn => "NoFunction"
  | .loop => "NoLoop"
  | .deep => "TooDeep"
abbrev Rfc (K : PySem.W.Frag) (mg : Str → Option Value) (cl : Kl → Addr) : Prop := ∀ k, Rcl K mg (klN k) (cl k)
section
variable {X : Cx} {ta : TE} {e : Expr} {p pos pos2 : Pos} {W : WX} {C : Addr} {x : Str}
/-- raise C(text) -/
theorem ps_ref (hc : X.calm = true) (T : Rcl X.K X.mg x C) (tk : Takes X W) (he : PE X e ta) (hg : Gl X x) (hs : starEach [e] X.env = (false, eval e X.env) :: starEach [] X.env := by rfl) (hdb : (x == ("__debug__" : Str)) = false := by decide) :
    PS X (.Raise (some (.Call (.Name x p) [e] [] pos)) none pos2) (fun _ σ H => ta σ H fun _ H1 => W (.ref C) none σ H1) :=
  ps_raise hc tk (SkE.pmk_own1 PySem.F.excBase_ValueError T.ex T.gl T.kp (raises_own T.sb T.ty) hg he hs hdb)
end
/-! ### f-strings -/
section
variable {σ : L2.St} {H : Hp} {Q : VK} {te t : TE} {ts : List TE} {QS : Str → Hp → Prop} {acc y : Str} {i : Int}
def FmtE (Q : VK) (x : V) (H1 : Hp) : Prop := (∃ y : Str, x = .str y ∧ y.length ≤ sizeLine ∧ Q (.str y) H1) ∨ ∃ i : Int, x = .int i ∧ i.natAbs.log2 < 1920 ∧ Q (.str (toString i)) H1
theorem w_fmt (h : te σ H fun x H1 => FmtE Q x H1) : tFmt te σ H Q := h
theorem w_fmtI (hl : i.natAbs.log2 < 1920) (h : Q (.str (toString i)) H) : FmtE Q (.int i) H := .inr ⟨i, rfl, hl, h⟩
theorem w_fmtS (hl : y.length ≤ sizeLine) (h : Q (.str y) H) : FmtE Q (.str y) H := .inl ⟨y, rfl, hl, h⟩
def JsE (ts : List TE) (acc : Str) (σ : L2.St) (QS : Str → Hp → Prop) (x : V) (H1 : Hp) : Prop := ∃ y : Str, x = .str y ∧ (acc ++ y).length ≤ sizeLine ∧ tJs ts (acc ++ y) σ H1 QS
theorem w_js (h : t σ H fun x H1 => JsE ts acc σ QS x H1) : tJs (t :: ts) acc σ H QS := h
theorem w_jsE (hl : (acc ++ y).length ≤ sizeLine) (h : tJs ts (acc ++ y) σ H QS) : JsE ts acc σ QS (.str y) H := ⟨y, rfl, hl, h⟩
theorem w_js0 (h : QS acc H) : tJs [] acc σ H QS := h
end
end U

/-! X7: a text taken 0 or 1 times (own work). -/
namespace U
open PySem PySem.Spec PyProof.Rows L2 TR
def rMulS : V → V → Hp → VK → Prop := fun x y H Q => ∃ (z : Str) (k : Int), x = .str z ∧ y = .int k ∧ ((k = 0 ∧ Q (.str Str.empty) H) ∨ (k = 1 ∧ Q (.str z) H))
theorem op_mulS {X : Cx} : OpR X (binaryOp .Mult) rMulS := by
  intro pins s σ H x y v u Q I rx ry h
  obtain ⟨z, k, rfl, rfl, q⟩ := h
  obtain ⟨t, rfl⟩ := rx
  obtain ⟨t', rfl⟩ := ry
  rcases q with ⟨rfl, q⟩ | ⟨rfl, q⟩
  · exact PySem.P.mul_str_none (by decide) (by decide) ⟨.str Str.empty, H, I.tok _, ⟨_, rfl⟩, q⟩
  · refine PySem.P.mul_str (by decide) (fun _ e => ?_) (fun _ e => ?_) ?_
    · rw [show ((1 : Int) == 1) = true from rfl, Bool.true_or] at e
      cases e
    · rw [show ((1 : Int) == 1) = true from rfl, Bool.true_or] at e
      cases e
    · rw [if_neg (by decide), if_pos (by rw [show ((1 : Int) == 1) = true from rfl, Bool.true_or])]
      exact ⟨.str z, H, I, ⟨_, rfl⟩, q⟩
theorem w_mulS0 {z : Str} {H : Hp} {Q : VK} (h : Q (.str Str.empty) H) : rMulS (.str z) (.int 0) H Q := ⟨z, 0, rfl, rfl, .inl ⟨rfl, h⟩⟩
theorem w_mulS1 {z : Str} {H : Hp} {Q : VK} (h : Q (.str z) H) : rMulS (.str z) (.int 1) H Q := ⟨z, 1, rfl, rfl, .inr ⟨rfl, h⟩⟩
end U

/-! X8: a lambda and a name handed to a def; the end of a law that makes lambdas (own work). -/
namespace U
open PySem PySem.Spec PyProof.Rows L2 He
/-! ### reading a name leaves the state -/
section
variable {X : Cx} {pins : List (Addr × Obj)} {σ : L2.St} {H : Hp} {s : Shared}
theorem rd_var {i : Nat} {x : Str} {pos : Pos} {v : V} {Q : Value → Shared → Prop} {E : Value → Shared → Prop} (I : Inv X pins σ H s) (hN : X.N[i]? = some x) (hv : Vis X.env.scope x) (e : σ[i]? = some (some v)) (h : ∀ u, RelV v u → Q u s) (hd : (x == ("__debug__" : Str)) = false := by decide) (hcd : (x == ("__classdict__" : Str)) = false := by decide) :
    wpAny (model X.prog X.w) X.A (eval (.Name x pos) X.env) Q E s := by
  obtain ⟨m, hn, hl⟩ := I.loc
  obtain ⟨u, ru, lk⟩ := hl i x v hN e hv
  refine wpAny_Name ?_ hd
  rcases lk with ⟨k1, hm⟩ | ⟨k1 | k1, c, hc, hcell⟩
  · exact wpAny_loadName_local I.ok.kind k1 hn hm (h u ru)
  · exact wpAny_loadName_cell I.ok.kind k1 hc hcell (h u ru)
  · exact wpAny_loadName_free I.ok.kind k1 hc hcell (h u ru) hcd
end
section
variable {X : Cx} {pins : List (Addr × Obj)} {σ : L2.St} {H : Hp} {s : Shared}
/-- x(), in the def that got the lambda; what its exceptions find in that def's slots is told of the slots at the call -/
theorem pe_act2 {CXg : CXT} {Eg : XK} {Ng : List Str} {qg : Str} {sg : Scope} {g f co : Addr} {cdg pmv ctw : Value} {prm : Arguments} {bdy : Expr} {lsc : Scope} {k i : Nat} {a : Str} {pn : List (Addr × Obj)} {xe : Value → Shared → Prop} {W : WX} {E : XK} {tb : TE} {p1 p2 : Pos} {σ₀ : L2.St}
    (I : Inv X pins σ H s) (L : LamX.LamS X.env.scope lsc) (hf : s.heap.get? f = some (PySem.W.kla_obj "<lambda>" (X.env.qual ++ "<lambda>") prm bdy lsc (cloFrom X.env.cells lsc.names []) pmv co ctw)) (hfn : H f = none) (hfr : f ∉ frs X.stack)
    (hbi : bindArgs (PySem.W.kla_fn "<lambda>" (X.env.qual ++ "<lambda>") prm bdy lsc (cloFrom X.env.cells lsc.names []) pmv (.ref co) ctw) ⟨[], []⟩ = pure [])
    (tk : Takes ((cxOf CXg X.prog X.w X.K X.mg X.base Ng qg sg g cdg X.A X.stack s H Eg).tr pn xe) W) (hW : ∀ cls d H', E cls d H' → W cls d σ₀ H') (hr : Room (k + 1) (X.A.deeper (envOfC qg sg s.heap.objs.size g cdg)))
    (hbd : ∀ (A : Around) (outer : List Env) (s : Shared) (H : Hp), Room k (A.deeper (LamX.lamEnv X lsc s.heap.objs.size f co)) → PE (LamX.lamCx X A outer s H E lsc f co) bdy tb)
    (hN : Ng[i]? = some a) (hv : Vis sg a) (h0 : σ₀[i]? = some (some (.ref f))) (hd : (a == ("__debug__" : Str)) = false := by decide) (hcd : (a == ("__classdict__" : Str)) = false := by decide) :
    PE ((cxOf CXg X.prog X.w X.K X.mg X.base Ng qg sg g cdg X.A X.stack s H Eg).tr pn xe) (.Call (.Name a p1) [] [] p2) (fun σZ HZ Q => σZ = σ₀ ∧ HZ co = some (LamX.CodeO co (X.env.qual ++ "<lambda>")) ∧ tb σ HZ Q) := by
  refine ⟨fun pz z0 σZ HZ Q IZ hh => ?_⟩
  obtain ⟨rfl, hco, htb⟩ := hh
  refine wpAny_Call_Name_kw (rd_var IZ hN hv h0 (fun u ru => ?_) hd hcd)
  obtain rfl : u = Value.ref f := ru
  have kept : z0.heap.get? f = some (PySem.W.kla_obj "<lambda>" (X.env.qual ++ "<lambda>") prm bdy lsc (cloFrom X.env.cells lsc.names []) pmv co ctw) := IZ.base.keep f _ hf hfn hfr (fun z => nomatch (show f ∈ ([] : List Addr) from z))
  refine PySem.W.callWith_F0 ⟨_, _, _, _, kept⟩ ?_
  have grown : Un (frs X.stack) [] H HZ s.heap z0.heap := IZ.base
  obtain ⟨⟨oco, vs, t, h1, h2, h3⟩, _, _⟩ := IZ.hok co _ hco
  have rc : codeAny (model X.prog X.w) (X.A.deeper (envOfC qg sg s.heap.objs.size g cdg)) (.call (.ref f) ⟨[], []⟩) (CR (L2.CX X.prog X.w) (envOfC qg sg s.heap.objs.size g cdg :: X.stack) X.prog X.w HZ z0 Q E) z0 := by
    refine PySem.W.kla_callFunE hr.depth kept rfl L.co L.gen rfl ⟨co, oco, vs, t, rfl, h1, h2, h3⟩ ?_
    rw [hbi]
    refine wpAny_pure (wpAny_newFunctionEnv (fun y m => (L.own y m).2) (fun y m => absurd m (by simp)) (fun hp hns hsb => ⟨IZ.nolimit.fresh _ hsb, ?_⟩) L.kind)
    show codeAny _ _ (.expr bdy (LamX.lamEnv X lsc z0.heap.objs.size f co)) _ _
    have keeps : ∀ b o, z0.heap.get? b = some o → hp.get? b = some o := fun b o e => hsb.extBut b o (Nat.ne_of_lt (Heap.lt_size e)) (Heap.get?_push_of_some _ e)
    have J := LamX.lam_start2 (A := X.A.deeper (envOfC qg sg s.heap.objs.size g cdg)) (outer := envOfC qg sg s.heap.objs.size g cdg :: X.stack) (E := E) (f := f) (c' := co) (h₁ := hp) (tk := z0.toks + ([] : List (Str × Value)).length) I L IZ.env0 hr.hd grown hns keeps
    refine PySem.W.kla_codeExpr (wpAny_mono ((hbd _ _ z0 HZ (hr.deeper _)).run [] _ _ HZ Q J htb) (fun v z1 w => ?_) fun _ _ w => w)
    obtain ⟨x1, H1, J1, r1, q1⟩ := w
    exact ⟨x1, H1, J1.os, J1.bare, J1.base, J1.hok, r1, q1⟩
  refine wpAny_call (codeAny_mono rc fun r z1 w => ?_)
  cases r with
  | error e => exact tk e z1 (XE.of_call IZ hW w)
  | ok fl =>
    cases fl with
    | ret u => exact IZ.after w
    | next => exact w.elim
    | brk => exact w.elim
    | cont => exact w.elim
end
def E00 : XK := fun _ _ _ => False
/-- the def that calls what it got first: TT, what it makes of the lambda's reading and of the second thing -/
def GivesTo2 (X : Cx) (Ng : List Str) (x : Str) (sg : Scope) (g : Addr) (cdg : Value) (bg : List Stmt) (a : Str) (q : Str) (TT : V → (XK → Hp → VK → Prop) → Hp → VK → Prop) : Prop :=
  ∀ (f c' : Addr) (s : Shared) (H : Hp) (Q : VK) (v2 : V) (tl : XK → Hp → VK → Prop),
    (∀ (W : WX) (pn : List (Addr × Obj)) (xe : Value → Shared → Prop) (E : XK) (p1 p2 : Pos), Takes ((cxOf CX0 X.prog X.w X.K X.mg X.base Ng x sg g cdg X.A X.stack s H E00).tr pn xe) W → (∀ cls d H', E cls d H' → W cls d (L2.start Ng [.ref f, v2]) H') →
      PE ((cxOf CX0 X.prog X.w X.K X.mg X.base Ng x sg g cdg X.A X.stack s H E00).tr pn xe) (.Call (.Name a p1) [] [] p2) (fun σZ HZ Q => σZ = L2.start Ng [.ref f, v2] ∧ HZ c' = some (LamX.CodeO c' q) ∧ tl E HZ Q)) →
    H c' = some (LamX.CodeO c' q) → TT v2 tl H Q →
    ∃ t, PSs (cxOf CX0 X.prog X.w X.K X.mg X.base Ng x sg g cdg X.A X.stack s H E00).nox bg t ∧ t { nx := fun _ H' => Q .non H', rt := Q } (L2.start Ng [.ref f, v2]) H
def tLam2 (T : List (Addr × Str)) (TT : V → (XK → Hp → VK → Prop) → Hp → VK → Prop) (t : XK → TE) (i : Nat) : TE := fun σ H Q => ∃ v2, σ[i]? = some (some v2) ∧ LamX.Tabs T H ∧ ∀ H1, LamX.ExtN H H1 → LamX.Tabs T H1 → TT v2 (fun E H' Q' => t E σ H' Q') H1 Q
section
variable {X : Cx}
/-- x(lambda: body, y) -/
theorem pe_lamcall2 {T : List (Addr × Str)} {TT : V → (XK → Hp → VK → Prop) → Hp → VK → Prop} {x a a2 y : Str} {g c P : Addr} {k i : Nat} {pg : Arguments} {bg : List Stmt} {sg : Scope} {dV kV doc pm cdv ct oc : Value} {an od : Option Addr} {osl : Array (Option Value)} {Ng : List Str}
    {params : Arguments} {body : Expr} {scope : Scope} {t : XK → TE} {p lpos pos p2 : Pos} (hg : Gl X x) (hm : X.mg x = some (.ref g)) (hk : PySem.W.keepIn X.K (.ref g) = true)
    (lk : X.K.lookup g = some ⟨oc, od, .func (PySem.W.fnOf x x pg bg sg dV kV doc pm an cdv ct), osl⟩) (hcg : PySem.W.codeIn X.K cdv x = true) (hb : L2.Binds X.K (PySem.W.fnOf x x pg bg sg dV kV doc pm an cdv ct) [a, a2] []) (Sg : FnScope Ng [a, a2] sg) (hNg : Ng[0]? = some a) (hva : Vis sg a) (h0 : ∀ (f : Addr) (v : V), (L2.start Ng [V.ref f, v])[0]? = some (some (V.ref f)))
    (hG : GivesTo2 X Ng x sg g cdv bg a (X.env.qual ++ "<lambda>") TT)
    (TB : LamX.TabB X.base X.mg c P) (hcode : X.env.code = .ref c) (hmT : (P, X.env.qual ++ "<lambda>") ∈ T) (hu : ∀ p ∈ T, p.1 = P → p.2 = X.env.qual ++ "<lambda>") (hr : Room (k + 2) X.A) (L : LamX.LamS X.env.scope scope) (hdef : defaultsOf params X.env = ([], []))
    (hbind : ∀ (q : Str) (cl : List (Str × Addr)) (pm cv ctw : Value), bindArgs (PySem.W.kla_fn "<lambda>" q params body scope cl pm cv ctw) ⟨[], []⟩ = pure [])
    (hbody : ∀ (A : Around) (outer : List Env) (s : Shared) (H : Hp) (E : XK) (f c' : Addr), Room k (A.deeper (LamX.lamEnv X scope s.heap.objs.size f c')) → PE (LamX.lamCx X A outer s H E scope f c') body (t E))
    (hN2 : X.N[i]? = some y) (hv2 : Vis X.env.scope y)
    (hdb : (x == ("__debug__" : Str)) = false := by decide) (hd : (a == ("__debug__" : Str)) = false := by decide) (hcd : (a == ("__classdict__" : Str)) = false := by decide) (hd2 : (y == ("__debug__" : Str)) = false := by decide) (hcd2 : (y == ("__classdict__" : Str)) = false := by decide) :
    PE X (.Call (.Name x p) [.Lambda params body scope lpos, .Name y p2] [] pos) (tLam2 T TT t i) := by
  refine ⟨fun pins s σ H Q I hh => ?_⟩
  obtain ⟨v2, e2, hT, h⟩ := hh
  refine wpAny_Call_Name_kw (ld_glob I hg hm (PySem.W.callWith_K (h₀ := X.base) I.ok.mod.kin hk ?_ (by rfl) (by rfl)) hdb)
  show wpAny _ _ (spliced ((false, eval (.Lambda params body scope lpos) X.env) :: backTo pos (starEach [.Name y p2] X.env))) _ _ s
  refine Calls.spliced_cons (LamX.lam_make2 I TB hcode hmT hu hT hdef (L.has I.ok) fun f c' pm' ctv H1 s' I1 eN T1 hf hfn hfr hco => ?_)
  show wpAny _ _ (spliced ((false, eval (.Name y p2) X.env) :: backTo pos (starEach [] X.env))) _ _ s'
  refine Calls.spliced_cons (rd_var I1 hN2 hv2 e2 (fun u2 r2 => Calls.spliced_nil ⟨I1.kIn, ?_⟩) hd2 hcd2)
  have rc : codeAny (model X.prog X.w) X.A (.call (.ref g) ⟨[.ref f, u2], []⟩) (CR CX0 X.stack X.prog X.w H1 s' Q E00) s' := by
    refine LamX.run_ofS (N := Ng) (ps := [a, a2]) (us := [.ref f, u2]) (vs := [.ref f, v2]) lk hcg Sg hr I1.env0 (hb s' [.ref f, u2] I1.kIn rfl) (.cons rfl (.cons r2 .nil)) rfl fun hr' => ?_
    obtain ⟨t', ht', hq'⟩ := hG f c' s' H1 Q v2 (fun E H' Q' => t E σ H' Q') (fun W pn xe E p1 p2 tk hW => pe_act2 (i := 0) I1 L hf hfn hfr (hbind _ _ _ _ _) tk hW hr' (fun A outer s H hr2 => hbody A outer s H E f c' hr2) hNg hva (h0 _ _) hd hcd) hco (h H1 eN T1)
    exact ⟨t', ht'.nox, hq'⟩
  refine wpAny_call (codeAny_mono rc fun r z2 hq => ?_)
  cases r with
  | error e => exact hq.elim
  | ok fl =>
    cases fl with
    | ret u => exact I1.after hq
    | next => exact False.elim hq
    | brk => exact False.elim hq
    | cont => exact False.elim hq
theorem pss_ex {α : Type} {p : α → Prop} {t : α → TS} {ss : List Stmt} (h : ∀ a, p a → PSs X ss (t a)) : PSs X ss (fun D σ H => ∃ a, p a ∧ t a D σ H) :=
  ⟨fun pins s σ H D I ⟨a, hp, q⟩ => (h a hp).run pins s σ H D I q⟩
end
/-! ### the law's own code object -/
theorem tabIn_spec {K : PySem.W.Frag} {x : Str} {c P : Addr} (h : PySem.W.tabIn K x = some (c, P)) : ∃ f o fd, PySem.W.nsIn K mainGlobals x = some (some (.ref f)) ∧ K.lookup f = some o ∧ o.data = .func fd ∧ fd.code = .ref c := by
  unfold PySem.W.tabIn at h
  split at h
  · rename_i f hf
    split at h
    · rename_i hfo
      split at h
      · rename_i c2 hc
        split at h
        · split at h
          · cases h
            exact ⟨f, _, _, hf, hfo, rfl, hc⟩
          · cases h
        · cases h
      · cases h
    · cases h
  · cases h
def tabX (K : PySem.W.Frag) : Bool := match PySem.W.tabIn K "law" with
  | some (_, P) => (K.lookup P).isNone
  | none => false
theorem tabX_spec {K : PySem.W.Frag} (h : tabX K = true) : ∃ c P, PySem.W.tabIn K "law" = some (c, P) ∧ K.lookup P = none := by
  unfold tabX at h
  split at h
  · rename_i c P e
    exact ⟨c, P, e, Option.isNone_iff_eq_none.mp h⟩
  · cases h
/-- what is wanted of such a law's def -/
def spTrueT (K : PySem.W.Frag) (P : Addr) : Sp := fun vs H Q _ => ∃ (a : Addr) (ns : List Int), vs = [.ref a] ∧ SqL K H a (ns.map V.int) ∧ ns.length ≤ 63 ∧ H P = some (.tbl #[]) ∧ ∀ H', Q (.bl true) H'
theorem law1 {P : Program} {w : World} {K : PySem.W.Frag} {mg : Str → Option Value} {base : Heap} {k : Nat} {st : Stmt} {N ps : List Str} {sp : Sp} {c : Addr} (S : FnScope N ps (defScope st)) (len : ∀ vs H Q E, sp vs H Q E → vs.length = ps.length)
    (hbody : ∀ (f : Addr) (A : Around) (outer : List Env) (s : Shared) (H : Hp) (vs : List V) (Q : VK) (E : XK), Room k (A.deeper (envOfC "law" (defScope st) s.heap.objs.size f (.ref c))) → sp vs H Q E →
      ∃ t, PSs (cxOf CX0 P w K mg base N "law" (defScope st) f (.ref c) A outer s H E).nox (defBody st) t ∧ t { nx := fun _ H' => Q .non H', rt := Q } (start N vs) H) :
    ∀ f fd, LawF K st f fd → fd.code = .ref c → FnOk P w K mg base CX0 (k + 1) f fd ps sp := fun f fd F hc => by
  obtain ⟨oc, od, dV, kV, doc, pm, an, cdv, ct, osl, rfl, lk, hcd, _⟩ := F.ex
  have e : cdv = .ref c := hc
  subst e
  refine fn_of lk hcd S len fun A outer s H vs Q E hr hsp => ?_
  obtain ⟨t, h1, h2⟩ := hbody f A outer s H vs Q E hr hsp
  exact ⟨t, h1.nox, h2⟩
theorem walk_t {l : PySem.W.OpenLaw} {k j : Nat} {as : List Addr} {q : Program} {loose : List Str} {XP : (Str → Option Value) → Heap → Prop} {d : DefRec} {x : Str} {ws : List Wd} {ts : List Tab} {ex : PySem.W.Frag → Bool} {st : Stmt}
    (hn : l.most = some 63) (hdf : d.params.defaults = []) (hr : Room k callerA) (hname : d.name = ("law" : Str)) (hl : ws[j]? = some (.df "law" st)) (hrec : ((recsOf q).find? (fun e => e.name == ("law" : Str))).isSome = true) (hex : ∀ K, ex K = true → tabX K = true)
    (hbind : ∀ (kV doc pm : Value) (an : Option Addr) (cdv ct : Value) (us : List Value), us.length = [x].length → bindArgs (PySem.W.fnOf "law" "law" (defArgs st) (defBody st) (defScope st) .none kV doc pm an cdv ct) ⟨us, []⟩ = pure ([x].zip us))
    (F : ∀ (w : World) (K : PySem.W.Frag) (mg : Str → Option Value) (h base : Heap) (c P : Addr), K.In h → h.Ns mainGlobals mg → SaysU (faU ws) (fnU ws) ts ex w K → LamX.TabB base mg c P → ∀ f fd, LawF K st f fd → fd.code = .ref c → FnOk l.prog w K mg base CX0 k f fd [x] (spTrueT K P)) (hd : dnm st = ("law" : Str) := by rfl) :
    PySem.W.WalkO q loose XP (hookL as (faU ws) (fnU ws) ts ex).says l.row.toRowW d [] (fun f vs => PySem.call f vs) := by
  refine Att.attach_callB hn hdf fun w s₀ s₁ mg mb fa o pm cd doc a vs ns G Y ho hdd hcd hmg hobj hints hlen hbits hg => ?_
  obtain ⟨K, KX, c⟩ := Y
  rw [hname] at hmg
  have m := List.mem_of_getElem? hl
  obtain ⟨fd, FD⟩ := c.fun_ m (f := ⟨("law", none), dnm st, dnm st, defArgs st, defBody st, defScope st, [], []⟩) List.mem_cons_self
  have e : fa = ga K "law" := by
    have e1 := glo_ok KX G.T.g (c.fact m (f := .glo "law") List.mem_cons_self)
    rw [hmg] at e1
    exact Value.ref.inj (Option.some.inj e1)
  have FD1 : FunD K (dnm st) (dnm st) (defArgs st) (defBody st) (defScope st) [] [] (ga K "law") fd := FD
  rw [hd] at FD1
  have FD' : LawF K st fa fd := by rw [e]; exact FD1
  have b := FunD.bindsA (ps := [x]) FD' hbind
  obtain ⟨cc, P, ht, nP⟩ := tabX_spec (hex K c.more)
  obtain ⟨dL, hdL⟩ := Option.isSome_iff_exists.mp hrec
  obtain ⟨C, hP⟩ := PySem.W.tab_of G.T KX hdL ht
  have hcode : fd.code = .ref cc := by
    obtain ⟨f2, o2, fd2, a1, a2, a3, a4⟩ := tabIn_spec ht
    have e1 := PySem.W.mg_of KX G.T.g a1
    rw [hmg] at e1
    have e2 : fa = f2 := Value.ref.inj (Option.some.inj e1)
    subst e2
    obtain ⟨oc, od, dV, kV, doc2, pm2, an, cdv, ct, osl, rfl, lk, _⟩ := FD'.ex
    rw [lk] at a2
    cases a2
    cases a3
    exact a4
  refine LamX.law_callTs (cs := [(cc, P)]) (x := x) (sp := spTrueT K P) (CX := CX0) KX G.T.g G.T.b G.T.builtins G.T.nolimit hg (fun p hp => ?_) (fun p hp => ?_) (fun p hp => ?_) G.T.bmain hobj hints (Nat.le_trans hlen (by decide)) hr (fun base hb hgb hTB => F w K mg _ base cc P KX G.T.g c (hTB _ List.mem_cons_self) fa fd FD' hcode) (fun s u => b s [u] rfl) (fun H hH hS => ⟨a, ns, rfl, hS, hlen, hH _ List.mem_cons_self, fun _ => rfl⟩) fun H e s' z => z
  · rw [List.mem_singleton.mp hp]; exact hP
  · rw [List.mem_singleton.mp hp]; exact nP
  · rw [List.mem_singleton.mp hp]; exact C
end U

/-! X9: what the head tells of the classes that a suite asks for (own work). -/
namespace U
open PySem PySem.Spec PyProof.Rows L2 He TR
abbrev kAll : List Kl := [.box, .fn, .loop, .deep]
theorem kAll_mem (k : Kl) : k ∈ kAll := by cases k <;> decide
def kls (K : PySem.W.Frag) (k : Kl) : Addr := ga K (klN k)
def excB (K : PySem.W.Frag) (D : Addr) : Bool :=
  decide (PySem.W.findIn K (.ref D) "__getattribute__" = some (some (.builtin "BaseException.__getattribute__"))) && (decide (PySem.W.findIn K (.ref D) "__getattr__" = some none) && (decide (PySem.W.subIn K (.ref D) (.type "BaseException") = some true) && (PySem.W.hasDictIn K D &&
  (decide (PySem.W.findIn K (.ref D) "__class__" = some (some (.builtin "object.__class__"))) && (decide (PySem.W.specialIn K (.builtin "object.__class__") "__get__" = some (some (.builtin "getset_descriptor.__get__"))) && (decide (PySem.W.takesIn K (.builtin "object.__class__") = some true) && decide (PySem.W.mroIn K D (.type "object") = some true)))))))
theorem exc_of {K : PySem.W.Frag} {D : Addr} (h : excB K D = true) : ExcC K D := by
  unfold excB at h
  simp only [Bool.and_eq_true, decide_eq_true_eq] at h
  exact ⟨h.1, h.2.1, h.2.2.1, h.2.2.2.1, h.2.2.2.2.1, h.2.2.2.2.2.1, h.2.2.2.2.2.2.1, h.2.2.2.2.2.2.2⟩
def cauB (K : PySem.W.Frag) (k : Kl) : Bool := excB K (kls K k) && (rclB K (kls K k) && (decide (PySem.W.kitOne K (.ref (kls K k)) (.type "ValueError") = some true) && (decide (PySem.W.exmOne K (.ref (kls K k)) (.ref (ga K "MillError")) = some true) && kAll.all fun j => decide (PySem.W.kitOne K (.ref (kls K k)) (.ref (kls K j)) = some (decide (k = j))))))
def x6B (K : PySem.W.Frag) : Bool := kAll.all (cauB K) && (tabX K && (Fa.free "ValueError").ok K)
structure X6F (K : PySem.W.Frag) : Prop where
  exc : ∀ k, ExcC K (kls K k)
  rcl : ∀ k, rclB K (kls K k) = true
  kv : ∀ k, PySem.W.kitOne K (.ref (kls K k)) (.type "ValueError") = some true
  exm : ∀ k, PySem.W.exmOne K (.ref (kls K k)) (.ref (ga K "MillError")) = some true
  kit : ∀ k j, PySem.W.kitOne K (.ref (kls K k)) (.ref (kls K j)) = some (decide (k = j))
  tab : tabX K = true
  fre : (Fa.free "ValueError").ok K = true
theorem x6_of {K : PySem.W.Frag} (h : x6B K = true) : X6F K := by
  unfold x6B at h
  obtain ⟨h1, h2⟩ := He.ba h
  obtain ⟨h3, h4⟩ := He.ba h2
  have c : ∀ k, cauB K k = true := fun k => List.all_eq_true.mp h1 k (kAll_mem k)
  have d : ∀ k, excB K (kls K k) = true ∧ rclB K (kls K k) = true ∧ PySem.W.kitOne K (.ref (kls K k)) (.type "ValueError") = some true ∧ PySem.W.exmOne K (.ref (kls K k)) (.ref (ga K "MillError")) = some true ∧ (kAll.all fun j => decide (PySem.W.kitOne K (.ref (kls K k)) (.ref (kls K j)) = some (decide (k = j)))) = true := fun k => by
    have z := c k
    unfold cauB at z
    obtain ⟨a1, z⟩ := He.ba z
    obtain ⟨a2, z⟩ := He.ba z
    obtain ⟨a3, z⟩ := He.ba z
    obtain ⟨a4, z⟩ := He.ba z
    exact ⟨a1, a2, of_decide_eq_true a3, of_decide_eq_true a4, z⟩
  exact ⟨fun k => exc_of (d k).1, fun k => (d k).2.1, fun k => (d k).2.2.1, fun k => (d k).2.2.2.1, fun k j => of_decide_eq_true (List.all_eq_true.mp (d k).2.2.2.2 j (kAll_mem j)), h3, h4⟩
end U

namespace K06
open PySem PySem.Spec PyProof.Rows L2 U MM M
def lW : List Wd := [.any "MillError", .any "NoBox", .any "NoFunction", .any "NoLoop", .any "TooDeep", .df "_law_cell_at" (top 84), .df "_law_deep_tree" (top 85), .df "_law_tree" (top 86), .df "_law_statement" (top 87), .df "_law_around" (top 88), .df "_law_caught" (top 89), .df "_law_due" (top 90), .df "_law_program" (top 91), .df "law" (top 92)]
abbrev ws : List Wd := CK.kW ++ CM.cW ++ TT.tW ++ lW
def eX (K : PySem.W.Frag) : Bool := CK.kX K && (CM.cX K && (TT.tX K && x6B K))
def as : List PySem.Addr := [3, 6, 4, 24, 37, 49, 61, 73, 76, 87, 101, 108, 115, 122, 129, 136, 143, 181, 202, 211, 218, 225, 232, 427, 239, 434, 246, 253, 448, 260, 455, 267, 462, 274, 469, 281, 476, 288, 295, 490, 302, 309, 497, 316, 323, 330, 337, 338, 348, 368, 388, 399, 406, 413, 420, 441, 483, 498, 505, 512, 519, 526, 533, 540, 547, 552, 559, 0, 23, 36, 48, 60, 72, 77, 78, 79, 80, 81, 82, 83, 84, 85, 86, 88, 89, 90, 91, 92, 93, 94, 100, 107, 114, 121, 128, 135, 142, 180, 201, 210, 217, 224, 231, 426, 238, 433, 245, 252, 447, 259, 454, 266, 461, 273, 468, 280, 475, 287, 294, 489, 301, 308, 496, 315, 322, 329, 336, 347, 367, 387, 398, 405, 412, 419, 440, 482, 504, 511, 518, 525, 532, 539, 546, 551, 558, 22, 25, 35, 47, 59, 71, 95, 96, 97, 98, 99, 102, 103, 104, 105, 106, 109, 110, 111, 112, 113, 116, 117, 118, 119, 120, 123, 124, 125, 126, 127, 130, 131, 132, 133, 134, 137, 138, 139, 140, 141, 157, 164, 171, 178, 179, 182, 183, 199, 200, 203, 204, 207, 208, 209, 212, 213, 214, 215, 216, 219, 220, 221, 222, 223, 226, 227, 228, 229, 230, 421, 422, 423, 424, 425, 233, 234, 235, 236, 237, 428, 429, 430, 431, 432, 240, 241, 242, 243, 244, 247, 248, 249, 250, 251, 442, 443, 444, 445, 446, 254, 255, 256, 257, 258, 449, 450, 451, 452, 453, 261, 262, 263, 264, 265, 456, 457, 458, 459, 460, 268, 269, 270, 271, 272, 463, 464, 465, 466, 467, 275, 276, 277, 278, 279, 470, 471, 472, 473, 474, 282, 283, 284, 285, 286, 289, 290, 291, 292, 293, 484, 485, 486, 487, 488, 296, 297, 298, 299, 300, 303, 304, 305, 306, 307, 491, 492, 493, 494, 495, 310, 311, 312, 313, 314, 317, 318, 319, 320, 321, 324, 325, 326, 327, 328, 331, 332, 333, 334, 335, 346, 349, 365, 366, 369, 385, 386, 389, 390, 393, 394, 395, 396, 397, 400, 401, 402, 403, 404, 407, 408, 409, 410, 411, 414, 415, 416, 417, 418, 435, 436, 437, 438, 439, 477, 478, 479, 480, 481, 499, 500, 501, 502, 503, 506, 507, 508, 509, 510, 513, 514, 515, 516, 517, 520, 521, 522, 523, 524, 527, 528, 529, 530, 531, 534, 535, 536, 537, 538, 541, 542, 543, 544, 545, 548, 549, 550, 553, 555, 556, 557, 156, 163, 170, 177, 198, 364, 384, 2, 1]
abbrev R : PySem.W.OpenRow := PySem.W.OpenLaw.row PySem.Challenge.rw_unwind_k06_refusals
abbrev hk : PySem.W.Hook := U.hookL as (faU ws) (fnU ws) [CK.stT, CK.exT, CM.acT, TT.tcT] eX
def ob (s : PySem.W.SharedT) : AlU := U.obsLG as (faU ws) (fnU ws) [CK.stT, CK.exT, CM.acT, TT.tcT] eX (HandSHeadRun.getT s)
theorem ob_eq (s : PySem.W.SharedT) : ob s = hk.obs s.abs := U.obsL_eq (HandSHeadRun.getT_eq s)
def loose : List Str := (["MillError", "NoBox", "NoFunction", "NoLoop", "TooDeep", "BOXES", "DEEPEST", "NOUGHT", "DEEP", "MOST_BLOCKS", "MOST_PARTS", "STATEMENTS", "EXPRESSIONS", "checked", "_check_block", "_check_statement", "_check_expression", "_check_box", "_check_function", "reckoned", "Maker", "Around", "made", "_placed", "_function", "_expression", "_block", "block_making", "_set", "set_making"] : List Str) ++ (["_say_or_raise", "_if", "if_making", "_loop", "loop_making", "_leave", "leave_making", "_next", "next_making", "_give", "give_making", "_held", "_catch", "catch_making", "_let_others_go_on", "_end", "end_making", "_ways_to_last", "_go_to_last", "_bring_to_last", "ACTS_making", "Tired", "Fault", "Run", "told", "_given_back", "_take_turn", "_number", "block_trees", "set_trees"] : List Str) ++ (["_say", "if_trees", "loop_trees", "leave_trees", "next_trees", "give_trees", "_raise", "catch_trees", "end_trees", "ACTS_trees", "_law_cell_at", "_law_deep_tree", "_law_tree", "_law_statement", "_law_around", "_law_caught", "_law_due", "_law_program"] : List Str)
abbrev vw : Program := PySem.W.view R.prog [92]
theorem l_f (w : World) : rLooks R 5600 (w.withFollow "special-get-raises" false) := by
  intro os
  kernel_rfl
theorem l_t (w : World) : rLooks R 5600 (w.withFollow "special-get-raises" true) := by
  intro os
  kernel_rfl
theorem s_f (w : World) : rSeen R vw 5600 loose (w.withFollow "special-get-raises" false) := by
  intro os
  kernel_rfl
theorem s_t (w : World) : rSeen R vw 5600 loose (w.withFollow "special-get-raises" true) := by
  intro os
  kernel_rfl
theorem o_f (w : World) : rObs R 5600 ob hk.val (w.withFollow "special-get-raises" false) := by
  intro os
  kernel_rfl
theorem o_t (w : World) : rObs R 5600 ob hk.val (w.withFollow "special-get-raises" true) := by
  intro os
  kernel_rfl
theorem run (w : World) : HandSHeadRun.RunEq R vw hk ob 5600 loose w := PySem.W.byRow2 "special-get-raises" (P := fun w => HandSHeadRun.RunEq R vw hk ob 5600 loose w) (fun w => run3 (l_f w) (s_f w) (o_f w)) (fun w => run3 (l_t w) (s_t w) (o_t w)) w
end K06

open PySem PySem.W PySem.Calls PyProof.Rows
theorem K06.pre_hc (hc : WalkO (view (OpenLaw.row PySem.Challenge.rw_unwind_k06_refusals).prog [92]) K06.loose (XL (view (OpenLaw.row PySem.Challenge.rw_unwind_k06_refusals).prog [92]) []) K06.hk.says (OpenLaw.row PySem.Challenge.rw_unwind_k06_refusals).toRowW (HandSHeadRun.topDef (OpenLaw.row PySem.Challenge.rw_unwind_k06_refusals).prog 92) [] (fun f vs => PySem.call f vs)) : PySem.Challenge.rw_unwind_k06_refusals.Holds := by
  w_on; o_law
  refine HandSHeadRun.head_any (r := OpenLaw.row PySem.Challenge.rw_unwind_k06_refusals) (q := view (OpenLaw.row PySem.Challenge.rw_unwind_k06_refusals).prog [92]) (H := K06.hk) (ob := K06.ob) (M := 5600) (loose := K06.loose) (d := HandSHeadRun.topDef (OpenLaw.row PySem.Challenge.rw_unwind_k06_refusals).prog 92) (kwd := []) K06.ob_eq
    (by kernel_rfl) (fun s => by kernel_rfl) K06.run (by kernel_rfl) (by kernel_rfl) (by kernel_rfl) (by rfl) (by first | assumption | decide +kernel) (by decide +kernel) ⟨rfl, rfl, rfl, rfl, rfl, by decide +kernel⟩ ?hw ?hc
  case hw => w_witness2
  case hc => exact hc

/-! T7: what is made of a whole program, marks placed (own work). -/
namespace TR
open PySem L2 U MM
def mk0 : Mk := ⟨[], [], [], 5⟩
def markOk (P : List (Option Nat)) (m : Nat) : Prop := ∃ n : Nat, P[m]? = some (some n)
def atM (P : List (Option Nat)) (m : Nat) : Nat := ((P[m]?).getD none).getD 0
theorem markOk.at {P : List (Option Nat)} {m : Nat} (h : markOk P m) : P[m]? = some (some (atM P m)) := by
  obtain ⟨n, h⟩ := h
  unfold atM
  rw [h]
  rfl
def rowOk (P : List (Option Nat)) : Rr → Prop
  | .way m => markOk P m
  | .go m => markOk P m
  | .nought m => markOk P m
  | _ => True
def plc (P : List (Option Nat)) : Rr → Rw
  | .put n => .put n
  | .way m => .put (atM P m : Nat)
  | .get k => .get k
  | .set k => .set k
  | .on k => .on k
  | .say => .say
  | .rek o => .rek o
  | .go m => .go (atM P m : Nat)
  | .nought m => .nought (atM P m : Nat)
  | .turn => .turn
  | .call f => .call f
  | .back => .back
  | .raise => .raise
def fnsC : List (List Sm) → Mk → List Nat × Mk
  | [], s => ([], s)
  | b :: r, s => (s.rows.length :: (fnsC r (fnC b s)).1, (fnsC r (fnC b s)).2)
theorem fnsC_snoc : ∀ (l : List (List Sm)) (b : List Sm) (s : Mk), fnsC (l ++ [b]) s = ((fnsC l s).1 ++ [(fnsC l s).2.rows.length], fnC b (fnsC l s).2)
  | [], b, s => rfl
  | c :: l, b, s => by
    rw [List.cons_append, fnsC, fnsC_snoc l b]
    rfl
def szP : Pg → Nat
  | [] => 0
  | b :: r => szL b + 3 + szP r
theorem tot_fn (l : List Sm) (s : Mk) : (fnC l s).tot ≤ s.tot + szL l + 3 := by
  unfold fnC
  rw [tot_make, tot_here, tot_make]
  have h := tot_bl l ⟨s.places.length, none, 0⟩ s.mark
  rw [tot_mark] at h
  omega
theorem tot_fns : ∀ (l : Pg) (s : Mk), (fnsC l s).2.tot ≤ s.tot + szP l
  | [], s => by rw [fnsC, szP]; exact Nat.le_refl _
  | b :: l, s => by
    rw [fnsC, szP]
    have h1 := tot_fn b s
    have h2 := tot_fns l (fnC b s)
    simp only
    omega
theorem szP_app : ∀ (l r : Pg), szP (l ++ r) = szP l + szP r
  | [], r => by rw [List.nil_append, szP]; omega
  | b :: l, r => by rw [List.cons_append, szP, szP, szP_app l r]; omega
def lastC (pg : Pg) : Mk := (fnsC pg mk0).2
def stC (P : List (Option Nat)) (t : Nat × Nat × Nat) : St3 := ((t.1 : Nat), (t.2.1 : Nat), (atM P t.2.2 : Nat))
/-- what is made of a program -/
def codeC (pg : Pg) : Cd := { rows := (lastC pg).rows.map (plc (lastC pg).places), str := (lastC pg).str.map (stC (lastC pg).places), begins := (fnsC pg mk0).1.map fun n : Nat => ((n : Nat) : Int), boxes := ((lastC pg).boxes : Nat) }
/-- the marks that the rows and stretches name have places -/
def MarksOk (pg : Pg) : Prop := (∀ r ∈ (lastC pg).rows, rowOk (lastC pg).places r) ∧ ∀ t ∈ (lastC pg).str, markOk (lastC pg).places t.2.2
end TR

/-! S1: what is made, without marks: rows by the places themselves (own work). -/
namespace TR
open PySem L2 U MM
def exD : Ex → List Rw
  | .num n => [.put n]
  | .box k => [.get k]
  | .call f e => exD e ++ [.call f]
  | .op o a b => exD a ++ exD b ++ [.rek o]
def wantN : Option Int → Nat
  | none => 0
  | some _ => 8
def wantD : Option Int → Nat → List Rw
  | none, _ => []
  | some z, p => [.set 4, .get 4, .put z, .rek .sub, .nought ((p + 7 : Nat) : Int), .get 4, .raise, .get 4]
theorem wantD_len (n : Option Int) (p : Nat) : (wantD n p).length = wantN n := by cases n <;> rfl
def goD (way mark start : Nat) : List Rw := [.put (mark : Nat), .set (way : Nat), .go (start : Nat)]
def outN : Bool → Nat
  | true => 6
  | false => 0
mutual
def lenS (lp : Bool) : Sm → Nat
  | .set _ e => (exD e).length + 1
  | .say e => (exD e).length + 1
  | .raise e => (exD e).length + 1
  | .give e => (exD e).length + 1
  | .leave => 1
  | .next => 1
  | .iff e a b => (exD e).length + 1 + lenL lp a + 1 + lenL lp b
  | .loop e b => 1 + (exD e).length + 1 + lenL true b + 1
  | .catch b n _ h => lenL lp b + 1 + wantN n + 1 + lenL lp h
  | .endd b l => lenL lp b + 3 + outN lp + 4 + 4 + lenL lp l + 5
def lenL (lp : Bool) : List Sm → Nat
  | [] => 0
  | x :: r => lenS lp x + lenL lp r
end
/-- what is around the body of an end -/
def inD (ar : Ar) (gv q : Nat) : Ar := ⟨gv, ar.lv.map fun _ => (q + 3, q + 6), ar.ends + 1⟩
def outD (way start : Nat) : Option (Nat × Nat) → List Rw
  | none => []
  | some (lv, ag) => goD way lv start ++ goD way ag start
mutual
def smD : Sm → Ar → Nat → List Rw
  | .set k e, _, _ => exD e ++ [.set k]
  | .say e, _, _ => exD e ++ [.say]
  | .raise e, _, _ => exD e ++ [.raise]
  | .give e, ar, _ => exD e ++ [.go (ar.give : Nat)]
  | .leave, ar, _ => [.go ((ar.lv.getD (0, 0)).1 : Nat)]
  | .next, ar, _ => [.go ((ar.lv.getD (0, 0)).2 : Nat)]
  | .iff e a b, ar, p =>
    exD e ++ [.nought ((p + (exD e).length + 1 + lenL ar.lv.isSome a + 1 : Nat) : Int)] ++ blD a ar (p + (exD e).length + 1) ++ [.go ((p + (exD e).length + 1 + lenL ar.lv.isSome a + 1 + lenL ar.lv.isSome b : Nat) : Int)] ++ blD b ar (p + (exD e).length + 1 + lenL ar.lv.isSome a + 1)
  | .loop e b, ar, p =>
    [.turn] ++ exD e ++ [.nought ((p + 1 + (exD e).length + 1 + lenL true b + 1 : Nat) : Int)] ++ blD b ⟨ar.give, some (p + 1 + (exD e).length + 1 + lenL true b + 1, p), ar.ends⟩ (p + 1 + (exD e).length + 1) ++ [.go (p : Nat)]
  | .catch b n k h, ar, p =>
    blD b ar p ++ [.go ((p + lenL ar.lv.isSome b + 1 + wantN n + 1 + lenL ar.lv.isSome h : Nat) : Int)] ++ wantD n (p + lenL ar.lv.isSome b + 1) ++ [.set k] ++ blD h ar (p + lenL ar.lv.isSome b + 1 + wantN n + 1)
  | .endd b l, ar, p =>
    let q := p + lenL ar.lv.isSome b
    let gv := q + 3 + outN ar.lv.isSome
    let start := gv + 4 + 4
    let on := start + lenL ar.lv.isSome l
    let way := 5 + 2 * ar.ends
    blD b (inD ar gv q) p ++ goD way (on + 5) start ++ outD way start ar.lv ++ [.set ((way + 1 : Nat) : Int)] ++ goD way (on + 1) start ++ [.set ((way + 1 : Nat) : Int)] ++ goD way (on + 3) start ++ blD l ⟨ar.give, ar.lv, ar.ends + 1⟩ start ++
      [.on (way : Nat), .get ((way + 1 : Nat) : Int), .go (ar.give : Nat), .get ((way + 1 : Nat) : Int), .raise]
def blD : List Sm → Ar → Nat → List Rw
  | [], _, _ => []
  | x :: r, ar, p => smD x ar p ++ blD r ar (p + lenS ar.lv.isSome x)
end
abbrev Tr3 := Nat × Nat × Nat
def heldT (p n goal : Nat) : List Tr3 := if 0 < n then [(p, p + n, goal)] else []
mutual
def smT (lp : Bool) : Sm → Nat → List Tr3
  | .iff e a b, p => blT lp a (p + (exD e).length + 1) ++ blT lp b (p + (exD e).length + 1 + lenL lp a + 1)
  | .loop e b, p => blT true b (p + 1 + (exD e).length + 1)
  | .catch b n _ h, p => blT lp b p ++ heldT p (lenL lp b) (p + lenL lp b + 1) ++ blT lp h (p + lenL lp b + 1 + wantN n + 1)
  | .endd b l, p => blT lp b p ++ heldT p (lenL lp b) (p + lenL lp b + 3 + outN lp + 4) ++ blT lp l (p + lenL lp b + 3 + outN lp + 4 + 4)
  | .set _ _, _ => []
  | .say _, _ => []
  | .raise _, _ => []
  | .give _, _ => []
  | .leave, _ => []
  | .next, _ => []
def blT (lp : Bool) : List Sm → Nat → List Tr3
  | [], _ => []
  | x :: r, p => smT lp x p ++ blT lp r (p + lenS lp x)
end
mutual
/-- how many boxes are wanted at this depth of ends -/
def bxS : Sm → Nat → Nat
  | .iff _ a b, n => max (bxL a n) (bxL b n)
  | .loop _ b, n => bxL b n
  | .catch b _ _ h, n => max (bxL b n) (bxL h n)
  | .endd b l, n => max (5 + 2 * n + 2) (max (bxL b (n + 1)) (bxL l (n + 1)))
  | .set _ _, _ => 5
  | .say _, _ => 5
  | .raise _, _ => 5
  | .give _, _ => 5
  | .leave, _ => 5
  | .next, _ => 5
def bxL : List Sm → Nat → Nat
  | [], _ => 5
  | x :: r, n => max (bxS x n) (bxL r n)
end
theorem outD_len (way start : Nat) (lv : Option (Nat × Nat)) : (outD way start lv).length = outN lv.isSome := by
  rcases lv with _ | ⟨a, b⟩ <;> rfl
theorem inD_lv {ar : Ar} {gv q : Nat} : (inD ar gv q).lv.isSome = ar.lv.isSome := by
  unfold inD
  cases ar.lv <;> rfl
mutual
theorem smD_len : ∀ (x : Sm) (ar : Ar) (p : Nat), (smD x ar p).length = lenS ar.lv.isSome x
  | .set _ e, _, _ => by rw [smD, lenS, List.length_append]; rfl
  | .say e, _, _ => by rw [smD, lenS, List.length_append]; rfl
  | .raise e, _, _ => by rw [smD, lenS, List.length_append]; rfl
  | .give e, _, _ => by rw [smD, lenS, List.length_append]; rfl
  | .leave, _, _ => by rw [smD, lenS]; rfl
  | .next, _, _ => by rw [smD, lenS]; rfl
  | .iff e a b, ar, p => by
    rw [smD, lenS]
    simp only [List.length_append, List.length_singleton, blD_len a, blD_len b]
  | .loop e b, ar, p => by
    rw [smD, lenS]
    simp only [List.length_append, List.length_singleton, blD_len b]
    rfl
  | .catch b n k h, ar, p => by
    rw [smD, lenS]
    simp only [List.length_append, List.length_singleton, blD_len b, blD_len h, wantD_len]
  | .endd b l, ar, p => by
    rw [smD, lenS]
    simp only [List.length_append, List.length_singleton, blD_len b, blD_len l, outD_len, inD_lv, goD, List.length_cons, List.length_nil]
theorem blD_len : ∀ (l : List Sm) (ar : Ar) (p : Nat), (blD l ar p).length = lenL ar.lv.isSome l
  | [], _, _ => by rw [blD, lenL]; rfl
  | x :: r, ar, p => by rw [blD, lenL, List.length_append, smD_len x, blD_len r]
end
/-! ### rows that are there -/
section
variable {s : Mk} {m k : Nat} {r : Rr}
def Mk.rn (s : Mk) : Nat := s.rows.length
def Mk.pl (s : Mk) (m : Nat) : Option (Option Nat) := s.places[m]?
theorem rn_mark : s.mark.rn = s.rn := rfl
theorem rn_here : (s.here m).rn = s.rn := rfl
theorem rn_make : (s.make r).rn = s.rn + 1 := by unfold Mk.make Mk.rn; rw [List.length_append, List.length_singleton]
theorem rn_box : (s.box m).rn = s.rn := rfl
theorem rn_goLast {way mark start : Nat} : (goLast way mark start s).rn = s.rn + 3 := by unfold goLast; rw [rn_make, rn_make, rn_make]
theorem rn_bring {way mark start : Nat} : (bring mark way start s).rn = s.rn + 4 := by unfold bring; rw [rn_goLast, rn_make, rn_here, rn_mark]
theorem rn_held {f : Mk → Mk} {goal : Nat} : (heldC f goal s).rn = (f s).rn := by
  unfold heldC
  split <;> rfl
theorem rn_ex : ∀ (e : Ex) (s : Mk), (exC e s).rn = s.rn + (exD e).length
  | .num _, s => by rw [exC, rn_make]; rfl
  | .box _, s => by rw [exC, rn_make]; rfl
  | .call _ e, s => by rw [exC, rn_make, rn_ex e, exD, List.length_append]; rfl
  | .op _ a b, s => by rw [exC, rn_make, rn_ex b, rn_ex a, exD, List.length_append, List.length_append]; simp only [List.length_singleton]; omega
theorem rn_others {z : Int} : (othersC z s).rn = s.rn + 8 := by
  unfold othersC
  simp only [rn_make, rn_here, rn_mark]
theorem rn_want {n : Option Int} : (wantC n s).rn = s.rn + wantN n := by
  cases n with
  | none => rfl
  | some z => exact rn_others
theorem rn_goOuts {way o : Nat} : ∀ (lv : Option (Nat × Nat)) (s : Mk), (goOuts way o lv s).rn = s.rn + outN lv.isSome
  | none, s => rfl
  | some (lv, ag), s => by unfold goOuts; rw [rn_goLast, rn_here, rn_goLast, rn_here]; rfl
theorem rn_marksE {ar : Ar} : (marksE ar s).rn = s.rn := by
  unfold marksE
  cases ar.lv <;> rfl
theorem rn_endTail {way worth g f b gv : Nat} : (endTail way worth g f b gv s).rn = s.rn + 5 := by
  unfold endTail
  simp only [rn_make, rn_here]
theorem innerA_lv {o : Nat} {ar : Ar} : (innerA o ar).lv.isSome = ar.lv.isSome := by
  unfold innerA
  cases ar.lv <;> rfl
end
mutual
theorem rn_sm : ∀ (x : Sm) (ar : Ar) (s : Mk), (smC x ar s).rn = s.rn + lenS ar.lv.isSome x
  | .set _ e, _, s => by rw [smC, rn_make, rn_ex, lenS]; omega
  | .say e, _, s => by rw [smC, rn_make, rn_ex, lenS]; omega
  | .raise e, _, s => by rw [smC, rn_make, rn_ex, lenS]; omega
  | .give e, _, s => by rw [smC, rn_make, rn_ex, lenS]; omega
  | .leave, _, s => by rw [smC, rn_make, lenS]
  | .next, _, s => by rw [smC, rn_make, lenS]
  | .iff e a b, ar, s => by
    rw [smC, lenS, rn_here, rn_bl b, rn_here, rn_make, rn_bl a, rn_make, rn_ex, rn_mark, rn_mark]
    omega
  | .loop e b, ar, s => by
    rw [smC, lenS, rn_here, rn_make, rn_bl b, rn_make, rn_ex, rn_make, rn_here, rn_mark, rn_mark]
    simp only [Option.isSome_some]
    omega
  | .catch b n k h, ar, s => by
    rw [smC, lenS]
    rw [rn_here, rn_bl h, rn_make, rn_want, rn_here, rn_make, rn_held, rn_bl b, rn_mark, rn_mark]
    omega
  | .endd b l, ar, s => by
    rw [smC, lenS]
    rw [rn_endTail, rn_bl l, rn_here, rn_bring, rn_bring, rn_goOuts, rn_goLast, rn_held, rn_bl b, rn_marksE, rn_box, innerA_lv]
    simp only
    omega
theorem rn_bl : ∀ (l : List Sm) (ar : Ar) (s : Mk), (blC l ar s).rn = s.rn + lenL ar.lv.isSome l
  | [], _, s => by rw [blC, lenL]; rfl
  | x :: r, ar, s => by
    rw [blC, lenL, rn_bl r, rn_sm x]
    omega
end
end TR

/-! S2: where marks end (own work). -/
namespace TR
open PySem L2 U MM
section
variable {s : Mk} {m k : Nat} {r : Rr}
theorem pl_mark (h : m < s.places.length) : s.mark.pl m = s.pl m := by unfold Mk.mark Mk.pl; exact List.getElem?_append_left h
theorem pl_here_ne (h : m ≠ k) : (s.here k).pl m = s.pl m := by unfold Mk.here Mk.pl; exact List.getElem?_set_ne (Ne.symm h)
theorem pl_here_eq (h : m < s.places.length) : (s.here m).pl m = some (some s.rn) := by
  unfold Mk.here Mk.pl Mk.rn
  simp only
  rw [List.getElem?_set_self h]
theorem pl_make : (s.make r).pl m = s.pl m := rfl
theorem pl_box : (s.box k).pl m = s.pl m := rfl
theorem pl_goLast {way mark start : Nat} : (goLast way mark start s).pl m = s.pl m := rfl
theorem pl_held {f : Mk → Mk} {goal : Nat} : (heldC f goal s).pl m = (f s).pl m := by
  unfold heldC
  split <;> rfl
theorem pl_ex : ∀ (e : Ex) (s : Mk), (exC e s).pl m = s.pl m
  | .num _, s => rfl
  | .box _, s => rfl
  | .call _ e, s => by rw [exC, pl_make, pl_ex e]
  | .op _ a b, s => by rw [exC, pl_make, pl_ex b, pl_ex a]
theorem pl_bring {mark way start : Nat} (h : m < s.places.length) (n : m ≠ mark) : (bring mark way start s).pl m = s.pl m := by unfold bring; rw [pl_goLast, pl_make, pl_here_ne n, pl_mark h]
theorem pl_bring_eq {mark way start : Nat} (h : mark < s.places.length) : (bring mark way start s).pl mark = some (some s.rn) := by
  unfold bring
  rw [pl_goLast, pl_make, pl_here_eq (by rw [pn_mark]; omega), rn_mark]
theorem pl_others {z : Int} (h : m < s.places.length) : (othersC z s).pl m = s.pl m := by
  unfold othersC
  simp only
  rw [pl_make, pl_here_ne (by omega)]
  simp only [pl_make]
  exact pl_mark h
theorem pl_want {n : Option Int} (h : m < s.places.length) : (wantC n s).pl m = s.pl m := by
  cases n with
  | none => rfl
  | some z => exact pl_others h
theorem pl_goOuts {way o : Nat} (h : m ≠ o + 4) (h2 : m ≠ o + 5) : ∀ (lv : Option (Nat × Nat)) (s : Mk), (goOuts way o lv s).pl m = s.pl m
  | none, s => rfl
  | some (lv, ag), s => by unfold goOuts; rw [pl_goLast, pl_here_ne h2, pl_goLast, pl_here_ne h]
theorem pl_goOuts' {way o : Nat} : ∀ (lv : Option (Nat × Nat)) (s : Mk), (lv.isSome = true → m ≠ o + 4 ∧ m ≠ o + 5) → (goOuts way o lv s).pl m = s.pl m
  | none, s, _ => rfl
  | some q, s, h => pl_goOuts (h rfl).1 (h rfl).2 _ s
theorem pl_goOuts4 {way o : Nat} {q : Nat × Nat} (h : o + 4 < s.places.length) : (goOuts way o (some q) s).pl (o + 4) = some (some s.rn) := by
  unfold goOuts
  rw [pl_goLast, pl_here_ne (by omega), pl_goLast, pl_here_eq h]
theorem pl_goOuts5 {way o : Nat} {q : Nat × Nat} (h : o + 5 < s.places.length) : (goOuts way o (some q) s).pl (o + 5) = some (some (s.rn + 3)) := by
  unfold goOuts
  rw [pl_goLast, pl_here_eq (by rw [pn_goLast, pn_here]; exact h), rn_goLast, rn_here]
theorem pl_marksE {ar : Ar} (h : m < s.places.length) : (marksE ar s).pl m = s.pl m := by
  unfold marksE
  cases ar.lv with
  | none =>
    simp only
    rw [pl_mark (by rw [pn_mark, pn_mark, pn_mark]; omega), pl_mark (by rw [pn_mark, pn_mark]; omega), pl_mark (by rw [pn_mark]; omega), pl_mark h]
  | some _ =>
    simp only
    rw [pl_mark (by rw [pn_mark, pn_mark, pn_mark, pn_mark, pn_mark]; omega), pl_mark (by rw [pn_mark, pn_mark, pn_mark, pn_mark]; omega), pl_mark (by rw [pn_mark, pn_mark, pn_mark]; omega), pl_mark (by rw [pn_mark, pn_mark]; omega), pl_mark (by rw [pn_mark]; omega), pl_mark h]
theorem pl_endTail {way worth g f b gv : Nat} (h1 : m ≠ g) (h2 : m ≠ f) (h3 : m ≠ b) : (endTail way worth g f b gv s).pl m = s.pl m := by
  unfold endTail
  rw [pl_here_ne h3, pl_make, pl_make, pl_here_ne h2, pl_make, pl_make, pl_here_ne h1, pl_make]
theorem pl_endTail_b {way worth g f b gv : Nat} (h : b < s.places.length) : (endTail way worth g f b gv s).pl b = some (some (s.rn + 5)) := by
  unfold endTail
  rw [pl_here_eq (by simp only [pn_make, pn_here]; exact h)]
  simp only [rn_make, rn_here]
theorem pl_endTail_g {way worth g f b gv : Nat} (h : g < s.places.length) (h2 : g ≠ f) (h3 : g ≠ b) : (endTail way worth g f b gv s).pl g = some (some (s.rn + 1)) := by
  unfold endTail
  rw [pl_here_ne h3, pl_make, pl_make, pl_here_ne h2, pl_make, pl_make, pl_here_eq (by simp only [pn_make]; exact h)]
  simp only [rn_make]
theorem pl_endTail_f {way worth g f b gv : Nat} (h : f < s.places.length) (h3 : f ≠ b) : (endTail way worth g f b gv s).pl f = some (some (s.rn + 3)) := by
  unfold endTail
  rw [pl_here_ne h3, pl_make, pl_make, pl_here_eq (by simp only [pn_make, pn_here]; exact h)]
  simp only [rn_make, rn_here]
end
local macro_rules | `(tactic| walk_at "ltp") => `(tactic| ((repeat first
  | assumption
  | rw [pn_here] | rw [pn_make] | rw [pn_ex] | rw [pn_mark] | rw [pn_held] | rw [pn_bring] | rw [pn_goOuts] | rw [pn_goLast] | rw [pn_box] | rw [pn_endTail] | rw [pn_marksE]
  | (with_reducible refine Nat.lt_of_lt_of_le ?_ (pn_bl _ _ _))
  | (with_reducible refine Nat.lt_of_lt_of_le ?_ pn_want)); all_goals first | omega | (split <;> omega)))
mutual
theorem fr_sm : ∀ (x : Sm) (ar : Ar) (s : Mk) (m : Nat), m < s.places.length → (smC x ar s).pl m = s.pl m
  | .set _ e, _, s, m, h => by rw [smC, pl_make, pl_ex]
  | .say e, _, s, m, h => by rw [smC, pl_make, pl_ex]
  | .raise e, _, s, m, h => by rw [smC, pl_make, pl_ex]
  | .give e, _, s, m, h => by rw [smC, pl_make, pl_ex]
  | .leave, _, s, m, h => by rw [smC, pl_make]
  | .next, _, s, m, h => by rw [smC, pl_make]
  | .iff e a b, ar, s, m, h => by
    rw [smC, pl_here_ne (by omega), fr_bl b _ _ _ (by walk_at "ltp"), pl_here_ne (by omega), pl_make, fr_bl a _ _ _ (by walk_at "ltp"), pl_make, pl_ex, pl_mark (by walk_at "ltp"), pl_mark h]
  | .loop e b, ar, s, m, h => by
    rw [smC, pl_here_ne (by omega), pl_make, fr_bl b _ _ _ (by walk_at "ltp"), pl_make, pl_ex, pl_make, pl_here_ne (by omega), pl_mark (by walk_at "ltp"), pl_mark h]
  | .catch b n k l, ar, s, m, h => by
    rw [smC]
    rw [pl_here_ne (by omega), fr_bl l _ _ _ (by walk_at "ltp"), pl_make, pl_want (by walk_at "ltp"), pl_here_ne (by omega), pl_make, pl_held, fr_bl b _ _ _ (by walk_at "ltp"), pl_mark (by walk_at "ltp"), pl_mark h]
  | .endd b l, ar, s, m, h => by
    rw [smC]
    have n1 : s.places.length ≤ (blC b (innerA s.places.length ar) (marksE ar (s.box (5 + 2 * ar.ends + 2)))).places.length := by
      refine Nat.le_trans ?_ (pn_bl _ _ _)
      rw [pn_marksE, pn_box]
      omega
    rw [pl_endTail (by rw [pn_goOuts, pn_goLast, pn_held]; omega) (by rw [pn_bring, pn_goOuts, pn_goLast, pn_held]; omega) (by omega), fr_bl l _ _ _ (by walk_at "ltp"), pl_here_ne (by omega), pl_bring (by walk_at "ltp") (by omega), pl_bring (by walk_at "ltp") (by omega), pl_goOuts (by omega) (by omega), pl_goLast, pl_held, fr_bl b _ _ _ (by walk_at "ltp"), pl_marksE (by walk_at "ltp"), pl_box]
theorem fr_bl : ∀ (l : List Sm) (ar : Ar) (s : Mk) (m : Nat), m < s.places.length → (blC l ar s).pl m = s.pl m
  | [], _, s, m, h => by rw [blC]
  | x :: r, ar, s, m, h => by
    rw [blC, fr_bl r _ _ _ (Nat.lt_of_lt_of_le h (pn_sm x ar s)), fr_sm x _ _ _ h]
end
end TR

/-! S3: what is made with marks is what is made without (own work). -/
namespace TR
open PySem L2 U MM
def trP (P : List (Option Nat)) (t : Tr3) : Tr3 := (t.1, t.2.1, atM P t.2.2)
structure Seg (P : List (Option Nat)) (s s' : Mk) (D : List Rw) (T : List Tr3) : Prop where
  rows : ∃ R, s'.rows = s.rows ++ R ∧ R.map (plc P) = D ∧ ∀ r ∈ R, rowOk P r
  str : ∃ S, s'.str = s.str ++ S ∧ S.map (trP P) = T ∧ ∀ t ∈ S, markOk P t.2.2
section
variable {P : List (Option Nat)} {s s1 s2 : Mk} {D D1 D2 : List Rw} {T T1 T2 : List Tr3} {m n k : Nat} {r : Rr}
theorem Seg.refl : Seg P s s [] [] := ⟨⟨[], by rw [List.append_nil], rfl, fun _ h => by cases h⟩, ⟨[], by rw [List.append_nil], rfl, fun _ h => by cases h⟩⟩
theorem Seg.trans (a : Seg P s s1 D1 T1) (b : Seg P s1 s2 D2 T2) : Seg P s s2 (D1 ++ D2) (T1 ++ T2) := by
  obtain ⟨⟨R1, a1, a2, a3⟩, S1, a4, a5, a6⟩ := a
  obtain ⟨⟨R2, b1, b2, b3⟩, S2, b4, b5, b6⟩ := b
  refine ⟨⟨R1 ++ R2, by rw [b1, a1, List.append_assoc], by rw [List.map_append, a2, b2], fun r hr => ?_⟩, S1 ++ S2, by rw [b4, a4, List.append_assoc], by rw [List.map_append, a5, b5], fun t ht => ?_⟩
  · rcases List.mem_append.mp hr with h | h
    · exact a3 r h
    · exact b3 r h
  · rcases List.mem_append.mp ht with h | h
    · exact a6 t h
    · exact b6 t h
theorem Seg.same (h1 : s1.rows = s.rows) (h2 : s1.str = s.str) : Seg P s s1 [] [] := ⟨⟨[], by rw [List.append_nil, h1], rfl, fun _ h => by cases h⟩, ⟨[], by rw [List.append_nil, h2], rfl, fun _ h => by cases h⟩⟩
theorem Seg.mark (a : Seg P s s1 D T) : Seg P s s1.mark D T := by
  have h := a.trans (Seg.same (P := P) (s := s1) (s1 := s1.mark) rfl rfl)
  rwa [List.append_nil, List.append_nil] at h
theorem Seg.here (a : Seg P s s1 D T) : Seg P s (s1.here m) D T := by
  have h := a.trans (Seg.same (P := P) (s := s1) (s1 := s1.here m) rfl rfl)
  rwa [List.append_nil, List.append_nil] at h
theorem Seg.box (a : Seg P s s1 D T) : Seg P s (s1.box m) D T := by
  have h := a.trans (Seg.same (P := P) (s := s1) (s1 := s1.box m) rfl rfl)
  rwa [List.append_nil, List.append_nil] at h
theorem Seg.make (a : Seg P s s1 D T) (r : Rr) (h : rowOk P r) : Seg P s (s1.make r) (D ++ [plc P r]) T := by
  have z : Seg P s1 (s1.make r) [plc P r] [] := ⟨⟨[r], rfl, rfl, fun q hq => by rw [List.mem_singleton.mp hq]; exact h⟩, [], by rw [List.append_nil]; rfl, rfl, fun _ h => by cases h⟩
  have h := a.trans z
  rwa [List.append_nil] at h
theorem Seg.ex' : ∀ (e : Ex) (s : Mk), Seg P s (exC e s) (exD e) []
  | .num n, s => by rw [exC, exD]; exact Seg.refl.make _ trivial
  | .box k, s => by rw [exC, exD]; exact Seg.refl.make _ trivial
  | .call f e, s => by rw [exC, exD]; exact (Seg.ex' e s).make _ trivial
  | .op o a b, s => by rw [exC, exD]; exact ((Seg.ex' a s).trans (Seg.ex' b _)).make _ trivial
theorem Seg.ex (a : Seg P s s1 D T) (e : Ex) : Seg P s (exC e s1) (D ++ exD e) T := by
  have h := a.trans (Seg.ex' e s1)
  rwa [List.append_nil] at h
theorem Seg.eq (a : Seg P s s1 D1 T1) (h1 : D1 = D2) (h2 : T1 = T2) : Seg P s s1 D2 T2 := by subst h1 h2; exact a
theorem at_of (h : P[m]? = some (some n)) : markOk P m ∧ atM P m = n := ⟨⟨n, h⟩, by unfold atM; rw [h]; rfl⟩
theorem Seg.held {f : Mk → Mk} {goal : Nat} (a : Seg P s (f s) D T) (hn : (f s).rn = s.rn + n) (hg : markOk P goal) : Seg P s (heldC f goal s) D (T ++ heldT s.rn n (atM P goal)) := by
  unfold heldC heldT
  have hn2 : (f s).rows.length = s.rn + n := hn
  have e : (s.rows.length < (f s).rows.length) ↔ 0 < n := by
    rw [hn2]
    unfold Mk.rn
    omega
  by_cases c : 0 < n
  · rw [if_pos (e.mpr c), if_pos c]
    obtain ⟨h1, S, h2, h3, h4⟩ := a
    refine ⟨h1, S ++ [(s.rows.length, (f s).rows.length, goal)], by simp only; rw [h2, List.append_assoc], by rw [List.map_append, h3, hn2]; rfl, fun t ht => ?_⟩
    rcases List.mem_append.mp ht with h | h
    · exact h4 t h
    · rw [List.mem_singleton.mp h]; exact hg
  · rw [if_neg (fun z => c (e.mp z)), if_neg c, List.append_nil]
    exact a
theorem Seg.goLast (a : Seg P s s1 D T) (way : Nat) {mark start : Nat} (hm : markOk P mark) (hs : markOk P start) : Seg P s (goLast way mark start s1) (D ++ goD way (atM P mark) (atM P start)) T := by
  have g := (((a.make (.way mark) hm).make (.set (way : Nat)) trivial).make (.go start) hs)
  refine g.eq ?_ rfl
  simp only [plc, goD, List.append_assoc, List.cons_append, List.nil_append]
theorem Seg.bring (a : Seg P s s1 D T) (way : Nat) {mark start : Nat} (hm : markOk P s1.places.length) (hs : markOk P start) : Seg P s (bring mark way start s1) (D ++ ([.set ((way + 1 : Nat) : Int)] ++ goD way (atM P s1.places.length) (atM P start))) T := by
  have g := ((a.mark.here (m := mark)).make (.set ((way + 1 : Nat) : Int)) trivial).goLast way hm hs
  refine g.eq ?_ rfl
  simp only [plc, List.append_assoc]
theorem Seg.outs (a : Seg P s s1 D T) (way o : Nat) : ∀ (lv : Option (Nat × Nat)), markOk P (o + 1) → (∀ q, lv = some q → markOk P q.1 ∧ markOk P q.2) → Seg P s (goOuts way o lv s1) (D ++ outD way (atM P (o + 1)) (lv.map fun q => (atM P q.1, atM P q.2))) T
  | none, _, _ => a.eq (List.append_nil D).symm rfl
  | some (lv, ag), h, h2 => by
    have g := (((a.here (m := o + 4)).goLast way (h2 _ rfl).1 h).here (m := o + 5)).goLast way (h2 _ rfl).2 h
    refine g.eq ?_ rfl
    rw [List.append_assoc]
    rfl
theorem Seg.endTail (a : Seg P s s1 D T) (way g f b : Nat) {gv : Nat} (h : markOk P gv) : Seg P s (endTail way (way + 1) g f b gv s1) (D ++ [.on (way : Nat), .get ((way + 1 : Nat) : Int), .go (atM P gv : Nat), .get ((way + 1 : Nat) : Int), .raise]) T := by
  have g := (((((((a.make (.on (way : Nat)) trivial).here (m := g)).make (.get ((way + 1 : Nat) : Int)) trivial).make (.go gv) h).here (m := f)).make (.get ((way + 1 : Nat) : Int)) trivial).make .raise trivial).here (m := b)
  refine g.eq ?_ rfl
  simp only [plc, List.append_assoc, List.cons_append, List.nil_append]
theorem Seg.marksE (a : Seg P s s1 D T) {ar : Ar} : Seg P s (marksE ar s1) D T := by
  unfold TR.marksE
  cases ar.lv
  · exact a.mark.mark.mark.mark
  · exact a.mark.mark.mark.mark.mark.mark
def resA (P : List (Option Nat)) (ar : Ar) : Ar := ⟨atM P ar.give, ar.lv.map fun q => (atM P q.1, atM P q.2), ar.ends⟩
theorem resA_lv {ar : Ar} : (resA P ar).lv.isSome = ar.lv.isSome := by
  unfold resA
  cases ar.lv <;> rfl
def ArOk (P : List (Option Nat)) (ar : Ar) : Prop := markOk P ar.give ∧ ∀ q, ar.lv = some q → markOk P q.1 ∧ markOk P q.2
def Agr (P : List (Option Nat)) (s s' : Mk) : Prop := ∀ m, s.places.length ≤ m → m < s'.places.length → P[m]? = s'.pl m
end
local macro_rules | `(tactic| walk_at "ltp") => `(tactic| ((repeat first
  | assumption
  | rw [pn_here] | rw [pn_make] | rw [pn_ex] | rw [pn_mark] | rw [pn_held] | rw [pn_bring] | rw [pn_goOuts] | rw [pn_goLast] | rw [pn_box] | rw [pn_endTail] | rw [pn_marksE]
  | (with_reducible refine Nat.lt_of_lt_of_le ?_ (pn_bl _ _ _))
  | (with_reducible refine Nat.lt_of_lt_of_le ?_ pn_want)); all_goals first | omega | (split <;> omega)))
theorem sg_want {P : List (Option Nat)} {s s1 : Mk} {D : List Rw} {T : List Tr3} (a : Seg P s s1 D T) (n : Option Int) (h : Agr P s1 (wantC n s1)) : Seg P s (wantC n s1) (D ++ wantD n s1.rn) T := by
  cases n with
  | none => rw [show wantD none s1.rn = [] from rfl, List.append_nil]; exact a
  | some z =>
    have hm : P[s1.places.length]? = some (some (s1.rn + 7)) := by
      rw [h s1.places.length (Nat.le_refl _) (by show _ < (othersC z s1).places.length; rw [pn_others]; omega)]
      show (othersC z s1).pl _ = _
      unfold othersC
      simp only
      rw [pl_make, pl_here_eq (by simp only [pn_make, pn_mark]; omega)]
      simp only [rn_make, rn_mark]
    obtain ⟨h1, h2⟩ := at_of hm
    have g := (((((((((a.mark.make (.set 4) trivial).make (.get 4) trivial).make (.put z) trivial).make (.rek .sub) trivial).make (.nought s1.places.length) h1).make (.get 4) trivial).make .raise trivial).here (m := s1.places.length)).make (.get 4) trivial)
    refine g.eq ?_ rfl
    simp only [plc, h2, wantD, List.append_assoc, List.cons_append, List.nil_append]
theorem marksE_lt {ar : Ar} {s : Mk} {k : Nat} (h : k < 4) : s.places.length + k < (marksE ar s).places.length := by
  rw [pn_marksE]
  split <;> omega
mutual
theorem sg_sm : ∀ (x : Sm) (ar : Ar) (s : Mk) (P : List (Option Nat)) (m : Nat), x.ok ar.lv.isSome m → ArOk P ar → Agr P s (smC x ar s) → Seg P s (smC x ar s) (smD x (resA P ar) s.rn) (smT ar.lv.isSome x s.rn)
  | .set k e, ar, s, P, m, _, _, _ => by rw [smC, smD, smT]; exact ((Seg.refl.ex e).make _ trivial)
  | .say e, ar, s, P, m, _, _, _ => by rw [smC, smD, smT]; exact ((Seg.refl.ex e).make _ trivial)
  | .raise e, ar, s, P, m, _, _, _ => by rw [smC, smD, smT]; exact ((Seg.refl.ex e).make _ trivial)
  | .give e, ar, s, P, m, _, ha, _ => by rw [smC, smD, smT]; exact ((Seg.refl.ex e).make (.go ar.give) ha.1)
  | .leave, ar, s, P, m, ok, ha, _ => by
    rw [smC, smD, smT]
    rw [Sm.ok] at ok
    obtain ⟨q, hq⟩ := Option.isSome_iff_exists.mp ok
    have h := ha.2 q hq
    have e : (resA P ar).lv = some (atM P q.1, atM P q.2) := by unfold resA; rw [hq]; rfl
    rw [e, hq]
    exact Seg.refl.make (.go q.1) h.1
  | .next, ar, s, P, m, ok, ha, _ => by
    rw [smC, smD, smT]
    rw [Sm.ok] at ok
    obtain ⟨q, hq⟩ := Option.isSome_iff_exists.mp ok
    have h := ha.2 q hq
    have e : (resA P ar).lv = some (atM P q.1, atM P q.2) := by unfold resA; rw [hq]; rfl
    rw [e, hq]
    exact Seg.refl.make (.go q.2) h.2
  | .iff e a b, ar, s, P, m, ok, ha, hA => by
    rw [Sm.ok] at ok
    rw [smC] at hA ⊢
    rw [smD, smT, resA_lv]
    have ho : P[s.places.length]? = some (some (s.rn + (exD e).length + 1 + lenL ar.lv.isSome a + 1)) := by
      rw [hA _ (Nat.le_refl _) (by walk_at "ltp"), pl_here_ne (by omega), fr_bl b _ _ _ (by walk_at "ltp"), pl_here_eq (by walk_at "ltp")]
      simp only [rn_make, rn_bl, rn_ex, rn_mark]
    have ho1 : P[s.places.length + 1]? = some (some (s.rn + (exD e).length + 1 + lenL ar.lv.isSome a + 1 + lenL ar.lv.isSome b)) := by
      rw [hA _ (by omega) (by walk_at "ltp"), pl_here_eq (by walk_at "ltp")]
      simp only [rn_here, rn_make, rn_bl, rn_ex, rn_mark]
    have hB1 : Agr P ((exC e s.mark.mark).make (.nought s.places.length)) (blC a ar ((exC e s.mark.mark).make (.nought s.places.length))) := fun k h1 h2 => by
      rw [pn_make, pn_ex, pn_mark, pn_mark] at h1
      rw [hA _ (by omega) (by walk_at "ltp"), pl_here_ne (by omega), fr_bl b _ _ _ (by walk_at "ltp"), pl_here_ne (by omega), pl_make]
    have hB2 : Agr P (((blC a ar ((exC e s.mark.mark).make (.nought s.places.length))).make (.go (s.places.length + 1))).here s.places.length) (blC b ar (((blC a ar ((exC e s.mark.mark).make (.nought s.places.length))).make (.go (s.places.length + 1))).here s.places.length)) := fun k h1 h2 => by
      have h3 := Nat.lt_of_lt_of_le (show s.places.length + 1 < _ from by walk_at "ltp") h1
      rw [hA _ (by omega) (by rw [pn_here]; exact h2), pl_here_ne (by omega)]
    obtain ⟨m1, a1⟩ := at_of ho
    obtain ⟨m2, a2⟩ := at_of ho1
    have g1 := ((Seg.refl (P := P) (s := s)).mark.mark.ex e).make (.nought s.places.length) m1
    have g2 := g1.trans (sg_bl a ar _ P m ok.2.1 ha hB1)
    have g3 := (g2.make (.go (s.places.length + 1)) m2).here (m := s.places.length)
    have g4 := (g3.trans (sg_bl b ar _ P m ok.2.2 ha hB2)).here (m := s.places.length + 1)
    refine g4.eq ?_ ?_
    · simp only [plc, a1, a2, rn_here, rn_make, rn_bl, rn_ex, rn_mark, List.nil_append, List.append_assoc]
    · simp only [rn_here, rn_make, rn_bl, rn_ex, rn_mark, List.nil_append]
  | .loop e b, ar, s, P, m, ok, ha, hA => by
    rw [Sm.ok] at ok
    rw [smC] at hA ⊢
    rw [smD, smT]
    have ho : P[s.places.length]? = some (some s.rn) := by
      rw [hA _ (Nat.le_refl _) (by walk_at "ltp"), pl_here_ne (by omega), pl_make, fr_bl b _ _ _ (by walk_at "ltp"), pl_make, pl_ex, pl_make, pl_here_eq (by walk_at "ltp")]
      simp only [rn_mark]
    have ho1 : P[s.places.length + 1]? = some (some (s.rn + 1 + (exD e).length + 1 + lenL true b + 1)) := by
      rw [hA _ (by omega) (by walk_at "ltp"), pl_here_eq (by walk_at "ltp")]
      simp only [rn_here, rn_make, rn_bl, rn_ex, rn_mark, Option.isSome_some]
    obtain ⟨m1, a1⟩ := at_of ho
    obtain ⟨m2, a2⟩ := at_of ho1
    have hB1 : Agr P ((exC e ((s.mark.mark.here s.places.length).make .turn)).make (.nought (s.places.length + 1))) (blC b ⟨ar.give, some (s.places.length + 1, s.places.length), ar.ends⟩ ((exC e ((s.mark.mark.here s.places.length).make .turn)).make (.nought (s.places.length + 1)))) := fun k h1 h2 => by
      rw [pn_make, pn_ex, pn_make, pn_here, pn_mark, pn_mark] at h1
      rw [hA _ (by omega) (by walk_at "ltp"), pl_here_ne (by omega), pl_make]
    have g1 := ((((Seg.refl (P := P) (s := s)).mark.mark.here (m := s.places.length)).make .turn trivial).ex e).make (.nought (s.places.length + 1)) m2
    have g2 := g1.trans (sg_bl b ⟨ar.give, some (s.places.length + 1, s.places.length), ar.ends⟩ _ P m ok.2 ⟨ha.1, fun q hq => by cases hq; exact ⟨m2, m1⟩⟩ hB1)
    have g3 := (g2.make (.go s.places.length) m1).here (m := s.places.length + 1)
    refine g3.eq ?_ ?_
    · simp only [plc, a1, a2, rn_here, rn_make, rn_bl, rn_ex, rn_mark, List.nil_append, List.append_assoc, resA, Option.map_some]
    · simp only [rn_here, rn_make, rn_bl, rn_ex, rn_mark, List.nil_append, Option.isSome_some]
  | .catch b n k l, ar, s, P, m, ok, ha, hA => by
    rw [Sm.ok] at ok
    rw [smC] at hA ⊢
    rw [smD, smT, resA_lv]
    generalize e3 : ((heldC (blC b ar) s.places.length s.mark.mark).make (.go (s.places.length + 1))).here s.places.length = s3 at *
    have r3 : s3.rn = s.rn + lenL ar.lv.isSome b + 1 := by
      rw [← e3]
      simp only [rn_here, rn_make, rn_held, rn_bl, rn_mark]
    have p3 : s3.places.length = (blC b ar s.mark.mark).places.length := by
      rw [← e3]
      simp only [pn_here, pn_make, pn_held]
    have p2 : s.places.length + 2 ≤ s3.places.length := by
      rw [p3]
      refine Nat.le_trans ?_ (pn_bl b ar _)
      rw [pn_mark, pn_mark]
      omega
    have p4 : s3.places.length ≤ (wantC n s3).places.length := pn_want
    have ho : P[s.places.length]? = some (some (s.rn + lenL ar.lv.isSome b + 1)) := by
      rw [hA _ (Nat.le_refl _) (by walk_at "ltp"), pl_here_ne (by omega), fr_bl l _ _ _ (by walk_at "ltp"), pl_make, pl_want (by omega), ← e3, pl_here_eq (by walk_at "ltp")]
      simp only [rn_make, rn_held, rn_bl, rn_mark]
    have ho1 : P[s.places.length + 1]? = some (some (s.rn + lenL ar.lv.isSome b + 1 + wantN n + 1 + lenL ar.lv.isSome l)) := by
      rw [hA _ (by omega) (by walk_at "ltp"), pl_here_eq (by walk_at "ltp")]
      simp only [rn_make, rn_bl, rn_want, r3]
    obtain ⟨m1, a1⟩ := at_of ho
    obtain ⟨m2, a2⟩ := at_of ho1
    have hB1 : Agr P s.mark.mark (blC b ar s.mark.mark) := fun k h1 h2 => by
      rw [pn_mark, pn_mark] at h1
      rw [hA _ (by omega) (by walk_at "ltp"), pl_here_ne (by omega), fr_bl l _ _ _ (by walk_at "ltp"), pl_make, pl_want (by omega), ← e3, pl_here_ne (by omega), pl_make, pl_held]
    have hB2 : Agr P s3 (wantC n s3) := fun k h1 h2 => by
      rw [hA _ (by omega) (by walk_at "ltp"), pl_here_ne (by omega), fr_bl l _ _ _ (by walk_at "ltp"), pl_make]
    have hB3 : Agr P ((wantC n s3).make (.set k)) (blC l ar ((wantC n s3).make (.set k))) := fun k h1 h2 => by
      rw [pn_make] at h1
      rw [hA _ (by omega) (by walk_at "ltp"), pl_here_ne (by omega)]
    have g1 := (sg_bl b ar _ P m ok.1 ha hB1).held (rn_bl b ar _) m1
    have g2 := (((Seg.refl (P := P) (s := s)).mark.mark.trans g1).make (.go (s.places.length + 1)) m2).here (m := s.places.length)
    rw [e3] at g2
    have g3 := (sg_want g2 n hB2).make (.set k) trivial
    have g4 := (g3.trans (sg_bl l ar _ P m ok.2 ha hB3)).here (m := s.places.length + 1)
    refine g4.eq ?_ ?_
    · simp only [plc, a2, rn_here, rn_make, rn_want, r3, rn_mark, List.nil_append, List.append_assoc]
    · simp only [a1, rn_here, rn_make, rn_want, r3, rn_mark, List.nil_append, List.append_assoc]
  | .endd b l, ar, s, P, m, ok, ha, hA => by
    rw [Sm.ok] at ok
    rw [smC] at hA ⊢
    rw [smD, smT, resA_lv]
    generalize e1 : marksE ar (s.box (5 + 2 * ar.ends + 2)) = s1 at *
    generalize e2 : heldC (blC b (innerA s.places.length ar)) s.places.length s1 = s2 at *
    generalize e4 : goOuts (5 + 2 * ar.ends) s.places.length ar.lv (goLast (5 + 2 * ar.ends) (s.places.length + 2) (s.places.length + 1) s2) = s4 at *
    generalize e5 : bring (s.places.length + 3) (5 + 2 * ar.ends) (s.places.length + 1) s4 = s5 at *
    generalize e6 : bring s.places.length (5 + 2 * ar.ends) (s.places.length + 1) s5 = s6 at *
    generalize e8 : blC l ⟨ar.give, ar.lv, ar.ends + 1⟩ (s6.here (s.places.length + 1)) = s8 at *
    have p1 : s1.places.length = s.places.length + (if ar.lv.isSome then 6 else 4) := by rw [← e1, pn_marksE, pn_box]
    have p1' : s.places.length + 4 ≤ s1.places.length := by rw [p1]; split <;> omega
    have p2 : s1.places.length ≤ s2.places.length := by rw [← e2, pn_held]; exact pn_bl b _ _
    have p4 : s4.places.length = s2.places.length := by rw [← e4, pn_goOuts, pn_goLast]
    have p5 : s5.places.length = s4.places.length + 1 := by rw [← e5, pn_bring]
    have p6 : s6.places.length = s5.places.length + 1 := by rw [← e6, pn_bring]
    have p8 : s6.places.length ≤ s8.places.length := by
      rw [← e8]
      have z := pn_bl l ⟨ar.give, ar.lv, ar.ends + 1⟩ (s6.here (s.places.length + 1))
      rwa [pn_here] at z
    have r1 : s1.rn = s.rn := by rw [← e1, rn_marksE, rn_box]
    have r2 : s2.rn = s.rn + lenL ar.lv.isSome b := by rw [← e2, rn_held, rn_bl, innerA_lv, r1]
    have r4 : s4.rn = s.rn + lenL ar.lv.isSome b + 3 + outN ar.lv.isSome := by rw [← e4, rn_goOuts, rn_goLast, r2]
    have r5 : s5.rn = s4.rn + 4 := by rw [← e5, rn_bring]
    have r6 : s6.rn = s5.rn + 4 := by rw [← e6, rn_bring]
    have r8 : s8.rn = s6.rn + lenL ar.lv.isSome l := by rw [← e8, rn_bl, rn_here]
    have q8 : ∀ k, k < s6.places.length → k ≠ s.places.length + 1 → s8.pl k = s6.pl k := fun k h1 h2 => by rw [← e8, fr_bl l _ _ _ (by rw [pn_here]; exact h1), pl_here_ne h2]
    have qT : ∀ k, k ≠ s4.places.length → k ≠ s5.places.length → k ≠ s.places.length + 2 → s.places.length ≤ k → k < s8.places.length → P[k]? = s8.pl k := fun k h1 h2 h3 h4 h5 => by rw [hA k h4 (by rw [pn_endTail]; exact h5), pl_endTail h1 h2 h3]
    have ho : P[s.places.length]? = some (some s5.rn) := by
      rw [qT _ (by omega) (by omega) (by omega) (by omega) (by omega), q8 _ (by omega) (by omega), ← e6, pl_bring_eq (by omega)]
    have ho1 : P[s.places.length + 1]? = some (some s6.rn) := by
      rw [qT _ (by omega) (by omega) (by omega) (by omega) (by omega), ← e8, fr_bl l _ _ _ (by rw [pn_here]; omega), pl_here_eq (by omega)]
    have ho2 : P[s.places.length + 2]? = some (some (s8.rn + 5)) := by
      rw [hA _ (by omega) (by rw [pn_endTail]; omega), pl_endTail_b (by omega)]
    have ho3 : P[s.places.length + 3]? = some (some s4.rn) := by
      rw [qT _ (by omega) (by omega) (by omega) (by omega) (by omega), q8 _ (by omega) (by omega), ← e6, pl_bring (by omega) (by omega), ← e5, pl_bring_eq (by omega)]
    have hg4 : P[s4.places.length]? = some (some (s8.rn + 1)) := by
      rw [hA _ (by omega) (by rw [pn_endTail]; omega), pl_endTail_g (by omega) (by omega) (by omega)]
    have hg5 : P[s5.places.length]? = some (some (s8.rn + 3)) := by
      rw [hA _ (by omega) (by rw [pn_endTail]; omega), pl_endTail_f (by omega) (by omega)]
    have q4 : ∀ k, k < s2.places.length → k ≠ s.places.length + 1 → k ≠ s.places.length + 2 → k ≠ s.places.length → k ≠ s.places.length + 3 → s.places.length ≤ k → P[k]? = s4.pl k := fun k h1 h2 h3 h4 h5 h6 => by
      rw [qT _ (by omega) (by omega) (by omega) (by omega) (by omega), q8 _ (by omega) (by omega), ← e6, pl_bring (by omega) (by omega), ← e5, pl_bring (by omega) (by omega)]
    obtain ⟨mo, ao⟩ := at_of ho
    obtain ⟨mo1, ao1⟩ := at_of ho1
    obtain ⟨mo2, ao2⟩ := at_of ho2
    obtain ⟨mo3, ao3⟩ := at_of ho3
    obtain ⟨mg4, ag4⟩ := at_of hg4
    obtain ⟨mg5, ag5⟩ := at_of hg5
    have hB : Agr P s1 (blC b (innerA s.places.length ar) s1) := fun k h1 h2 => by
      have h3 : k < s2.places.length := by rw [← e2, pn_held]; exact h2
      rw [q4 k h3 (by omega) (by omega) (by omega) (by omega) (by omega), ← e4, pl_goOuts' _ _ (fun z => by rw [z, if_pos rfl] at p1; omega), pl_goLast, ← e2, pl_held]
    have hL : Agr P (s6.here (s.places.length + 1)) (blC l ⟨ar.give, ar.lv, ar.ends + 1⟩ (s6.here (s.places.length + 1))) := fun k h1 h2 => by
      rw [e8] at h2 ⊢
      rw [pn_here] at h1
      exact qT k (by omega) (by omega) (by omega) (by omega) h2
    have lv2 : ArOk P (innerA s.places.length ar) ∧ resA P (innerA s.places.length ar) = inD (resA P ar) s4.rn s2.rn := by
      unfold innerA inD resA ArOk
      cases hlv : ar.lv with
      | none => exact ⟨⟨mo3, fun q hq => by cases hq⟩, by simp only [ao3]; rfl⟩
      | some q =>
        rw [hlv] at p1 e4
        rw [show (some q).isSome = true from rfl, if_pos rfl] at p1
        have h4 : P[s.places.length + 4]? = some (some (s2.rn + 3)) := by
          rw [q4 _ (by omega) (by omega) (by omega) (by omega) (by omega) (by omega), ← e4, pl_goOuts4 (by rw [pn_goLast]; omega), rn_goLast]
        have h5 : P[s.places.length + 5]? = some (some (s2.rn + 6)) := by
          rw [q4 _ (by omega) (by omega) (by omega) (by omega) (by omega) (by omega), ← e4, pl_goOuts5 (by rw [pn_goLast]; omega), rn_goLast]
        obtain ⟨n4, b4⟩ := at_of h4
        obtain ⟨n5, b5⟩ := at_of h5
        exact ⟨⟨mo3, fun q hq => by cases hq; exact ⟨n4, n5⟩⟩, by simp only [ao3, b4, b5, Option.map_some]⟩
    obtain ⟨lv2, lv3⟩ := lv2
    have g0 := (((Seg.refl (P := P) (s := s)).box (m := 5 + 2 * ar.ends + 2)).marksE (ar := ar))
    rw [e1] at g0
    have gb := sg_bl b (innerA s.places.length ar) s1 P m (by rw [innerA_lv]; exact ok.1) lv2 hB
    rw [lv3, innerA_lv] at gb
    have g2 := g0.trans (gb.held (n := lenL ar.lv.isSome b) (by rw [rn_bl, innerA_lv]) mo)
    rw [e2] at g2
    have g4 := (g2.goLast (5 + 2 * ar.ends) mo2 mo1).outs (5 + 2 * ar.ends) s.places.length ar.lv mo1 ha.2
    rw [e4] at g4
    have g5 := g4.bring (5 + 2 * ar.ends) (mark := s.places.length + 3) mg4 mo1
    rw [e5] at g5
    have g6 := (g5.bring (5 + 2 * ar.ends) (mark := s.places.length) mg5 mo1).here (m := s.places.length + 1)
    rw [e6] at g6
    have gl := sg_bl l ⟨ar.give, ar.lv, ar.ends + 1⟩ (s6.here (s.places.length + 1)) P m ok.2 ha hL
    have g8 := g6.trans gl
    rw [e8] at g8
    refine (g8.endTail (5 + 2 * ar.ends) s4.places.length s5.places.length (s.places.length + 2) ha.1).eq ?_ ?_
    · simp only [ao, ao1, ao2, ao3, ag4, ag5, rn_here, r1, r2, r4, r5, r6, r8, List.nil_append, List.append_assoc, List.cons_append, resA, Option.map]
    · simp only [ao, rn_here, r1, r2, r4, r5, r6, r8, List.nil_append, List.append_assoc]
theorem sg_bl : ∀ (l : List Sm) (ar : Ar) (s : Mk) (P : List (Option Nat)) (m : Nat), okL l ar.lv.isSome (m) → ArOk P ar → Agr P s (blC l ar s) → Seg P s (blC l ar s) (blD l (resA P ar) s.rn) (blT ar.lv.isSome l s.rn)
  | [], _, s, P, m, _, _, _ => by rw [blC, blD, blT]; exact Seg.refl
  | x :: r, ar, s, P, m, ok, ha, hA => by
    rw [okL] at ok
    rw [blC] at hA ⊢
    rw [blD, blT, resA_lv]
    have h1 : Agr P s (smC x ar s) := fun k h1 h2 => by
      rw [hA k h1 (Nat.lt_of_lt_of_le h2 (pn_bl r ar _)), fr_bl r _ _ _ h2]
    have h2 : Agr P (smC x ar s) (blC r ar (smC x ar s)) := fun k h1 h2 => hA k (Nat.le_trans (pn_sm x ar s) h1) h2
    have g1 := sg_sm x ar s P (m - 1) ok.1 ha h1
    have g2 := sg_bl r ar (smC x ar s) P m ok.2 ha h2
    rw [rn_sm] at g2
    exact g1.trans g2
end
end TR

/-! S4: whole programs without marks; boxes (own work). -/
namespace TR
open PySem L2 U MM
def fnD (b : List Sm) (p : Nat) : List Rw := blD b ⟨p + lenL false b + 1, none, 0⟩ p ++ [.put 0, .back]
def pgD : Pg → Nat → List Rw
  | [], _ => []
  | b :: r, p => fnD b p ++ pgD r (p + (lenL false b + 2))
def pgT : Pg → Nat → List Tr3
  | [], _ => []
  | b :: r, p => blT false b p ++ pgT r (p + (lenL false b + 2))
def pgB : Pg → Nat → List Nat
  | [], _ => []
  | b :: r, p => p :: pgB r (p + (lenL false b + 2))
def pgX : Pg → Nat
  | [] => 5
  | b :: r => max (bxL b 0) (pgX r)
def tr3 (t : Tr3) : St3 := ((t.1 : Nat), (t.2.1 : Nat), (t.2.2 : Nat))
theorem pn_fn (b : List Sm) (s : Mk) : s.places.length ≤ (fnC b s).places.length := by
  unfold fnC
  rw [pn_make, pn_here, pn_make]
  refine Nat.le_trans ?_ (pn_bl b _ _)
  rw [pn_mark]
  omega
theorem fr_fn (b : List Sm) (s : Mk) (m : Nat) (h : m < s.places.length) : (fnC b s).pl m = s.pl m := by
  unfold fnC
  rw [pl_make, pl_here_ne (by omega), pl_make, fr_bl b _ _ _ (by rw [pn_mark]; omega), pl_mark h]
theorem fr_fns : ∀ (l : Pg) (s : Mk) (m : Nat), m < s.places.length → (fnsC l s).2.pl m = s.pl m
  | [], s, m, h => rfl
  | b :: r, s, m, h => by
    rw [fnsC]
    simp only
    rw [fr_fns r _ m (Nat.lt_of_lt_of_le h (pn_fn b s)), fr_fn b s m h]
theorem rn_fn (b : List Sm) (s : Mk) : (fnC b s).rn = s.rn + (lenL false b + 2) := by
  unfold fnC
  rw [rn_make, rn_here, rn_make, rn_bl, rn_mark]
  simp only [Option.isSome_none]
  omega
theorem sg_fn {P : List (Option Nat)} (b : List Sm) (s : Mk) {m : Nat} (ok : okL b false m) (hA : Agr P s (fnC b s)) : Seg P s (fnC b s) (fnD b s.rn) (blT false b s.rn) := by
  unfold fnC at hA ⊢
  have hg : P[s.places.length]? = some (some (s.rn + lenL false b + 1)) := by
    rw [hA _ (Nat.le_refl _) (by rw [pn_make, pn_here, pn_make]; refine Nat.lt_of_lt_of_le ?_ (pn_bl b _ _); rw [pn_mark]; omega), pl_make, pl_here_eq (by rw [pn_make]; refine Nat.lt_of_lt_of_le ?_ (pn_bl b _ _); rw [pn_mark]; omega)]
    simp only [rn_make, rn_bl, rn_mark, Option.isSome_none]
  obtain ⟨m1, a1⟩ := at_of hg
  have hB : Agr P s.mark (blC b ⟨s.places.length, none, 0⟩ s.mark) := fun k h1 h2 => by
    rw [pn_mark] at h1
    rw [hA k (by omega) (by rw [pn_make, pn_here, pn_make]; exact h2), pl_make, pl_here_ne (by omega), pl_make]
  have g1 := (Seg.refl (P := P) (s := s)).mark.trans (sg_bl b ⟨s.places.length, none, 0⟩ s.mark P m ok ⟨m1, fun q hq => by cases hq⟩ hB)
  have g2 := ((g1.make (.put 0) trivial).here (m := s.places.length)).make .back trivial
  refine g2.eq ?_ rfl
  simp only [plc, fnD, rn_mark, resA, a1, Option.map_none, List.nil_append, List.append_assoc, List.cons_append]
theorem sg_fns {P : List (Option Nat)} : ∀ (l : Pg) (s : Mk), (∀ b ∈ l, okL b false 8) → Agr P s (fnsC l s).2 → Seg P s (fnsC l s).2 (pgD l s.rn) (pgT l s.rn) ∧ (fnsC l s).1 = pgB l s.rn
  | [], s, _, _ => ⟨by rw [fnsC, pgD, pgT]; exact Seg.refl, rfl⟩
  | b :: r, s, ok, hA => by
    rw [fnsC] at hA ⊢
    simp only at hA ⊢
    have h1 : Agr P s (fnC b s) := fun k z1 z2 => by
      rw [hA k z1 ?_, fr_fns r _ k z2]
      have : ∀ (l : Pg) (s : Mk), s.places.length ≤ (fnsC l s).2.places.length := by
        intro l
        induction l with
        | nil => intro s; exact Nat.le_refl _
        | cons c l ih => intro s; rw [fnsC]; exact Nat.le_trans (pn_fn c s) (ih _)
      exact Nat.lt_of_lt_of_le z2 (this r _)
    have h2 : Agr P (fnC b s) (fnsC r (fnC b s)).2 := fun k z1 z2 => hA k (Nat.le_trans (pn_fn b s) z1) z2
    obtain ⟨g1, g2⟩ := sg_fns r (fnC b s) (fun c hc => ok c (List.mem_cons_of_mem _ hc)) h2
    rw [rn_fn] at g1 g2
    exact ⟨(sg_fn b s (ok b List.mem_cons_self) h1).trans g1, by rw [g2]; rfl⟩
/-! ### boxes -/
section
variable {s : Mk} {m : Nat} {r : Rr}
theorem bx_ex : ∀ (e : Ex) (s : Mk), (exC e s).boxes = s.boxes
  | .num _, s => rfl
  | .box _, s => rfl
  | .call _ e, s => by rw [exC]; exact bx_ex e s
  | .op _ a b, s => by rw [exC]; exact (bx_ex b _).trans (bx_ex a s)
theorem bx_make : (s.make r).boxes = s.boxes := rfl
theorem bx_mark : s.mark.boxes = s.boxes := rfl
theorem bx_here : (s.here m).boxes = s.boxes := rfl
theorem bx_box : (s.box m).boxes = max s.boxes m := rfl
theorem bx_goLast {way mark start : Nat} : (goLast way mark start s).boxes = s.boxes := rfl
theorem bx_bring {way mark start : Nat} : (bring mark way start s).boxes = s.boxes := rfl
theorem bx_held {f : Mk → Mk} {goal : Nat} : (heldC f goal s).boxes = (f s).boxes := by
  unfold heldC
  split <;> rfl
theorem bx_want {n : Option Int} : (wantC n s).boxes = s.boxes := by cases n <;> rfl
theorem bx_goOuts {way o : Nat} : ∀ (lv : Option (Nat × Nat)) (s : Mk), (goOuts way o lv s).boxes = s.boxes
  | none, s => rfl
  | some (lv, ag), s => rfl
theorem bx_marksE {ar : Ar} : (marksE ar s).boxes = s.boxes := by
  unfold marksE
  cases ar.lv <;> rfl
theorem bx_endTail {way worth g f b gv : Nat} : (endTail way worth g f b gv s).boxes = s.boxes := rfl
theorem innerA_ends {o : Nat} {ar : Ar} : (innerA o ar).ends = ar.ends + 1 := by
  unfold innerA
  cases ar.lv <;> rfl
end
mutual
theorem bx_sm : ∀ (x : Sm) (ar : Ar) (s : Mk), 5 ≤ s.boxes → (smC x ar s).boxes = max s.boxes (bxS x ar.ends)
  | .set _ e, _, s, h => by rw [smC, bx_make, bx_ex, bxS]; omega
  | .say e, _, s, h => by rw [smC, bx_make, bx_ex, bxS]; omega
  | .raise e, _, s, h => by rw [smC, bx_make, bx_ex, bxS]; omega
  | .give e, _, s, h => by rw [smC, bx_make, bx_ex, bxS]; omega
  | .leave, _, s, h => by rw [smC, bx_make, bxS]; omega
  | .next, _, s, h => by rw [smC, bx_make, bxS]; omega
  | .iff e a b, ar, s, h => by
    have h1 : ((exC e s.mark.mark).make (.nought s.places.length)).boxes = s.boxes := by rw [bx_make, bx_ex]; rfl
    have h2 := bx_bl a ar ((exC e s.mark.mark).make (.nought s.places.length)) (by rw [h1]; exact h)
    rw [h1] at h2
    rw [smC, bxS, bx_here, bx_bl b, bx_here, bx_make, h2]
    · omega
    · rw [bx_here, bx_make, h2]; omega
  | .loop e b, ar, s, h => by
    rw [smC, bxS, bx_here, bx_make, bx_bl b, bx_make, bx_ex]
    · rfl
    · rw [bx_make, bx_ex]; exact h
  | .catch b n k l, ar, s, h => by
    have h2 := bx_bl b ar s.mark.mark h
    rw [smC, bxS, bx_here, bx_bl l, bx_make, bx_want, bx_here, bx_make, bx_held, h2]
    · show max (max s.boxes _) _ = _
      omega
    · rw [bx_make, bx_want, bx_here, bx_make, bx_held, h2]
      show 5 ≤ max s.boxes _
      omega
  | .endd b l, ar, s, h => by
    have h1 : (marksE ar (s.box (5 + 2 * ar.ends + 2))).boxes = max s.boxes (5 + 2 * ar.ends + 2) := by rw [bx_marksE, bx_box]
    have h2 := bx_bl b (innerA s.places.length ar) (marksE ar (s.box (5 + 2 * ar.ends + 2))) (by rw [h1]; omega)
    rw [h1, innerA_ends] at h2
    rw [smC, bxS, bx_endTail, bx_bl l, bx_here, bx_bring, bx_bring, bx_goOuts, bx_goLast, bx_held, h2]
    · simp only
      omega
    · rw [bx_here, bx_bring, bx_bring, bx_goOuts, bx_goLast, bx_held, h2]
      omega
theorem bx_bl : ∀ (l : List Sm) (ar : Ar) (s : Mk), 5 ≤ s.boxes → (blC l ar s).boxes = max s.boxes (bxL l ar.ends)
  | [], _, s, h => by rw [blC, bxL]; omega
  | x :: r, ar, s, h => by
    have h1 := bx_sm x ar s h
    rw [blC, bxL, bx_bl r _ _ (by rw [h1]; omega), h1]
    omega
end
theorem bx_fns : ∀ (l : Pg) (s : Mk), 5 ≤ s.boxes → (fnsC l s).2.boxes = max s.boxes (pgX l)
  | [], s, h => by rw [fnsC, pgX]; simp only; omega
  | b :: r, s, h => by
    have h1 : (fnC b s).boxes = max s.boxes (bxL b 0) := by
      unfold fnC
      rw [bx_make, bx_here, bx_make]
      exact bx_bl b _ s.mark h
    rw [fnsC, pgX]
    simp only
    rw [bx_fns r _ (by rw [h1]; omega), h1]
    omega
/-- what is made, without marks -/
def codeD (pg : Pg) : Cd := { rows := pgD pg 0, str := (pgT pg 0).map tr3, begins := (pgB pg 0).map fun n : Nat => ((n : Nat) : Int), boxes := (pgX pg : Nat) }
theorem codeC_D {pg : Pg} (ok : ∀ b ∈ pg, okL b false 8) : codeC pg = codeD pg ∧ MarksOk pg := by
  have hA : Agr (lastC pg).places mk0 (fnsC pg mk0).2 := fun k _ _ => rfl
  obtain ⟨⟨⟨R, h1, h2, h3⟩, S, h4, h5, h6⟩, h7⟩ := sg_fns (P := (lastC pg).places) pg mk0 ok hA
  have e1 : (lastC pg).rows = R := h1
  have e2 : (lastC pg).str = S := h4
  have h8 := bx_fns pg mk0 (Nat.le_refl 5)
  have e3 : (lastC pg).boxes = pgX pg := by
    show (fnsC pg mk0).2.boxes = _
    rw [h8]
    have : 5 ≤ pgX pg := by
      have : ∀ l : Pg, 5 ≤ pgX l := by
        intro l
        induction l with
        | nil => exact Nat.le_refl _
        | cons b r ih => rw [pgX]; omega
      exact this pg
    show max 5 _ = _
    omega
  refine ⟨?_, fun r hr => h3 r (by rw [← e1]; exact hr), fun t ht => h6 t (by rw [← e2]; exact ht)⟩
  unfold codeC codeD
  rw [e1, e2, e3, h2, h7]
  have e4 : S.map (stC (lastC pg).places) = (pgT pg 0).map tr3 := by
    have : pgT pg 0 = S.map (trP (lastC pg).places) := h5.symm
    rw [this, List.map_map]
    rfl
  rw [e4]
  rfl
end TR

/-! S5: the shape of what is made (own work). -/
namespace TR
open PySem L2 U MM
/-- a row names places, functions, boxes that are there -/
def rowIn (pl fn bx : Nat) : Rw → Prop
  | .get k => 0 ≤ k ∧ k < (bx : Int)
  | .set k => 0 ≤ k ∧ k < (bx : Int)
  | .on k => 0 ≤ k ∧ k < (bx : Int)
  | .go p => 0 ≤ p ∧ p < (pl : Int)
  | .nought p => 0 ≤ p ∧ p < (pl : Int)
  | .call f => 0 ≤ f ∧ f < (fn : Int)
  | _ => True
def RowsIn (pl fn bx : Nat) (D : List Rw) : Prop := ∀ r ∈ D, rowIn pl fn bx r
section
variable {pl fn bx : Nat} {D E : List Rw}
theorem RowsIn.app (a : RowsIn pl fn bx D) (b : RowsIn pl fn bx E) : RowsIn pl fn bx (D ++ E) := fun r h => by
  rcases List.mem_append.mp h with h | h
  · exact a r h
  · exact b r h
theorem RowsIn.one {r : Rw} (h : rowIn pl fn bx r) : RowsIn pl fn bx [r] := fun q hq => by rw [List.mem_singleton.mp hq]; exact h
theorem RowsIn.nil : RowsIn pl fn bx [] := fun q hq => by cases hq
theorem RowsIn.cons {r : Rw} (h : rowIn pl fn bx r) (a : RowsIn pl fn bx D) : RowsIn pl fn bx (r :: D) := (RowsIn.one h).app a
theorem RowsIn.go1 {q : Nat} (h : q < pl) : RowsIn pl fn bx [.go (q : Nat)] := .one ⟨by omega, by omega⟩
theorem RowsIn.no1 {q : Nat} (h : q < pl) : RowsIn pl fn bx [.nought (q : Nat)] := .one ⟨by omega, by omega⟩
theorem RowsIn.turn1 : RowsIn pl fn bx [.turn] := .one trivial
theorem RowsIn.set1 {k : Int} (h1 : 0 ≤ k) (h2 : k < (bx : Int)) : RowsIn pl fn bx [.set k] := .one ⟨h1, h2⟩
theorem ex_in (hb : 4 ≤ bx) : ∀ (e : Ex), e.rng fn → RowsIn pl fn bx (exD e)
  | .num n, _ => .one trivial
  | .box k, h => .one ⟨h.1, by have := h.2; show k < (bx : Int); omega⟩
  | .op o a b, h => ((ex_in hb a h.1).app (ex_in hb b h.2)).app (.one trivial)
  | .call f e, h => (ex_in hb e h.2.2).app (.one ⟨h.1, h.2.1⟩)
theorem want_in (hb : 5 ≤ bx) (n : Option Int) (p : Nat) (hp : p + wantN n < pl) : RowsIn pl fn bx (wantD n p) := by
  cases n with
  | none => exact .nil
  | some z =>
    have h4 : (0 : Int) ≤ 4 ∧ (4 : Int) < (bx : Int) := ⟨by decide, by omega⟩
    have hw : wantN (some z) = 8 := rfl
    rw [hw] at hp
    exact .cons h4 (.cons h4 (.cons trivial (.cons trivial (.cons ⟨by omega, by omega⟩ (.cons h4 (.cons trivial (.cons h4 .nil)))))))
theorem go_in {way mark start : Nat} (hw : way < bx) (hs : start < pl) : RowsIn pl fn bx (goD way mark start) := .cons trivial (.cons ⟨by omega, by omega⟩ (.cons ⟨by omega, by omega⟩ .nil))
theorem out_in {way start : Nat} (hw : way < bx) (hs : start < pl) : ∀ lv : Option (Nat × Nat), RowsIn pl fn bx (outD way start lv)
  | none => .nil
  | some (a, b) => (go_in hw hs).app (go_in hw hs)
def ArIn (pl : Nat) (ar : Ar) : Prop := ar.give < pl ∧ ∀ q, ar.lv = some q → q.1 < pl ∧ q.2 < pl
theorem bxS_5 : ∀ (x : Sm) (n : Nat), 5 ≤ bxS x n := by
  have hl : ∀ (l : List Sm) (n : Nat), (∀ x ∈ l, 5 ≤ bxS x n) → 5 ≤ bxL l n := by
    intro l n
    induction l with
    | nil => intro _; rw [bxL]; exact Nat.le_refl _
    | cons y r ih => intro h; rw [bxL]; have := h y List.mem_cons_self; omega
  have hl2 : ∀ (l : List Sm) (n : Nat), 5 ≤ bxL l n := by
    intro l
    induction l with
    | nil => intro n; rw [bxL]; exact Nat.le_refl _
    | cons y r ih => intro n; rw [bxL]; have := ih n; omega
  intro x n
  cases x with
  | iff e a b => rw [bxS]; have := hl2 a n; omega
  | loop e b => rw [bxS]; exact hl2 b n
  | «catch» b z k l => rw [bxS]; have := hl2 b n; omega
  | endd b l => rw [bxS]; omega
  | _ => rw [bxS]; exact Nat.le_refl _
end
mutual
theorem sm_in {pl fn bx : Nat} : ∀ (x : Sm) (ar : Ar) (p : Nat), x.rng fn → ArIn pl ar → p + lenS ar.lv.isSome x < pl → bxS x ar.ends ≤ bx → RowsIn pl fn bx (smD x ar p)
  | .set k e, ar, p, hr, ha, hp, hb => by
    rw [bxS] at hb
    rw [Sm.rng] at hr
    rw [smD]
    exact (ex_in (by omega) e hr.2).app (.one ⟨hr.1.1, by have := hr.1.2; show k < (bx : Int); omega⟩)
  | .say e, ar, p, hr, ha, hp, hb => by
    rw [bxS] at hb
    rw [Sm.rng] at hr
    rw [smD]
    exact (ex_in (by omega) e hr).app (.one trivial)
  | .raise e, ar, p, hr, ha, hp, hb => by
    rw [bxS] at hb
    rw [Sm.rng] at hr
    rw [smD]
    exact (ex_in (by omega) e hr).app (.one trivial)
  | .give e, ar, p, hr, ha, hp, hb => by
    rw [bxS] at hb
    rw [Sm.rng] at hr
    rw [smD]
    exact (ex_in (by omega) e hr).app (.one ⟨by omega, by have := ha.1; omega⟩)
  | .leave, ar, p, hr, ha, hp, hb => by
    rw [smD]
    refine .one ⟨by omega, ?_⟩
    cases h : ar.lv with
    | none => show ((0 : Nat) : Int) < (pl : Int); omega
    | some q => have := (ha.2 q h).1; show ((q.1 : Nat) : Int) < (pl : Int); omega
  | .next, ar, p, hr, ha, hp, hb => by
    rw [smD]
    refine .one ⟨by omega, ?_⟩
    cases h : ar.lv with
    | none => show ((0 : Nat) : Int) < (pl : Int); omega
    | some q => have := (ha.2 q h).2; show ((q.2 : Nat) : Int) < (pl : Int); omega
  | .iff e a b, ar, p, hr, ha, hp, hb => by
    have h5 := bxS_5 (.iff e a b) ar.ends
    rw [bxS] at hb h5
    rw [Sm.rng] at hr
    rw [lenS] at hp
    rw [smD]
    exact ((((ex_in (by omega) e hr.1).app (.no1 (by omega))).app (bl_in a ar _ hr.2.1 ha (by omega) (by omega))).app (.go1 (by omega))).app (bl_in b ar _ hr.2.2 ha (by omega) (by omega))
  | .loop e b, ar, p, hr, ha, hp, hb => by
    have h5 := bxS_5 (.loop e b) ar.ends
    rw [bxS] at hb h5
    rw [Sm.rng] at hr
    rw [lenS] at hp
    rw [smD]
    have hl : ArIn pl ⟨ar.give, some (p + 1 + (exD e).length + 1 + lenL true b + 1, p), ar.ends⟩ := ⟨ha.1, fun q hq => by
      have e1 := Option.some.inj hq
      rw [← e1]
      exact ⟨by simp only; omega, by simp only; omega⟩⟩
    exact ((((RowsIn.turn1.app (ex_in (by omega) e hr.1)).app (.no1 (by omega))).app (bl_in b _ _ hr.2 hl (by simp only [Option.isSome_some]; omega) hb)).app (.go1 (by omega)))
  | .catch b n k l, ar, p, hr, ha, hp, hb => by
    have h5 := bxS_5 (.catch b n k l) ar.ends
    rw [bxS] at hb h5
    rw [Sm.rng] at hr
    rw [lenS] at hp
    rw [smD]
    exact ((((bl_in b ar _ hr.1 ha (by omega) (by omega)).app (.go1 (by omega))).app (want_in (by omega) n _ (by omega))).app (.set1 hr.2.1.1 (by have := hr.2.1.2; omega))).app (bl_in l ar _ hr.2.2 ha (by omega) (by omega))
  | .endd b l, ar, p, hr, ha, hp, hb => by
    rw [bxS] at hb
    rw [Sm.rng] at hr
    rw [lenS] at hp
    rw [smD]
    have hi : ArIn pl (inD ar (p + lenL ar.lv.isSome b + 3 + outN ar.lv.isSome) (p + lenL ar.lv.isSome b)) := by
      refine ⟨?_, fun q hq => ?_⟩
      · show p + lenL ar.lv.isSome b + 3 + outN ar.lv.isSome < pl
        omega
      · unfold inD at hq
        simp only at hq
        cases hlv : ar.lv with
        | none => rw [hlv] at hq; cases hq
        | some z =>
          rw [hlv] at hq hp
          cases hq
          rw [show outN (some z).isSome = 6 from rfl] at hp
          simp only
          omega
    have gw : ∀ mark, RowsIn pl fn bx (goD (5 + 2 * ar.ends) mark (p + lenL ar.lv.isSome b + 3 + outN ar.lv.isSome + 4 + 4)) := fun mark => go_in (by omega) (by omega)
    have sw : rowIn pl fn bx (.set ((5 + 2 * ar.ends + 1 : Nat) : Int)) := ⟨by omega, by omega⟩
    refine ((((((((bl_in b _ _ hr.1 hi (by rw [inD_lv]; omega) (by show bxL b (ar.ends + 1) ≤ bx; omega)).app (gw _)).app (out_in (by omega) (by omega) _)).app (.one sw)).app (gw _)).app (.one sw)).app (gw _)).app (bl_in l ⟨ar.give, ar.lv, ar.ends + 1⟩ _ hr.2 ha (by simp only; omega) (by simp only; omega))).app ?_
    exact .cons ⟨by omega, by omega⟩ (.cons ⟨by omega, by omega⟩ (.cons ⟨by omega, by have := ha.1; omega⟩ (.cons ⟨by omega, by omega⟩ (.cons trivial .nil))))
theorem bl_in {pl fn bx : Nat} : ∀ (l : List Sm) (ar : Ar) (p : Nat), rngL fn l → ArIn pl ar → p + lenL ar.lv.isSome l < pl → bxL l ar.ends ≤ bx → RowsIn pl fn bx (blD l ar p)
  | [], ar, p, hr, ha, hp, hb => by rw [blD]; exact .nil
  | x :: r, ar, p, hr, ha, hp, hb => by
    rw [rngL] at hr
    rw [lenL] at hp
    rw [bxL] at hb
    rw [blD]
    exact (sm_in x ar p hr.1 ha (by omega) (by omega)).app (bl_in r ar _ hr.2 ha (by omega) (by omega))
end
/-! ### stretches -/
def Pr (a b : Tr3) : Prop := a.2.1 ≤ b.1 ∨ b.2.1 ≤ a.1 ∨ (b.1 ≤ a.1 ∧ a.2.1 ≤ b.2.1)
structure TIn (a b : Nat) (T : List Tr3) : Prop where
  all : ∀ t ∈ T, a ≤ t.1 ∧ t.1 < t.2.1 ∧ t.2.1 ≤ t.2.2 ∧ t.2.2 < b
  pw : T.Pairwise Pr
section
variable {a b c d p n g : Nat} {T V : List Tr3}
theorem TIn.nil : TIn a b [] := ⟨fun t h => (List.not_mem_nil h).elim, List.Pairwise.nil⟩
theorem TIn.mono (h : TIn a b T) (h1 : c ≤ a) (h2 : b ≤ d) : TIn c d T := ⟨fun t ht => by obtain ⟨q1, q2, q3, q4⟩ := h.all t ht; exact ⟨by omega, q2, q3, by omega⟩, h.pw⟩
theorem TIn.app (h : TIn a b T) (k : TIn c d V) (h1 : b ≤ c) (h2 : a ≤ c) (h3 : b ≤ d) : TIn a d (T ++ V) := ⟨fun t ht => by
    rcases List.mem_append.mp ht with z | z
    · obtain ⟨q1, q2, q3, q4⟩ := h.all t z; exact ⟨q1, q2, q3, by omega⟩
    · obtain ⟨q1, q2, q3, q4⟩ := k.all t z; exact ⟨by omega, q2, q3, q4⟩, List.pairwise_append.mpr ⟨h.pw, k.pw, fun x hx y hy => by
    obtain ⟨_, _, q3, q4⟩ := h.all x hx
    obtain ⟨r1, _, _, _⟩ := k.all y hy
    exact .inl (by omega)⟩⟩
theorem TIn.held (h : TIn p (p + n) T) (hg : p + n ≤ g) (hd : g < d) : TIn p d (T ++ heldT p n g) := by
  unfold heldT
  split
  · refine ⟨fun t ht => ?_, List.pairwise_append.mpr ⟨h.pw, List.Pairwise.cons (fun _ z => (List.not_mem_nil z).elim) List.Pairwise.nil, fun x hx y hy => ?_⟩⟩
    · rcases List.mem_append.mp ht with z | z
      · obtain ⟨q1, q2, q3, q4⟩ := h.all t z; exact ⟨q1, q2, q3, by omega⟩
      · rw [List.mem_singleton.mp z]; exact ⟨Nat.le_refl _, by simp only; omega, hg, hd⟩
    · rw [List.mem_singleton.mp hy]
      obtain ⟨q1, q2, q3, q4⟩ := h.all x hx
      exact .inr (.inr ⟨q1, by simp only; omega⟩)
  · rw [List.append_nil]
    exact h.mono (Nat.le_refl _) (by omega)
end
mutual
theorem sm_T (lp : Bool) : ∀ (x : Sm) (p : Nat), TIn p (p + lenS lp x) (smT lp x p)
  | .set k e, p => by rw [smT]; exact .nil
  | .say e, p => by rw [smT]; exact .nil
  | .raise e, p => by rw [smT]; exact .nil
  | .give e, p => by rw [smT]; exact .nil
  | .leave, p => by rw [smT]; exact .nil
  | .next, p => by rw [smT]; exact .nil
  | .iff e a b, p => by
    rw [smT, lenS]
    exact ((bl_T lp a _).mono (Nat.le_refl _) (Nat.le_refl _)).app (bl_T lp b _) (by omega) (by omega) (by omega) |>.mono (by omega) (by omega)
  | .loop e b, p => by
    rw [smT, lenS]
    exact (bl_T true b _).mono (by omega) (by omega)
  | .catch b n k l, p => by
    rw [smT, lenS]
    exact (((bl_T lp b p).held (g := p + lenL lp b + 1) (d := p + lenL lp b + 2) (by omega) (by omega)).app (bl_T lp l _) (by omega) (by omega) (by omega)).mono (Nat.le_refl _) (by omega)
  | .endd b l, p => by
    rw [smT, lenS]
    exact (((bl_T lp b p).held (g := p + lenL lp b + 3 + outN lp + 4) (d := p + lenL lp b + 3 + outN lp + 5) (by omega) (by omega)).app (bl_T lp l _) (by omega) (by omega) (by omega)).mono (Nat.le_refl _) (by omega)
theorem bl_T (lp : Bool) : ∀ (l : List Sm) (p : Nat), TIn p (p + lenL lp l) (blT lp l p)
  | [], p => by rw [blT]; exact .nil
  | x :: r, p => by
    rw [blT, lenL]
    exact ((sm_T lp x p).app (bl_T lp r _) (Nat.le_refl _) (by omega) (by omega)).mono (Nat.le_refl _) (by omega)
end
theorem pgD_len : ∀ (l : Pg) (p q : Nat), (pgD l p).length = (pgD l q).length
  | [], _, _ => rfl
  | b :: r, p, q => by
    rw [pgD, pgD, List.length_append, List.length_append, pgD_len r _ (q + (lenL false b + 2))]
    unfold fnD
    rw [List.length_append, List.length_append, blD_len, blD_len]
def pgN : Pg → Nat
  | [] => 0
  | b :: r => lenL false b + 2 + pgN r
theorem pgD_N : ∀ (l : Pg) (p : Nat), (pgD l p).length = pgN l
  | [], _ => rfl
  | b :: r, p => by
    rw [pgD, pgN, List.length_append, pgD_N r]
    unfold fnD
    rw [List.length_append, blD_len]
    rfl
theorem pg_in {pl fn bx : Nat} : ∀ (l : Pg) (p : Nat), (∀ b ∈ l, rngL fn b) → p + pgN l ≤ pl → pgX l ≤ bx → RowsIn pl fn bx (pgD l p)
  | [], p, _, _, _ => .nil
  | b :: r, p, hr, hp, hb => by
    rw [pgN] at hp
    rw [pgX] at hb
    rw [pgD]
    refine RowsIn.app (RowsIn.app (bl_in b _ _ (hr b List.mem_cons_self) ⟨by simp only; omega, fun q hq => by cases hq⟩ (by simp only [Option.isSome_none]; omega) (by simp only; omega)) (.cons trivial (.cons trivial .nil))) (pg_in r _ (fun c hc => hr c (List.mem_cons_of_mem _ hc)) (by omega) (by omega))
theorem pg_T : ∀ (l : Pg) (p : Nat), TIn p (p + pgN l) (pgT l p)
  | [], p => .nil
  | b :: r, p => by
    rw [pgT, pgN]
    exact ((bl_T false b p).app (pg_T r _) (by omega) (by omega) (by omega)).mono (Nat.le_refl _) (by omega)
theorem pg_B : ∀ (l : Pg) (p : Nat), (pgB l p).length = l.length ∧ ∀ z ∈ pgB l p, z < p + pgN l
  | [], p => ⟨rfl, fun z h => by cases h⟩
  | b :: r, p => by
    obtain ⟨h1, h2⟩ := pg_B r (p + (lenL false b + 2))
    rw [pgB, pgN]
    refine ⟨congrArg (· + 1) h1, fun z hz => ?_⟩
    rcases List.mem_cons.mp hz with rfl | hz
    · omega
    · have := h2 z hz
      omega
theorem pgX_5 : ∀ l : Pg, 5 ≤ pgX l
  | [] => Nat.le_refl _
  | b :: r => by rw [pgX]; have := pgX_5 r; omega
end TR

/-! S6: the laws' programs are good, small and may be compared (own work). -/
namespace TR
open PySem PySem.Spec PyProof.Rows L2 U MM
theorem lay_all {ds : List PyData} {n : Nat} (h : ∀ d ∈ ds, d.canLay0 = true ∧ d.depth ≤ n) : (PyData.tuple ds).canLay0 = true ∧ (PyData.tuple ds).depth ≤ n + 1 :=
  ⟨canLayAll_of fun d hd => (h d hd).1, Nat.succ_le_succ (depthAll_of fun d hd => (h d hd).2)⟩
theorem lay_allL {ds : List PyData} {n : Nat} (h : ∀ d ∈ ds, d.canLay0 = true ∧ d.depth ≤ n) : (PyData.list ds).canLay0 = true ∧ (PyData.list ds).depth ≤ n + 1 :=
  ⟨canLayAll_of fun d hd => (h d hd).1, Nat.succ_le_succ (depthAll_of fun d hd => (h d hd).2)⟩
theorem lay_str (s : Str) (h : (PyData.str s).canLay0 = true) (n : Nat) : (PyData.str s).canLay0 = true ∧ (PyData.str s).depth ≤ n := ⟨h, Nat.zero_le _⟩
theorem lay_int (i : Int) (n : Nat) : (PyData.int i).canLay0 = true ∧ (PyData.int i).depth ≤ n := ⟨rfl, Nat.zero_le _⟩
theorem lay_opt (o : Option Int) (n : Nat) : (optD o).canLay0 = true ∧ (optD o).depth ≤ n := by cases o <;> exact ⟨rfl, Nat.zero_le _⟩
theorem lay_up {d : PyData} {n m : Nat} (h : d.canLay0 = true ∧ d.depth ≤ n) (l : n ≤ m) : d.canLay0 = true ∧ d.depth ≤ m := ⟨h.1, Nat.le_trans h.2 l⟩
theorem all2 {P : PyData → Prop} {a b : PyData} (h1 : P a) (h2 : P b) : ∀ d ∈ [a, b], P d := fun d hd => by
  rcases List.mem_cons.mp hd with rfl | hd
  · exact h1
  rw [List.mem_singleton.mp hd]; exact h2
theorem all3 {P : PyData → Prop} {a b c : PyData} (h1 : P a) (h2 : P b) (h3 : P c) : ∀ d ∈ [a, b, c], P d := fun d hd => by
  rcases List.mem_cons.mp hd with rfl | hd
  · exact h1
  exact all2 h2 h3 d hd
theorem all4 {P : PyData → Prop} {a b c e : PyData} (h1 : P a) (h2 : P b) (h3 : P c) (h4 : P e) : ∀ d ∈ [a, b, c, e], P d := fun d hd => by
  rcases List.mem_cons.mp hd with rfl | hd
  · exact h1
  exact all3 h2 h3 h4 d hd
theorem all5 {P : PyData → Prop} {a b c e f : PyData} (h1 : P a) (h2 : P b) (h3 : P c) (h4 : P e) (h5 : P f) : ∀ d ∈ [a, b, c, e, f], P d := fun d hd => by
  rcases List.mem_cons.mp hd with rfl | hd
  · exact h1
  exact all4 h2 h3 h4 h5 d hd
theorem all1 {P : PyData → Prop} {a : PyData} (h1 : P a) : ∀ d ∈ [a], P d := fun d hd => by rw [List.mem_singleton.mp hd]; exact h1
theorem ex_lay : ∀ e : Ex, e.enc.canLay0 = true ∧ e.enc.depth ≤ e.dep
  | .num z => lay_all (all2 (lay_str _ (by decide +kernel) 0) (lay_int _ 0))
  | .box z => lay_all (all2 (lay_str _ (by decide +kernel) 0) (lay_int _ 0))
  | .op o a b => lay_all (all3 (lay_str _ (by cases o <;> decide +kernel) _) (lay_up (ex_lay a) (Nat.le_max_left ..)) (lay_up (ex_lay b) (Nat.le_max_right ..)))
  | .call f e => lay_all (all3 (lay_str _ (by decide +kernel) _) (lay_int _ _) (ex_lay e))
mutual
theorem sm_lay : ∀ (x : Sm) (lp : Bool) (m : Nat), x.ok lp m → x.enc.canLay0 = true ∧ x.enc.depth ≤ 2 * m + 7
  | .set k e, lp, m, h => by
    rw [Sm.ok] at h
    rw [Sm.enc]
    exact lay_up (lay_all (all3 (lay_str _ (by decide +kernel) 6) (lay_int _ _) (lay_up (ex_lay e) h))) (by omega)
  | .say e, lp, m, h => by
    rw [Sm.ok] at h
    rw [Sm.enc]
    exact lay_up (lay_all (all2 (lay_str _ (by decide +kernel) 6) (lay_up (ex_lay e) h))) (by omega)
  | .give e, lp, m, h => by
    rw [Sm.ok] at h
    rw [Sm.enc]
    exact lay_up (lay_all (all2 (lay_str _ (by decide +kernel) 6) (lay_up (ex_lay e) h))) (by omega)
  | .raise e, lp, m, h => by
    rw [Sm.ok] at h
    rw [Sm.enc]
    exact lay_up (lay_all (all2 (lay_str _ (by decide +kernel) 6) (lay_up (ex_lay e) h))) (by omega)
  | .leave, lp, m, h => by
    rw [Sm.enc]
    exact lay_up (lay_all (all1 (lay_str _ (by decide +kernel) 0))) (by omega)
  | .next, lp, m, h => by
    rw [Sm.enc]
    exact lay_up (lay_all (all1 (lay_str _ (by decide +kernel) 0))) (by omega)
  | .iff e a b, lp, m, h => by
    rw [Sm.ok] at h
    rw [Sm.enc]
    have h1 := okL_pos h.2.1
    exact lay_up (lay_all (n := 2 * m + 6) (all4 (lay_str _ (by decide +kernel) _) (lay_up (ex_lay e) (by have := h.1; omega)) (lay_up (bl_lay a lp m h.2.1) (by omega)) (lay_up (bl_lay b lp m h.2.2) (by omega)))) (by omega)
  | .loop e b, lp, m, h => by
    rw [Sm.ok] at h
    rw [Sm.enc]
    have h1 := okL_pos h.2
    exact lay_up (lay_all (n := 2 * m + 6) (all3 (lay_str _ (by decide +kernel) _) (lay_up (ex_lay e) (by have := h.1; omega)) (lay_up (bl_lay b true m h.2) (by omega)))) (by omega)
  | .catch b n k l, lp, m, h => by
    rw [Sm.ok] at h
    rw [Sm.enc]
    have h1 := okL_pos h.1
    exact lay_up (lay_all (n := 2 * m + 6) (all5 (lay_str _ (by decide +kernel) _) (lay_up (bl_lay b lp m h.1) (by omega)) (lay_opt n _) (lay_int _ _) (lay_up (bl_lay l lp m h.2) (by omega)))) (by omega)
  | .endd b l, lp, m, h => by
    rw [Sm.ok] at h
    rw [Sm.enc]
    have h1 := okL_pos h.1
    exact lay_up (lay_all (n := 2 * m + 6) (all3 (lay_str _ (by decide +kernel) _) (lay_up (bl_lay b lp m h.1) (by omega)) (lay_up (bl_lay l lp m h.2) (by omega)))) (by omega)
theorem bls_lay : ∀ (l : List Sm) (lp : Bool) (m : Nat), okL l lp m → ∀ d ∈ encL l, d.canLay0 = true ∧ d.depth ≤ 2 * (m - 1) + 7
  | [], _, _, _, d, hd => by rw [encL] at hd; exact (List.not_mem_nil hd).elim
  | x :: r, lp, m, h, d, hd => by
    rw [okL] at h
    rw [encL] at hd
    rcases List.mem_cons.mp hd with rfl | hd
    · exact sm_lay x lp (m - 1) h.1
    · exact bls_lay r lp m h.2 d hd
theorem bl_lay : ∀ (l : List Sm) (lp : Bool) (m : Nat), okL l lp m → (PyData.list (encL l)).canLay0 = true ∧ (PyData.list (encL l)).depth ≤ 2 * (m - 1) + 8
  | l, lp, m, h => lay_allL (bls_lay l lp m h)
end
theorem encP_shaped {pg : Pg} (ok : ∀ b ∈ pg, okL b false 8) : SeqAt.shaped (encP pg) = true := by
  have h : (encP pg).canLay0 = true ∧ (encP pg).depth ≤ 23 := lay_allL (n := 22) fun d hd => by
    obtain ⟨b, hb, rfl⟩ := List.mem_map.mp hd
    exact bl_lay b false 8 (ok b hb)
  exact shaped_of h.1 (by have := h.2; omega)
/-! ### what is drawn -/
section
variable {ns : List Int} {count : Nat}
theorem oth_ok (hl : ns.length ≤ 63) (hc : 1 ≤ count) : ∀ (m p : Nat), (∀ b ∈ (othersG ns count m p).1, okL b false 6 ∧ rngL count b) ∧ szP (othersG ns count m p).1 + 210 * mm p ≤ 210 * mm (othersG ns count m p).2 + 143 * m ∧ p ≤ (othersG ns count m p).2
  | 0, p => ⟨fun b hb => (List.not_mem_nil hb).elim, by show 0 + _ ≤ 210 * mm p + _; omega, Nat.le_refl _⟩
  | m + 1, p => by
    obtain ⟨h1, h2, h3⟩ := oth_ok hl hc m p
    have e : othersG ns count (m + 1) p = ((othersG ns count m p).1 ++ [(blk ns count 5 0 (othersG ns count m p).2).1], (blk ns count 5 0 (othersG ns count m p).2).2) := rfl
    obtain ⟨z1, z2⟩ := blk_sz (count := count) hl 5 0 (othersG ns count m p).2
    rw [e]
    refine ⟨fun b hb => ?_, ?_, by simp only; omega⟩
    · rcases List.mem_append.mp hb with hb | hb
      · exact h1 b hb
      · rw [List.mem_singleton.mp hb]
        exact ⟨blk_ok hl 5 0 _, blk_rng hc 5 0 _⟩
    · simp only
      rw [szP_app, szP, szP]
      omega
theorem prog_ok (hl : ns.length ≤ 63) (p : Nat) : (progG ns p).1 ≠ [] ∧ (∀ b ∈ (progG ns p).1, okL b false 8 ∧ rngL (progG ns p).1.length b) ∧ szP (progG ns p).1 < 15000 ∧ (progG ns p).1.length ≤ 8 := by
  have hn := countG_bd (nxt ns p)
  have hlen := progG_len ns p
  rw [hlen]
  have e : progG ns p = ([(blk ns (countG (nxt ns p)) 6 0 (othersG ns (countG (nxt ns p)) (countG (nxt ns p) - 1) (p + 1)).2).1] ++ (othersG ns (countG (nxt ns p)) (countG (nxt ns p) - 1) (p + 1)).1, (blk ns (countG (nxt ns p)) 6 0 (othersG ns (countG (nxt ns p)) (countG (nxt ns p) - 1) (p + 1)).2).2) := rfl
  rw [e]
  generalize countG (nxt ns p) = n at *
  obtain ⟨h1, h2, h3⟩ := oth_ok (count := n) hl hn.1 (n - 1) (p + 1)
  generalize othersG ns n (n - 1) (p + 1) = o at *
  obtain ⟨z1, z2⟩ := blk_sz (count := n) hl 6 0 o.2
  refine ⟨fun z => by simp at z, fun b hb => ?_, ?_, hn.2⟩
  · rcases List.mem_append.mp hb with hb | hb
    · rw [List.mem_singleton.mp hb]
      exact ⟨okL_mono _ (by decide) (blk_ok hl 6 0 _), blk_rng hn.1 6 0 _⟩
    · exact ⟨okL_mono _ (by decide) (h1 b hb).1, (h1 b hb).2⟩
  · simp only
    rw [szP_app, szP, szP]
    have : mm (blk ns n 6 0 o.2).2 ≤ 63 := by unfold mm; omega
    omega
end
end TR

/-! X4: what is looked through: the contract (own work). -/
namespace CK
open PySem PySem.Spec PyProof.Rows L2 U MM TR
def GdP (pg : Pg) : Prop := pg ≠ [] ∧ ∀ b ∈ pg, okL b false 8 ∧ rngL pg.length b
end CK
namespace CM
open PySem PySem.Spec PyProof.Rows L2 U MM TR
def spChk (K : PySem.W.Frag) (Gd : Pg → Prop) : Sp := fun vs H Q _ => ∃ (W : List Addr) (R0 B0 R : Hp) (L : List (Addr × HO)) (pg : Pg) (v : V), vs = [v] ∧ Gd pg ∧ Sta W R0 B0 R H L ∧ Dp K R v (encP pg) ∧
  ∀ R' H', Sta W R0 B0 R' H' L → Same R R' → Q .non H'
end CM

/-! V1: what a program tells, as a function (own work). -/
namespace TR
open PySem L2 U MM
/-- what all functions have in common: the turns left, what was said -/
structure Gs where
  t : Nat
  sd : List Int
inductive RE where
  | val (z : Int) | fault (z : Int) | tired
inductive Wy where
  | on | leave | next | give (z : Int) | fault (z : Int) | tired
abbrev Bx := List Int
def bxG (b : Bx) (k : Int) : Int := (b[k.toNat]?).getD 0
def bxP (b : Bx) (k z : Int) : Bx := b.set k.toNat z
abbrev Cl := Int → Int → Gs → RE × Gs
def Gs.less (g : Gs) : Gs := ⟨g.t - 1, g.sd⟩
def Gs.say (g : Gs) (z : Int) : Gs := ⟨g.t, g.sd ++ [z]⟩
/-- what comes of two numbers -/
def two (o : Op4) (a b : Int) : RE := match reck o a b with
  | some z => .val z
  | none => .fault 101
/-- a call, behind the reckoning of its number -/
def callE (cl : Cl) (f z : Int) (g : Gs) : RE × Gs := if g.t = 0 then (.tired, g) else cl f z g.less
def evE (cl : Cl) : Ex → Bx → Gs → RE × Gs
  | .num n, _, g => (.val n, g)
  | .box k, b, g => (.val (bxG b k), g)
  | .op o a c, b, g =>
    match evE cl a b g with
    | (.val x, g1) => match evE cl c b g1 with
      | (.val y, g2) => (two o x y, g2)
      | r => r
    | r => r
  | .call f e, b, g =>
    match evE cl e b g with
    | (.val z, g1) => callE cl f z g1
    | r => r
abbrev RS := Wy × Bx × Gs
/-- what a number becomes of, if it is one -/
def asW (r : RE × Gs) (b : Bx) (k : Int → Gs → RS) : RS := match r with
  | (.val z, g) => k z g
  | (.fault z, g) => (.fault z, b, g)
  | (.tired, g) => (.tired, b, g)
def loopW (ask : Bx → Gs → RE × Gs) (body : Bx → Gs → RS) : Nat → Bx → Gs → RS
  | 0, b, g => (.tired, b, g)
  | n + 1, b, g =>
    if g.t = 0 then (.tired, b, g)
    else asW (ask b g.less) b fun z g1 =>
      if z = 0 then (.on, b, g1)
      else match body b g1 with
        | (.on, b2, g2) => loopW ask body n b2 g2
        | (.next, b2, g2) => loopW ask body n b2 g2
        | (.leave, b2, g2) => (.on, b2, g2)
        | r => r
def wants (n : Option Int) (z : Int) : Bool := match n with
  | none => true
  | some m => decide (m = z)
/-- what becomes of a way when something is done behind it -/
def endW (w : Wy) (r : RS) : RS := match r with
  | (.on, b, g) => (w, b, g)
  | r => r
mutual
def evS (cl : Cl) : Sm → Bx → Gs → RS
  | .set k e, b, g => asW (evE cl e b g) b fun z g1 => (.on, bxP b k z, g1)
  | .say e, b, g => asW (evE cl e b g) b fun z g1 => (.on, b, g1.say z)
  | .iff e x y, b, g => asW (evE cl e b g) b fun z g1 => if z = 0 then evB cl y b g1 else evB cl x b g1
  | .loop e x, b, g => loopW (evE cl e) (evB cl x) (g.t + 1) b g
  | .leave, b, g => (.leave, b, g)
  | .next, b, g => (.next, b, g)
  | .give e, b, g => asW (evE cl e b g) b fun z g1 => (.give z, b, g1)
  | .raise e, b, g => asW (evE cl e b g) b fun z g1 => (.fault z, b, g1)
  | .catch x n k h, b, g => match evB cl x b g with
    | (.fault z, b1, g1) => if wants n z = true then evB cl h (bxP b1 k z) g1 else (.fault z, b1, g1)
    | r => r
  | .endd x l, b, g => match evB cl x b g with
    | (.tired, b1, g1) => (.tired, b1, g1)
    | (w, b1, g1) => endW w (evB cl l b1 g1)
def evB (cl : Cl) : List Sm → Bx → Gs → RS
  | [], b, g => (.on, b, g)
  | x :: r, b, g => match evS cl x b g with
    | (.on, b1, g1) => evB cl r b1 g1
    | q => q
end
/-- what a way out of a function comes to -/
def given : RS → RE × Gs
  | (.on, _, g) => (.val 0, g)
  | (.leave, _, g) => (.val 0, g)
  | (.next, _, g) => (.val 0, g)
  | (.give z, _, g) => (.val z, g)
  | (.fault z, _, g) => (.fault z, g)
  | (.tired, _, g) => (.tired, g)
def callD (pg : Pg) : Nat → Cl
  | 0, _, _, g => (.fault 102, g)
  | d + 1, f, z, g => given (evB (callD pg d) ((pg[f.toNat]?).getD []) [z, 0, 0, 0] g)
/-- what a run tells -/
def tell (pg : Pg) (z : Int) (t : Nat) : List Int × Ou := match callD pg 8 0 z ⟨t, []⟩ with
  | (.val v, g) => (g.sd, .answer v)
  | (.fault v, g) => (g.sd, .fault v)
  | (.tired, g) => (g.sd, .tired)
/-! ### turns never get more -/
def Less (cl : Cl) : Prop := ∀ f z g, (cl f z g).2.t ≤ g.t
theorem less_t (g : Gs) : g.less.t = g.t - 1 := rfl
theorem callE_t {cl : Cl} (h : Less cl) (f z : Int) (g : Gs) : (callE cl f z g).2.t ≤ g.t := by
  unfold callE
  split
  · exact Nat.le_refl _
  · have := h f z g.less
    rw [less_t] at this
    omega
theorem evE_t {cl : Cl} (h : Less cl) : ∀ (e : Ex) (b : Bx) (g : Gs), (evE cl e b g).2.t ≤ g.t
  | .num n, b, g => Nat.le_refl _
  | .box k, b, g => Nat.le_refl _
  | .op o a c, b, g => by
    have h1 := evE_t h a b g
    rw [evE]
    split
    · rename_i x g1 e1
      rw [e1] at h1
      have h2 := evE_t h c b g1
      split
      · rename_i y g2 e2
        rw [e2] at h2
        simp only at *
        omega
      · simp only at *
        omega
    · exact h1
  | .call f e, b, g => by
    have h1 := evE_t h e b g
    rw [evE]
    split
    · rename_i z g1 e1
      rw [e1] at h1
      exact Nat.le_trans (callE_t h f z g1) h1
    · exact h1
theorem asW_t {r : RE × Gs} {b : Bx} {k : Int → Gs → RS} {n : Nat} (h : r.2.t ≤ n) (hk : ∀ z g, g.t ≤ n → (k z g).2.2.t ≤ n) : (asW r b k).2.2.t ≤ n := by
  unfold asW
  split
  · exact hk _ _ h
  · exact h
  · exact h
theorem loopW_t {ask : Bx → Gs → RE × Gs} {body : Bx → Gs → RS} (h1 : ∀ b g, (ask b g).2.t ≤ g.t) (h2 : ∀ b g, (body b g).2.2.t ≤ g.t) : ∀ (n : Nat) (b : Bx) (g : Gs), (loopW ask body n b g).2.2.t ≤ g.t
  | 0, b, g => Nat.le_refl _
  | n + 1, b, g => by
    rw [loopW]
    split
    · exact Nat.le_refl _
    · refine asW_t (Nat.le_trans (h1 b g.less) (by rw [less_t]; omega)) fun z g1 hg => ?_
      split
      · exact hg
      · have hb := h2 b g1
        split
        · rename_i b2 g2 e; rw [e] at hb; exact Nat.le_trans (loopW_t h1 h2 n b2 g2) (Nat.le_trans hb hg)
        · rename_i b2 g2 e; rw [e] at hb; exact Nat.le_trans (loopW_t h1 h2 n b2 g2) (Nat.le_trans hb hg)
        · rename_i b2 g2 e; rw [e] at hb; exact Nat.le_trans hb hg
        · exact Nat.le_trans hb hg
mutual
theorem evS_t {cl : Cl} (h : Less cl) : ∀ (x : Sm) (b : Bx) (g : Gs), (evS cl x b g).2.2.t ≤ g.t
  | .set k e, b, g => by rw [evS]; exact asW_t (evE_t h e b g) fun z g1 hg => hg
  | .say e, b, g => by rw [evS]; exact asW_t (evE_t h e b g) fun z g1 hg => hg
  | .give e, b, g => by rw [evS]; exact asW_t (evE_t h e b g) fun z g1 hg => hg
  | .raise e, b, g => by rw [evS]; exact asW_t (evE_t h e b g) fun z g1 hg => hg
  | .leave, b, g => by rw [evS]; exact Nat.le_refl _
  | .next, b, g => by rw [evS]; exact Nat.le_refl _
  | .iff e x y, b, g => by
    rw [evS]
    refine asW_t (evE_t h e b g) fun z g1 hg => ?_
    split
    · exact Nat.le_trans (evB_t h y b g1) hg
    · exact Nat.le_trans (evB_t h x b g1) hg
  | .loop e x, b, g => by rw [evS]; exact loopW_t (evE_t h e) (evB_t h x) _ b g
  | .catch x n k l, b, g => by
    have h1 := evB_t h x b g
    rw [evS]
    split
    · rename_i z b1 g1 e
      rw [e] at h1
      split
      · exact Nat.le_trans (evB_t h l _ g1) h1
      · exact h1
    · exact h1
  | .endd x l, b, g => by
    have h1 := evB_t h x b g
    rw [evS]
    split
    · rename_i b1 g1 e; rw [e] at h1; exact h1
    · rename_i w b1 g1 _ e
      rw [e] at h1
      have h2 := evB_t h l b1 g1
      unfold endW
      split
      · rename_i b2 g2 e2; rw [e2] at h2; exact Nat.le_trans h2 h1
      · exact Nat.le_trans h2 h1
theorem evB_t {cl : Cl} (h : Less cl) : ∀ (l : List Sm) (b : Bx) (g : Gs), (evB cl l b g).2.2.t ≤ g.t
  | [], b, g => by rw [evB]; exact Nat.le_refl _
  | x :: r, b, g => by
    have h1 := evS_t h x b g
    rw [evB]
    split
    · rename_i b1 g1 e
      rw [e] at h1
      exact Nat.le_trans (evB_t h r b1 g1) h1
    · exact h1
end
theorem given_t (r : RS) : (given r).2.t = r.2.2.t := by
  obtain ⟨w, b, g⟩ := r
  cases w <;> rfl
theorem callD_t (pg : Pg) : ∀ d : Nat, Less (callD pg d)
  | 0, f, z, g => Nat.le_refl _
  | d + 1, f, z, g => by
    rw [callD, given_t]
    exact evB_t (callD_t pg d) _ _ _
end TR

/-! V9: how much is said and how many turns are left, together; boxes stay as many (own work). -/
namespace TR
open PySem L2 U MM
def pot (S : Nat) (g : Gs) : Nat := g.sd.length + S * g.t
theorem pot_less {S : Nat} {g : Gs} (h : g.t ≠ 0) : pot S g.less + S = pot S g := by
  obtain ⟨t, sd⟩ := g
  cases t with
  | zero => exact absurd rfl h
  | succ k =>
    show sd.length + S * (k + 1 - 1) + S = sd.length + S * (k + 1)
    rw [Nat.add_sub_cancel, Nat.mul_succ]
    omega
theorem pot_len {S n : Nat} {g : Gs} (h : pot S g ≤ n) : g.sd.length ≤ n := Nat.le_trans (Nat.le_add_right _ _) h
theorem pot_say {S : Nat} {g : Gs} {z : Int} : pot S (g.say z) = pot S g + 1 := by
  show (g.sd ++ [z]).length + S * g.t = g.sd.length + S * g.t + 1
  rw [List.length_append, List.length_singleton]
  omega
def Grow (S : Nat) (cl : Cl) : Prop := ∀ f z g, pot S (cl f z g).2 ≤ pot S g + S
section
variable {S : Nat} {cl : Cl}
theorem evE_pot (h : Grow S cl) : ∀ (e : Ex) (b : Bx) (g : Gs), pot S (evE cl e b g).2 ≤ pot S g
  | .num n, b, g => Nat.le_refl _
  | .box k, b, g => Nat.le_refl _
  | .op o a c, b, g => by
    have h1 := evE_pot h a b g
    rw [evE]
    split
    · rename_i x g1 e1
      rw [e1] at h1
      have h2 := evE_pot h c b g1
      split
      · rename_i y g2 e2
        rw [e2] at h2
        exact Nat.le_trans h2 h1
      · exact Nat.le_trans h2 h1
    · exact h1
  | .call f e, b, g => by
    have h1 := evE_pot h e b g
    rw [evE]
    split
    · rename_i z g1 e1
      rw [e1] at h1
      refine Nat.le_trans ?_ h1
      unfold callE
      split
      · exact Nat.le_refl _
      · rename_i n
        have := h f z g1.less
        rw [pot_less n] at this
        exact this
    · exact h1
theorem asW_pot {r : RE × Gs} {b : Bx} {k : Int → Gs → RS} {n c : Nat} (h : pot S r.2 ≤ n) (hk : ∀ z g, pot S g ≤ n → pot S (k z g).2.2 ≤ n + c) : pot S (asW r b k).2.2 ≤ n + c := by
  unfold asW
  split
  · exact hk _ _ h
  · exact Nat.le_trans h (Nat.le_add_right _ _)
  · exact Nat.le_trans h (Nat.le_add_right _ _)
theorem loopW_pot {ask : Bx → Gs → RE × Gs} {body : Bx → Gs → RS} (h1 : ∀ b g, pot S (ask b g).2 ≤ pot S g) (h2 : ∀ b g, pot S (body b g).2.2 ≤ pot S g + S) : ∀ (n : Nat) (b : Bx) (g : Gs), pot S (loopW ask body n b g).2.2 ≤ pot S g
  | 0, b, g => Nat.le_refl _
  | n + 1, b, g => by
    rw [loopW]
    split
    · exact Nat.le_refl _
    · rename_i ht
      have pl := pot_less (S := S) ht
      have ha := h1 b g.less
      have := asW_pot (S := S) (r := ask b g.less) (b := b) (n := pot S g.less) (c := S) (k := fun z g1 => if z = 0 then (.on, b, g1) else match body b g1 with
        | (.on, b2, g2) => loopW ask body n b2 g2
        | (.next, b2, g2) => loopW ask body n b2 g2
        | (.leave, b2, g2) => (.on, b2, g2)
        | r => r) ha fun z g1 hg => ?_
      · rw [pl] at this
        exact this
      · show pot S (if z = 0 then ((.on, b, g1) : RS) else _).2.2 ≤ _
        split
        · exact Nat.le_trans hg (Nat.le_add_right _ _)
        · have hb := h2 b g1
          split
          · rename_i b2 g2 e; rw [e] at hb; exact Nat.le_trans (loopW_pot h1 h2 n b2 g2) (Nat.le_trans hb (Nat.add_le_add_right hg _))
          · rename_i b2 g2 e; rw [e] at hb; exact Nat.le_trans (loopW_pot h1 h2 n b2 g2) (Nat.le_trans hb (Nat.add_le_add_right hg _))
          · rename_i b2 g2 e; rw [e] at hb; exact Nat.le_trans hb (Nat.add_le_add_right hg _)
          · exact Nat.le_trans hb (Nat.add_le_add_right hg _)
mutual
theorem evS_pot (h : Grow S cl) : ∀ (x : Sm) (b : Bx) (g : Gs), x.sz ≤ S → pot S (evS cl x b g).2.2 ≤ pot S g + x.sz
  | .set k e, b, g, _ => by rw [evS]; exact asW_pot (evE_pot h e b g) fun z g1 hg => Nat.le_trans hg (Nat.le_add_right _ _)
  | .say e, b, g, _ => by
    rw [evS, Sm.sz]
    refine asW_pot (evE_pot h e b g) fun z g1 hg => ?_
    show pot S (g1.say z) ≤ _
    rw [pot_say]
    omega
  | .give e, b, g, _ => by rw [evS]; exact asW_pot (evE_pot h e b g) fun z g1 hg => Nat.le_trans hg (Nat.le_add_right _ _)
  | .raise e, b, g, _ => by rw [evS]; exact asW_pot (evE_pot h e b g) fun z g1 hg => Nat.le_trans hg (Nat.le_add_right _ _)
  | .leave, b, g, _ => by rw [evS]; exact Nat.le_add_right _ _
  | .next, b, g, _ => by rw [evS]; exact Nat.le_add_right _ _
  | .iff e x y, b, g, hs => by
    rw [Sm.sz] at hs
    rw [evS, Sm.sz]
    refine asW_pot (evE_pot h e b g) fun z g1 hg => ?_
    split
    · have := evB_pot h y b g1 (by omega); omega
    · have := evB_pot h x b g1 (by omega); omega
  | .loop e x, b, g, hs => by
    rw [Sm.sz] at hs
    rw [evS]
    refine Nat.le_trans (loopW_pot (evE_pot h e) (fun b g => ?_) _ b g) (Nat.le_add_right _ _)
    have := evB_pot h x b g (by omega)
    omega
  | .catch x n k l, b, g, hs => by
    rw [Sm.sz] at hs
    have h1 := evB_pot h x b g (by omega)
    rw [evS, Sm.sz]
    split
    · rename_i z b1 g1 e
      rw [e] at h1
      simp only at h1
      split
      · have := evB_pot h l (bxP b1 k z) g1 (by omega); omega
      · show pot S g1 ≤ _; omega
    · omega
  | .endd x l, b, g, hs => by
    rw [Sm.sz] at hs
    have h1 := evB_pot h x b g (by omega)
    rw [evS, Sm.sz]
    split
    · rename_i b1 g1 e; rw [e] at h1; simp only at h1 ⊢; omega
    · rename_i w b1 g1 _ e
      rw [e] at h1
      simp only at h1
      have h2 := evB_pot h l b1 g1 (by omega)
      unfold endW
      split
      · rename_i b2 g2 e2; rw [e2] at h2; simp only at h2 ⊢; omega
      · omega
theorem evB_pot (h : Grow S cl) : ∀ (l : List Sm) (b : Bx) (g : Gs), szL l ≤ S → pot S (evB cl l b g).2.2 ≤ pot S g + szL l
  | [], b, g, _ => by rw [evB]; exact Nat.le_add_right _ _
  | x :: r, b, g, hs => by
    rw [szL] at hs
    have h1 := evS_pot h x b g (by omega)
    rw [evB, szL]
    split
    · rename_i b1 g1 e
      rw [e] at h1
      simp only at h1
      have h2 := evB_pot h r b1 g1 (by omega)
      omega
    · omega
end
theorem given_2 (r : RS) : (given r).2 = r.2.2 := by
  obtain ⟨w, b, g⟩ := r
  cases w <;> rfl
theorem callD_pot {pg : Pg} (hS : ∀ b ∈ pg, szL b ≤ S) : ∀ d : Nat, Grow S (callD pg d)
  | 0, f, z, g => Nat.le_add_right _ _
  | d + 1, f, z, g => by
    rw [callD, given_2]
    have hl : szL ((pg[f.toNat]?).getD []) ≤ S := by
      cases e : pg[f.toNat]? with
      | none => exact Nat.zero_le _
      | some l => exact hS l (List.mem_of_getElem? e)
    have := evB_pot (callD_pot hS d) _ [z, 0, 0, 0] g hl
    omega
end
/-! ### boxes -/
section
variable {cl : Cl}
theorem asW_len {r : RE × Gs} {b : Bx} {k : Int → Gs → RS} {n : Nat} (hb : b.length = n) (hk : ∀ z g, (k z g).2.1.length = n) : (asW r b k).2.1.length = n := by
  unfold asW
  split
  · exact hk _ _
  · exact hb
  · exact hb
theorem loopW_len {ask : Bx → Gs → RE × Gs} {body : Bx → Gs → RS} (h2 : ∀ b g, (body b g).2.1.length = b.length) : ∀ (n : Nat) (b : Bx) (g : Gs), (loopW ask body n b g).2.1.length = b.length
  | 0, b, g => rfl
  | n + 1, b, g => by
    rw [loopW]
    split
    · rfl
    · refine asW_len rfl fun z g1 => ?_
      split
      · rfl
      · have hb := h2 b g1
        split
        · rename_i b2 g2 e; rw [e] at hb; exact (loopW_len h2 n b2 g2).trans hb
        · rename_i b2 g2 e; rw [e] at hb; exact (loopW_len h2 n b2 g2).trans hb
        · rename_i b2 g2 e; rw [e] at hb; exact hb
        · exact hb
theorem bxP_len {b : Bx} {k z : Int} : (bxP b k z).length = b.length := by unfold bxP; rw [List.length_set]
mutual
theorem evS_len : ∀ (x : Sm) (b : Bx) (g : Gs), (evS cl x b g).2.1.length = b.length
  | .set k e, b, g => by rw [evS]; exact asW_len rfl fun z g1 => bxP_len
  | .say e, b, g => by rw [evS]; exact asW_len rfl fun z g1 => rfl
  | .give e, b, g => by rw [evS]; exact asW_len rfl fun z g1 => rfl
  | .raise e, b, g => by rw [evS]; exact asW_len rfl fun z g1 => rfl
  | .leave, b, g => by rw [evS]
  | .next, b, g => by rw [evS]
  | .iff e x y, b, g => by
    rw [evS]
    refine asW_len rfl fun z g1 => ?_
    split
    · exact evB_len y b g1
    · exact evB_len x b g1
  | .loop e x, b, g => by rw [evS]; exact loopW_len (evB_len x) _ b g
  | .catch x n k l, b, g => by
    have h1 := evB_len x b g
    rw [evS]
    split
    · rename_i z b1 g1 e
      rw [e] at h1
      split
      · exact (evB_len l _ g1).trans (bxP_len.trans h1)
      · exact h1
    · exact h1
  | .endd x l, b, g => by
    have h1 := evB_len x b g
    rw [evS]
    split
    · rename_i b1 g1 e; rw [e] at h1; exact h1
    · rename_i w b1 g1 _ e
      rw [e] at h1
      have h2 := evB_len l b1 g1
      unfold endW
      split
      · rename_i b2 g2 e2; rw [e2] at h2; exact h2.trans h1
      · exact h2.trans h1
theorem evB_len : ∀ (l : List Sm) (b : Bx) (g : Gs), (evB cl l b g).2.1.length = b.length
  | [], b, g => by rw [evB]
  | x :: r, b, g => by
    have h1 := evS_len x b g
    rw [evB]
    split
    · rename_i b1 g1 e
      rw [e] at h1
      exact (evB_len r b1 g1).trans h1
    · exact h1
end
end
/-! ### a loop, behind its turn -/
def loopA (ask : Bx → Gs → RE × Gs) (body : Bx → Gs → RS) (n : Nat) (b : Bx) (g : Gs) : RS := asW (ask b g) b fun z g1 =>
  if z = 0 then (.on, b, g1)
  else match body b g1 with
    | (.on, b2, g2) => loopW ask body n b2 g2
    | (.next, b2, g2) => loopW ask body n b2 g2
    | (.leave, b2, g2) => (.on, b2, g2)
    | r => r
theorem loop_0 {ask : Bx → Gs → RE × Gs} {body : Bx → Gs → RS} {n : Nat} {b : Bx} {g : Gs} (h : g.t = 0) : loopW ask body n b g = (.tired, b, g) := by
  cases n with
  | zero => rfl
  | succ n => rw [loopW, if_pos h]
theorem loop_1 {ask : Bx → Gs → RE × Gs} {body : Bx → Gs → RS} {n : Nat} {b : Bx} {g : Gs} (h : g.t ≠ 0) (hn : g.t < n) : ∃ m, n = m + 1 ∧ loopW ask body n b g = loopA ask body m b g.less := by
  cases n with
  | zero => omega
  | succ n => exact ⟨n, rfl, by rw [loopW, if_neg h]; rfl⟩
theorem ev_end {cl : Cl} {x l : List Sm} {b b1 : Bx} {g g1 : Gs} {w : Wy} (h : evB cl x b g = (w, b1, g1)) (n : w ≠ .tired) : evS cl (.endd x l) b g = endW w (evB cl l b1 g1) := by
  rw [evS, h]
  cases w <;> first | rfl | exact absurd rfl n
end TR

/-! Z2: how k06 draws, as functions, and that its word is what stands first (own work). -/
namespace TR
open PySem L2 U MM
def big : Int := 10 ^ Int.toNat 20
/-! ### a tree i deeper than its leaf -/
def deepT (c : Int) (leaf : Ex) : Nat → Ex
  | 0 => leaf
  | i + 1 => if (c + (i : Nat)) % 3 = 0 then .op .add (deepT c leaf i) (.box 0) else if (c + (i : Nat)) % 3 = 1 then .call 0 (deepT c leaf i) else .op .sub (.num 2) (deepT c leaf i)
theorem deepT_none {n : Nat} (hn : 1 ≤ n) (c : Int) (leaf : Ex) : ∀ (i d : Nat), chE n leaf (d + i) = none → d + i ≤ 6 → chE n (deepT c leaf i) d = none
  | 0, d, h, _ => h
  | i + 1, d, h, hd => by
    have ih := deepT_none hn c leaf i (d + 1) (by rw [show d + 1 + i = d + (i + 1) by omega]; exact h) (by omega)
    have h0 : chFn n 0 = none := by unfold chFn; rw [if_pos ⟨by decide, by omega⟩]
    have hb : chE n (.box 0) (d + 1) = none := by rw [chE, if_neg (by omega)]; rfl
    have h2 : chE n (.num 2) (d + 1) = none := by rw [chE, if_neg (by omega)]
    rw [deepT]
    split
    · rw [chE, if_neg (by omega), ih, hb]; rfl
    · split
      · rw [chE, if_neg (by omega), ih, h0]; rfl
      · rw [chE, if_neg (by omega), h2, ih]; rfl
theorem chE_deep {n : Nat} : ∀ (e : Ex) {d : Nat}, 6 < d → chE n e d = some .deep
  | .num _, d, h => by rw [chE, if_pos h]
  | .box _, d, h => by rw [chE, if_pos h]
  | .op _ _ _, d, h => by rw [chE, if_pos h]
  | .call _ _, d, h => by rw [chE, if_pos h]
theorem deepT_deep {n : Nat} (hn : 1 ≤ n) (c : Int) (leaf : Ex) : ∀ (i d : Nat), 6 < d + i → chE n (deepT c leaf i) d = some .deep
  | 0, d, h => chE_deep _ h
  | i + 1, d, h => by
    by_cases hd : 6 < d
    · exact chE_deep _ hd
    · have ih := deepT_deep hn c leaf i (d + 1) (by omega)
      have h0 : chFn n 0 = none := by unfold chFn; rw [if_pos ⟨by decide, by omega⟩]
      rw [deepT]
      split
      · rw [chE, if_neg hd, ih]; rfl
      · split
        · rw [chE, if_neg hd, ih, h0]; rfl
        · rw [chE, if_neg hd, ih, chE]
          split <;> rfl
/-! ### the trees -/
def badB (m : Int) : Int := if m = 0 then 4 else if m = 1 then -1 else big
def badF (n : Nat) (m : Int) : Int := if m = 0 then (n : Int) else if m = 1 then -1 else big
theorem badB_ch (m : Int) : chBox (badB m) = some .box := by
  unfold badB chBox
  split
  · rw [if_neg (by decide)]
  · split
    · rw [if_neg (by decide)]
    · rw [if_neg (by decide)]
theorem badF_ch {n : Nat} (hn : n ≤ 4) (m : Int) : chFn n (badF n m) = some .fn := by
  unfold badF chFn
  split
  · rw [if_neg (by omega)]
  · split
    · rw [if_neg (by omega)]
    · rw [if_neg (by have : big = 100000000000000000000 := rfl; omega)]
/-- with what stands beside it -/
def sideT (n : Nat) (m : Int) (t : Ex) (due : Option Kl) : Ex × Option Kl :=
  if m / 6 % 6 = 1 then (.op .add t (.num 1), due)
  else if m / 6 % 6 = 2 then (.op .less (.num 1) t, due)
  else if m / 6 % 6 = 3 then (.op .share t (.box 3), due)
  else if m / 6 % 6 = 4 then (.call 0 t, due)
  else if m / 6 % 6 = 5 ∧ due = some .box then (.op .sub t (.call (n : Nat) (.num 0)), due)
  else if m / 6 % 6 = 5 then (.op .add t (.box 9), fst1 due (some .box))
  else (t, due)
def treeX (c : Int) (n : Nat) : Ex × Option Kl :=
  let m := c / 5
  if c % 5 = 0 then sideT n m (.box (badB (m % 3))) (some .box)
  else if c % 5 = 1 then sideT n m (.call (badF n (m % 3)) (.box (9 * (m / 3 % 2)))) (some .fn)
  else if c % 5 = 2 then
    let t := deepT m (if m / 3 % 3 = 0 then .num 1 else if m / 3 % 3 = 1 then .box 9 else .call (n : Nat) (.num 0)) 6
    (if m / 9 % 2 = 0 then t else .op .add t (.box 9), some .deep)
  else if c % 5 = 3 then (deepT m (.num 1) 5, none)
  else sideT n m (.call ((n : Int) - 1) (.box 3)) none
theorem side_ch {n : Nat} (hn : 1 ≤ n ∧ n ≤ 4) (m : Int) {t : Ex} {due : Option Kl} (h : ∀ d, d ≤ 2 → chE n t d = due) : chE n (sideT n m t due).1 1 = (sideT n m t due).2 := by
  have h1 := h 1 (by decide)
  have h2 := h 2 (by decide)
  have hf : chFn n 0 = none := by unfold chFn; rw [if_pos ⟨by decide, by omega⟩]
  have hnum : ∀ z, chE n (.num z) 2 = none := fun z => by rw [chE, if_neg (by decide)]
  have hb3 : chE n (.box 3) 2 = none := by rw [chE, if_neg (by decide)]; rfl
  have hb9 : chE n (.box 9) 2 = some .box := by rw [chE, if_neg (by decide)]; rfl
  unfold sideT
  split
  · simp only; rw [chE, if_neg (by decide), h2, hnum]; cases due <;> rfl
  · split
    · simp only; rw [chE, if_neg (by decide), h2, hnum]; rfl
    · split
      · simp only; rw [chE, if_neg (by decide), h2, hb3]; cases due <;> rfl
      · split
        · simp only; rw [chE, if_neg (by decide), h2, hf]; rfl
        · split
          · rename_i c
            simp only
            rw [chE, if_neg (by decide), h2, c.2]
            rfl
          · split
            · simp only; rw [chE, if_neg (by decide), h2, hb9]
            · exact h1
theorem tree_ch {n : Nat} (hn : 1 ≤ n ∧ n ≤ 4) (c : Int) : chE n (treeX c n).1 1 = (treeX c n).2 := by
  unfold treeX
  simp only
  split
  · exact side_ch hn _ fun d hd => by rw [chE, if_neg (by omega), badB_ch]
  · split
    · exact side_ch hn _ fun d hd => by rw [chE, if_neg (by omega), badF_ch hn.2]; rfl
    · split
      · simp only
        split
        · exact deepT_deep hn.1 _ _ 6 1 (by decide)
        · rw [chE, if_neg (by decide), deepT_deep hn.1 _ _ 6 2 (by decide)]; rfl
      · split
        · exact deepT_none hn.1 _ _ 5 1 (by rw [chE, if_neg (by decide)]) (by decide)
        · refine side_ch hn _ fun d hd => ?_
          have hf : chFn n ((n : Int) - 1) = none := by unfold chFn; rw [if_pos ⟨by omega, by omega⟩]
          have hb3 : chE n (.box 3) (d + 1) = none := by rw [chE, if_neg (by omega)]; rfl
          rw [chE, if_neg (by omega), hf, hb3]
          rfl
/-! ### the statements -/
def rowX (c o : Int) (n : Nat) : Sm × Option Kl :=
  let t := (treeX o n).1
  let due := (treeX o n).2
  if c % 9 = 0 then (.set 3 t, due) else if c % 9 = 1 then (.say t, due) else if c % 9 = 2 then (.iff t [] [], due) else if c % 9 = 3 then (.loop t [], due) else if c % 9 = 4 then (.give t, due) else if c % 9 = 5 then (.raise t, due)
  else if c % 9 = 6 then (.set (badB (c / 9 % 3)) t, some .box)
  else if c % 9 = 7 then (.catch [.say (.num 0)] none (if c / 9 % 2 = 0 then 4 else -1) [.say t], some .box)
  else (if c / 9 % 2 = 0 then .leave else .next, some .loop)
def isCatch : Sm → Bool
  | .catch _ _ _ _ => true
  | _ => false
def isBlk : Sm → Bool
  | .iff _ _ _ => true
  | .loop _ _ => true
  | _ => false
def dueX (f : Sm × Option Kl) (deep : Nat) (lp : Bool) : Option Kl :=
  if deep = 7 ∧ isCatch f.1 = true then some .deep
  else if f.2 = some .loop ∧ lp = true then none
  else if f.2 = none ∧ deep = 7 ∧ isBlk f.1 = true then some .deep
  else f.2
theorem tree_noloop (c : Int) (n : Nat) : (treeX c n).2 ≠ some .loop := by
  have hs : ∀ (m : Int) (t : Ex) (due : Option Kl), due ≠ some .loop → (sideT n m t due).2 ≠ some .loop := fun m t due h => by
    unfold sideT
    split
    · exact h
    · split
      · exact h
      · split
        · exact h
        · split
          · exact h
          · split
            · exact h
            · split
              · cases due with
                | none => exact fun z => nomatch z
                | some k => exact h
              · exact h
  unfold treeX
  simp only
  split
  · exact hs _ _ _ (fun z => nomatch z)
  · split
    · exact hs _ _ _ (fun z => nomatch z)
    · split
      · exact fun z => nomatch z
      · split
        · exact fun z => nomatch z
        · exact hs _ _ _ (fun z => nomatch z)
theorem due_plain {x : Sm} {due : Option Kl} {deep : Nat} {lp : Bool} (h1 : isCatch x = false) (h2 : isBlk x = false) (hl : due ≠ some .loop) : dueX (x, due) deep lp = due := by
  unfold dueX
  simp [h1, h2, hl]
theorem due_blk {x : Sm} {due : Option Kl} {deep : Nat} {lp : Bool} (h1 : isCatch x = false) (h2 : isBlk x = true) (hl : due ≠ some .loop) : dueX (x, due) deep lp = fst1 due (if deep = 7 then some .deep else none) := by
  unfold dueX
  cases due with
  | none => simp [h1, h2, fst1]
  | some k => simp [h1, h2, hl, fst1]
theorem due_catch {x : Sm} {deep : Nat} {lp : Bool} (h : isCatch x = true) : dueX (x, some .box) deep lp = if deep = 7 then some .deep else some .box := by
  unfold dueX
  by_cases c : deep = 7 <;> simp [h, c]
theorem due_loop {x : Sm} {deep : Nat} {lp : Bool} (h : isCatch x = false) : dueX (x, some .loop) deep lp = if lp = true then none else some .loop := by
  unfold dueX
  cases lp <;> simp [h]
theorem row_ch {n : Nat} (hn : 1 ≤ n ∧ n ≤ 4) (c o : Int) (deep : Nat) (hd : deep ≤ 7) (lp : Bool) : chS n (rowX c o n).1 (deep + 1) lp = dueX (rowX c o n) deep lp := by
  have ht := tree_ch hn o
  have hl := tree_noloop o n
  have h0 : chE n (.num 0) 1 = none := by rw [chE, if_neg (by decide)]
  have hblk : ∀ x : Option Kl, (if 8 < deep + 1 + 1 then some Kl.deep else x) = if deep = 7 then some .deep else x := fun x => by
    by_cases c : deep = 7
    · rw [if_pos c, if_pos (by omega)]
    · rw [if_neg c, if_neg (by omega)]
  have hdd : ∀ x : Option Kl, fst1 (if deep = 7 then some .deep else none) (if deep = 7 then some .deep else none) = (if deep = 7 then some Kl.deep else none) := fun x => by
    by_cases c : deep = 7
    · rw [if_pos c]; rfl
    · rw [if_neg c]; rfl
  unfold rowX
  simp only
  split
  · rw [chS, due_plain rfl rfl hl, ht]; rfl
  split
  · rw [chS, due_plain rfl rfl hl, ht]
  split
  · rw [chS, due_blk rfl rfl hl, ht, chL, hblk, hdd none]
  split
  · rw [chS, due_blk rfl rfl hl, ht, chL, hblk]
  split
  · rw [chS, due_plain rfl rfl hl, ht]
  split
  · rw [chS, due_plain rfl rfl hl, ht]
  split
  · rw [chS, badB_ch, due_plain (due := some .box) rfl rfl (by decide)]; rfl
  split
  · have hb : chBox (if c / 9 % 2 = 0 then 4 else -1) = some .box := by split <;> rfl
    rw [chS, hblk, chL, chL, chS, h0, hb, due_catch rfl]
    by_cases c7 : deep = 7
    · rw [if_pos c7, if_pos c7]; rfl
    · rw [if_neg c7, if_neg c7]; rfl
  · by_cases c2 : c / 9 % 2 = 0
    · rw [if_pos c2, chS, due_loop rfl]
    · rw [if_neg c2, chS, due_loop rfl]
end TR

/-! Z3: k06's whole programs, and what they are due (own work). -/
namespace TR
open PySem L2 U MM
def besX (bad : Bool) : List Sm := if bad = true then [.set 7 (.num 0)] else []
def aroundX (b : List Sm) (way : Int) (bad : Bool) : List Sm :=
  if way = 0 then [.iff (.box 1) b (besX bad), .say (.box 2)]
  else if way = 1 then [.iff (.box 1) [] b]
  else if way = 2 then [.set 0 (.num 1), .catch b none 1 (besX bad), .say (.num 3)]
  else if way = 3 then [.catch [] (some 3) 1 b]
  else if way = 4 then [.endd b (besX bad), .raise (.num 2)]
  else if way = 5 then [.say (.num 3), .endd [] b]
  else [.loop (.num 0) b]
def wayL (way : Int) : Bool := !(decide (way = 0) || decide (way = 1) || decide (way = 2) || decide (way = 3) || decide (way = 4) || decide (way = 5))
def wayB (way : Int) : Bool := decide (way = 0) || decide (way = 2) || decide (way = 4)
theorem bes_ch (n : Nat) (bad : Bool) (d : Nat) (lp : Bool) : chL n (besX bad) d lp = if bad = true then some .box else none := by
  unfold besX
  cases bad <;> rfl
theorem fst1_n (a : Option Kl) : fst1 a none = a := by cases a <;> rfl
theorem around_ch {n : Nat} (b : List Sm) (way : Int) (bad : Bool) (d : Nat) (lp : Bool) (hd : d ≤ 7) : chL n (aroundX b way bad) d lp = fst1 (chL n b (d + 1) (lp || wayL way)) (if (bad && wayB way) = true then some .box else none) := by
  have c8 : ¬ 8 < d + 1 := by omega
  have b1 : chE n (.box 1) 1 = none := rfl
  have b2 : chE n (.box 2) 1 = none := rfl
  have hn : ∀ z, chE n (.num z) 1 = none := fun z => rfl
  have hb0 : chBox 0 = none := rfl
  have hb1 : chBox 1 = none := rfl
  unfold aroundX
  split
  · rename_i h
    subst h
    rw [chL, chL, chL, chS, chS, b1, b2, if_neg c8, if_neg c8, bes_ch]
    simp [wayL, wayB, fst1_n]
    rfl
  split
  · rename_i h
    subst h
    rw [chL, chL, chS, b1, if_neg c8, if_neg c8, chL]
    simp [wayL, wayB, fst1_n]
    rfl
  split
  · rename_i h
    subst h
    rw [chL, chL, chL, chL, chS, chS, chS, hn, hn, if_neg c8, if_neg c8, bes_ch, hb0, hb1]
    simp [wayL, wayB, fst1_n]
    rfl
  split
  · rename_i h
    subst h
    rw [chL, chL, chS, if_neg c8, if_neg c8, chL, hb1]
    simp [wayL, wayB, fst1_n]
    rfl
  split
  · rename_i h
    subst h
    rw [chL, chL, chL, chS, chS, hn, if_neg c8, if_neg c8, bes_ch]
    simp [wayL, wayB, fst1_n]
  split
  · rename_i h
    subst h
    rw [chL, chL, chL, chS, chS, hn, if_neg c8, if_neg c8, chL]
    simp [wayL, wayB, fst1_n]
    rfl
  · rename_i h0 h1 h2 h3 h4 h5
    rw [chL, chL, chS, hn, if_neg c8]
    simp [wayL, wayB, fst1_n, h0, h1, h2, h3, h4, h5]
    rfl
theorem around_8 {n : Nat} (b : List Sm) (way : Int) (bad : Bool) (lp : Bool) : chL n (aroundX b way bad) 8 lp = some .deep := by
  have c8 : 8 < 8 + 1 := by omega
  unfold aroundX
  repeat' split
  all_goals (simp only [chL, chS, if_pos c8]; rfl)
def wrapX (b : List Sm) (ways : Nat → Int) (bads : Nat → Bool) : Nat → List Sm
  | 0 => b
  | k + 1 => aroundX (wrapX b ways bads k) (ways k) (bads k)
def lwX (ways : Nat → Int) : Nat → Bool
  | 0 => false
  | k + 1 => lwX ways k || wayL (ways k)
def bwX (ways : Nat → Int) (bads : Nat → Bool) : Nat → Bool
  | 0 => false
  | k + 1 => bwX ways bads k || (bads k && wayB (ways k))
theorem wrap_ch {n : Nat} (b : List Sm) (ways : Nat → Int) (bads : Nat → Bool) : ∀ (k d : Nat) (lp : Bool), d + k ≤ 8 → chL n (wrapX b ways bads k) d lp = fst1 (chL n b (d + k) (lp || lwX ways k)) (if bwX ways bads k = true then some .box else none)
  | 0, d, lp, h => by
    show chL n b d lp = fst1 (chL n b d (lp || false)) none
    rw [fst1_n, Bool.or_false]
  | k + 1, d, lp, h => by
    rw [wrapX, around_ch _ _ _ _ _ (by omega), wrap_ch b ways bads k (d + 1) _ (by omega), fst1_assoc, lwX, bwX, show d + 1 + k = d + (k + 1) by omega]
    congr 1
    · congr 1
      cases lp <;> cases lwX ways k <;> cases wayL (ways k) <;> rfl
    · cases bwX ways bads k <;> cases (bads k && wayB (ways k)) <;> rfl
theorem wrap_9 {n : Nat} (b : List Sm) (ways : Nat → Int) (bads : Nat → Bool) : ∀ (k d : Nat) (lp : Bool), d + k = 8 → chL n (wrapX b ways bads (k + 1)) d lp = some .deep
  | 0, d, lp, h => by
    rw [show d = 8 by omega, wrapX]
    exact around_8 _ _ _ _
  | k + 1, d, lp, h => by
    rw [wrapX, around_ch _ _ _ _ _ (by omega), wrap_9 b ways bads k (d + 1) _ (by omega)]
    rfl
/-! ### the functions one by one -/
def gvX : List Sm := [.give (.box 0)]
theorem gv_ch (n : Nat) : chB n gvX 1 false = none := rfl
theorem rep_ch {n : Nat} : ∀ m : Nat, chBs n (List.replicate m gvX) = none
  | 0 => rfl
  | m + 1 => by rw [List.replicate_succ, chBs, gv_ch, rep_ch m]; rfl
theorem set_ch {n : Nat} (B : List Sm) : ∀ (m i : Nat), i < m → chBs n ((List.replicate m gvX).set i B) = chB n B 1 false
  | m + 1, 0, _ => by rw [List.replicate_succ, List.set_cons_zero, chBs, rep_ch, fst1_n]
  | m + 1, i + 1, h => by rw [List.replicate_succ, List.set_cons_succ, chBs, gv_ch, set_ch B m i (by omega)]; rfl
theorem set2_ch {n : Nat} (B C : List Sm) : ∀ (m i j : Nat), i < j → j < m → chBs n (((List.replicate m gvX).set i B).set j C) = fst1 (chB n B 1 false) (chB n C 1 false)
  | m + 1, 0, j + 1, h, h2 => by rw [List.replicate_succ, List.set_cons_zero, List.set_cons_succ, chBs, set_ch C m j (by omega)]
  | m + 1, i + 1, j + 1, h, h2 => by rw [List.replicate_succ, List.set_cons_succ, List.set_cons_succ, chBs, gv_ch, set2_ch B C m i j (by omega) (by omega)]; rfl
/-! ### the program -/
def gdX : List Sm := [.say (.num 5), .give (.box 3)]
def timesX (k : Nat) (l : List Sm) : List Sm := (List.replicate k l).flatten
def mulX (f : Int) : Nat := if f / 864 % 3 = 2 then 30 else 1
def firstX (cs : Nat → Int) : Int := cs 0 * 48271 % 1000003
def cntX (cs : Nat → Int) : Nat := (1 + firstX cs % 4).toNat
def blockX (cs : Nat → Int) : List Sm :=
  timesX (mulX (firstX cs)) (gdX.take (firstX cs / 4 % 3).toNat) ++ [(rowX (cs 1) (cs 2) (cntX cs)).1] ++ gdX.drop (firstX cs / 12 % 3).toNat ++ [(rowX (cs 3) (cs 4) (cntX cs)).1] ++ gdX.take (firstX cs / 36 % 2).toNat
def deepX (cs : Nat → Int) : Nat := (cs 5 % 9).toNat
def waysX (cs : Nat → Int) (k : Nat) : Int := cs (6 + k) % 7
def badsX (cs : Nat → Int) (k : Nat) : Bool := decide (cs (14 + k) % 5 = 1)
def due0X (cs : Nat → Int) : Option Kl := if deepX cs < 8 then fst1 (dueX (rowX (cs 1) (cs 2) (cntX cs)) (deepX cs) (lwX (waysX cs) (deepX cs))) (dueX (rowX (cs 3) (cs 4) (cntX cs)) (deepX cs) (lwX (waysX cs) (deepX cs))) else some .deep
def due1X (cs : Nat → Int) : Option Kl := fst1 (due0X cs) (if bwX (waysX cs) (badsX cs) (deepX cs) = true then some .box else none)
def atX (cs : Nat → Int) : Nat := (firstX cs / 72 % (cntX cs : Nat)).toNat
def lastX : List Sm := [.say (.num 0), .set 7 (.num 0)]
def moreX (cs : Nat → Int) : Bool := decide (firstX cs / 288 % 3 = 1) && decide (atX cs + 1 < cntX cs)
def pg0X (cs : Nat → Int) : Pg := (List.replicate (cntX cs) gvX).set (atX cs) (wrapX (blockX cs) (waysX cs) (badsX cs) (deepX cs))
def pgX' (cs : Nat → Int) : Pg := if moreX cs = true then (pg0X cs).set (cntX cs - 1) lastX else pg0X cs
def dueP (cs : Nat → Int) : Option Kl := if moreX cs = true then fst1 (due1X cs) (some .box) else due1X cs
theorem cnt_bd (cs : Nat → Int) : 1 ≤ cntX cs ∧ cntX cs ≤ 4 := by unfold cntX; omega
theorem at_bd (cs : Nat → Int) : atX cs < cntX cs := by
  have h := cnt_bd cs
  unfold atX
  have h1 := Int.emod_lt_of_pos (firstX cs / 72) (show (0 : Int) < ((cntX cs : Nat) : Int) by omega)
  have h2 := Int.emod_nonneg (firstX cs / 72) (show ((cntX cs : Nat) : Int) ≠ 0 by omega)
  omega
theorem gd_mem {n d : Nat} {lp : Bool} : ∀ (l : List Sm), (∀ x ∈ l, x ∈ gdX) → chL n l d lp = none
  | [], _ => rfl
  | x :: r, h => by
    have ih := gd_mem (n := n) (d := d) (lp := lp) r fun y hy => h y (List.mem_cons_of_mem _ hy)
    have hx := h x List.mem_cons_self
    rw [chL, ih, fst1_n]
    rcases List.mem_cons.mp hx with rfl | hx
    · rfl
    · rw [List.mem_singleton.mp hx]; rfl
theorem times_mem (k : Nat) (l : List Sm) : ∀ x ∈ timesX k l, x ∈ l := fun x hx => by
  unfold timesX at hx
  obtain ⟨m, hm, hx⟩ := List.mem_flatten.mp hx
  rw [List.eq_of_mem_replicate hm] at hx
  exact hx
theorem block_ch (cs : Nat → Int) (d : Nat) (lp : Bool) : chL (cntX cs) (blockX cs) d lp = fst1 (chS (cntX cs) (rowX (cs 1) (cs 2) (cntX cs)).1 d lp) (chS (cntX cs) (rowX (cs 3) (cs 4) (cntX cs)).1 d lp) := by
  unfold blockX
  rw [chL_app, chL_app, chL_app, chL_app, gd_mem _ (fun x hx => List.mem_of_mem_take (times_mem _ _ x hx)), gd_mem _ (fun x hx => List.mem_of_mem_drop hx), gd_mem _ (fun x hx => List.mem_of_mem_take hx), chL, chL, chL]
  simp only [fst1_n]
  rw [chL, fst1_n]
  rfl
theorem due1_ch (cs : Nat → Int) : chB (cntX cs) (wrapX (blockX cs) (waysX cs) (badsX cs) (deepX cs)) 1 false = due1X cs := by
  have hd : deepX cs ≤ 8 := by unfold deepX; omega
  unfold chB
  rw [if_neg (by decide)]
  unfold due1X due0X
  by_cases c : deepX cs < 8
  · rw [if_pos c, wrap_ch _ _ _ _ _ _ (by omega), block_ch, show 1 + deepX cs = deepX cs + 1 by omega, row_ch (cnt_bd cs) _ _ _ (by omega), row_ch (cnt_bd cs) _ _ _ (by omega), Bool.false_or]
  · rw [if_neg c, show deepX cs = 7 + 1 by omega, wrap_9 _ _ _ 7 1 false rfl]
    rfl
theorem pg_len (cs : Nat → Int) : (pgX' cs).length = cntX cs := by
  unfold pgX' pg0X
  split
  · rw [List.length_set, List.length_set, List.length_replicate]
  · rw [List.length_set, List.length_replicate]
theorem prog_ch (cs : Nat → Int) : chP (pgX' cs) = dueP cs := by
  have hl := pg_len cs
  have hc := cnt_bd cs
  have ha := at_bd cs
  have e : chP (pgX' cs) = chBs (cntX cs) (pgX' cs) := by
    cases h : pgX' cs with
    | nil => rw [h] at hl; simp at hl; omega
    | cons b r => rw [h] at hl; show chBs (b :: r).length (b :: r) = _; rw [hl]
  rw [e]
  unfold pgX' dueP
  by_cases m : moreX cs = true
  · rw [if_pos m, if_pos m]
    have hm : atX cs + 1 < cntX cs := by
      unfold moreX at m
      rw [Bool.and_eq_true] at m
      exact of_decide_eq_true m.2
    unfold pg0X
    rw [set2_ch _ _ _ _ _ (by omega) (by omega), due1_ch]
    rfl
  · rw [if_neg m, if_neg m]
    unfold pg0X
    rw [set_ch _ _ _ ha, due1_ch]
end TR

/-! Z4: k06's programs are small, and may be compared (own work). -/
namespace TR
open PySem PySem.Spec PyProof.Rows L2 U MM
/-! ### sizes -/
theorem deep_sz (c : Int) (leaf : Ex) : ∀ i, (deepT c leaf i).sz ≤ leaf.sz + 2 * i
  | 0 => by rw [deepT]; omega
  | i + 1 => by
    have ih := deep_sz c leaf i
    rw [deepT]
    split
    · simp only [Ex.sz]; omega
    · split
      · simp only [Ex.sz]; omega
      · simp only [Ex.sz]; omega
theorem side_sz (n : Nat) (m : Int) (t : Ex) (due : Option Kl) : (sideT n m t due).1.sz ≤ t.sz + 3 := by
  unfold sideT
  repeat' split
  all_goals (simp only [Ex.sz]; omega)
theorem treeX_sz (c : Int) (n : Nat) : (treeX c n).1.sz ≤ 16 := by
  unfold treeX
  simp only
  split
  · have h := side_sz n (c / 5) (.box (badB (c / 5 % 3))) (some .box)
    simp only [Ex.sz] at h; omega
  · split
    · have h := side_sz n (c / 5) (.call (badF n (c / 5 % 3)) (.box (9 * (c / 5 / 3 % 2)))) (some .fn)
      simp only [Ex.sz] at h; omega
    · split
      · have h := deep_sz (c / 5) (if c / 5 / 3 % 3 = 0 then .num 1 else if c / 5 / 3 % 3 = 1 then .box 9 else .call (n : Nat) (.num 0)) 6
        have hl : (if c / 5 / 3 % 3 = 0 then Ex.num 1 else if c / 5 / 3 % 3 = 1 then .box 9 else .call (n : Nat) (.num 0)).sz ≤ 2 := by
          split
          · simp only [Ex.sz]; omega
          · split <;> simp only [Ex.sz] <;> omega
        split
        · show (deepT _ _ 6).sz ≤ 16; omega
        · simp only [Ex.sz]; omega
      · split
        · have h := deep_sz (c / 5) (.num 1) 5
          simp only [Ex.sz] at h
          show (deepT _ _ 5).sz ≤ 16; omega
        · have h := side_sz n (c / 5) (.call ((n : Int) - 1) (.box 3)) none
          simp only [Ex.sz] at h; omega
theorem rowX_sz (c o : Int) (n : Nat) : (rowX c o n).1.sz ≤ 37 := by
  have h := treeX_sz o n
  unfold rowX
  simp only
  repeat' split
  all_goals (simp only [Sm.sz, szL, Ex.sz]; omega)
theorem times_sz (l : List Sm) : ∀ k, szL (timesX k l) = k * szL l
  | 0 => by rw [Nat.zero_mul]; rfl
  | k + 1 => by
    have ih := times_sz l k
    unfold timesX at ih ⊢
    rw [List.replicate_succ, List.flatten_cons, szL_app', ih, Nat.succ_mul, Nat.add_comm]
theorem gdt_sz (k : Nat) : szL (gdX.take k) ≤ 4 := by
  match k with
  | 0 => decide
  | 1 => decide
  | k + 2 =>
    have e : gdX.take (k + 2) = gdX := List.take_of_length_le (by show 2 ≤ k + 2; omega)
    rw [e]; decide
theorem gdd_sz (k : Nat) : szL (gdX.drop k) ≤ 4 := by
  match k with
  | 0 => decide
  | 1 => decide
  | k + 2 =>
    have e : gdX.drop (k + 2) = [] := List.drop_eq_nil_of_le (by show 2 ≤ k + 2; omega)
    rw [e]; decide
theorem block_sz (cs : Nat → Int) : szL (blockX cs) ≤ 248 := by
  unfold blockX
  rw [szL_app', szL_app', szL_app', szL_app', times_sz, szL_1, szL_1]
  have h1 := rowX_sz (cs 1) (cs 2) (cntX cs)
  have h2 := rowX_sz (cs 3) (cs 4) (cntX cs)
  have h3 := gdd_sz (firstX cs / 12 % 3).toNat
  have h4 := gdt_sz (firstX cs / 36 % 2).toNat
  have h5 : mulX (firstX cs) * szL (gdX.take (firstX cs / 4 % 3).toNat) ≤ 30 * 4 := Nat.mul_le_mul (by unfold mulX; split <;> omega) (gdt_sz _)
  omega
theorem around_sz (b : List Sm) (way : Int) (bad : Bool) : szL (aroundX b way bad) ≤ szL b + 60 := by
  have hb : szL (besX bad) ≤ 2 := by cases bad <;> decide
  unfold aroundX
  repeat' split
  all_goals (simp only [szL, Sm.sz, Ex.sz]; omega)
theorem wrap_sz (b : List Sm) (ways : Nat → Int) (bads : Nat → Bool) : ∀ k, szL (wrapX b ways bads k) ≤ szL b + 60 * k
  | 0 => by rw [wrapX]; omega
  | k + 1 => by
    have ih := wrap_sz b ways bads k
    have h := around_sz (wrapX b ways bads k) (ways k) (bads k)
    rw [wrapX]
    omega
theorem deepX_le (cs : Nat → Int) : deepX cs ≤ 8 := by unfold deepX; omega
theorem all_set {A : Type} {p : A → Prop} {l : List A} {i : Nat} {x : A} (h : ∀ y ∈ l, p y) (hx : p x) : ∀ y ∈ l.set i x, p y := fun y hy => by
  rcases List.mem_or_eq_of_mem_set hy with z | z
  · exact h y z
  · rw [z]; exact hx
/-- what holds of each block of the program -/
theorem pgX_all {p : List Sm → Prop} (cs : Nat → Int) (h1 : p gvX) (h2 : p lastX) (h3 : p (wrapX (blockX cs) (waysX cs) (badsX cs) (deepX cs))) : ∀ b ∈ pgX' cs, p b := by
  have h0 : ∀ b ∈ pg0X cs, p b := all_set (fun y hy => by rw [List.eq_of_mem_replicate hy]; exact h1) h3
  unfold pgX'
  split
  · exact all_set h0 h2
  · exact h0
theorem pgX_sz (cs : Nat → Int) : ∀ b ∈ pgX' cs, szL b ≤ 728 := pgX_all cs (by decide) (by decide) (by
  have h1 := wrap_sz (blockX cs) (waysX cs) (badsX cs) (deepX cs)
  have h2 := block_sz cs
  have h3 := deepX_le cs
  omega)
theorem szP_le {S : Nat} : ∀ {pg : Pg}, (∀ b ∈ pg, szL b ≤ S) → szP pg ≤ pg.length * (S + 3)
  | [], _ => by rw [szP]; omega
  | b :: r, h => by
    have h1 := h b List.mem_cons_self
    have h2 := szP_le (pg := r) fun x hx => h x (List.mem_cons_of_mem _ hx)
    rw [szP, List.length_cons, Nat.succ_mul]
    omega
theorem pgX_szP (cs : Nat → Int) : szP (pgX' cs) < 100000 := by
  have h := szP_le (pgX_sz cs)
  have h2 : (pgX' cs).length * (728 + 3) ≤ 4 * (728 + 3) := Nat.mul_le_mul (by rw [pg_len]; exact (cnt_bd cs).2) (Nat.le_refl _)
  omega
/-! ### depth -/
abbrev Ly (d : PyData) (n : Nat) : Prop := d.canLay0 = true ∧ d.depth ≤ n
theorem dep_sz : ∀ e : Ex, e.dep ≤ e.sz
  | .num _ => by rw [Ex.dep, Ex.sz]; omega
  | .box _ => by rw [Ex.dep, Ex.sz]; omega
  | .op _ a b => by
    have h1 := dep_sz a
    have h2 := dep_sz b
    rw [Ex.dep, Ex.sz]; omega
  | .call _ e => by
    have h1 := dep_sz e
    rw [Ex.dep, Ex.sz]; omega
theorem ex_ly (e : Ex) {n : Nat} (h : e.sz ≤ n) : Ly e.enc n := lay_up (ex_lay e) (Nat.le_trans (dep_sz e) h)
theorem nil_ly (n : Nat) : Ly (.list (encL [])) (n + 1) := lay_allL fun d hd => (List.not_mem_nil hd).elim
theorem rowX_ly (c o : Int) (n : Nat) : Ly (rowX c o n).1.enc 20 := by
  have ht := treeX_sz o n
  have hs : ∀ e : Ex, e.sz ≤ 16 → Ly (Sm.say e).enc 17 := fun e h => by
    rw [Sm.enc]; exact lay_all (all2 (lay_str _ (by decide +kernel) _) (ex_ly e h))
  have h1 : Ly (.list (encL [Sm.say (.num 0)])) 18 := lay_allL (all1 (hs _ (by decide)))
  have h2 : Ly (.list (encL [Sm.say (treeX o n).1])) 18 := lay_allL (all1 (hs _ ht))
  unfold rowX
  simp only
  repeat' split
  all_goals rw [Sm.enc]
  · exact lay_up (lay_all (n := 16) (all3 (lay_str _ (by decide +kernel) _) (lay_int _ _) (ex_ly _ ht))) (by decide)
  · exact lay_up (lay_all (n := 16) (all2 (lay_str _ (by decide +kernel) _) (ex_ly _ ht))) (by decide)
  · exact lay_up (lay_all (n := 16) (all4 (lay_str _ (by decide +kernel) _) (ex_ly _ ht) (nil_ly _) (nil_ly _))) (by decide)
  · exact lay_up (lay_all (n := 16) (all3 (lay_str _ (by decide +kernel) _) (ex_ly _ ht) (nil_ly _))) (by decide)
  · exact lay_up (lay_all (n := 16) (all2 (lay_str _ (by decide +kernel) _) (ex_ly _ ht))) (by decide)
  · exact lay_up (lay_all (n := 16) (all2 (lay_str _ (by decide +kernel) _) (ex_ly _ ht))) (by decide)
  · exact lay_up (lay_all (n := 16) (all3 (lay_str _ (by decide +kernel) _) (lay_int _ _) (ex_ly _ ht))) (by decide)
  · exact lay_up (lay_all (n := 18) (all5 (lay_str _ (by decide +kernel) _) h1 (lay_opt none _) (lay_int _ _) h2)) (by decide)
  · exact lay_up (lay_all (n := 18) (all5 (lay_str _ (by decide +kernel) _) h1 (lay_opt none _) (lay_int _ _) h2)) (by decide)
  · exact lay_up (lay_all (n := 0) (all1 (lay_str _ (by decide +kernel) _))) (by decide)
  · exact lay_up (lay_all (n := 0) (all1 (lay_str _ (by decide +kernel) _))) (by decide)
abbrev LyL (l : List Sm) (n : Nat) : Prop := ∀ x ∈ l, Ly x.enc n
theorem lyL_enc {l : List Sm} {n : Nat} (h : LyL l n) : ∀ d ∈ encL l, Ly d n := fun d hd => by
  rw [encL_map] at hd
  obtain ⟨x, hx, rfl⟩ := List.mem_map.mp hd
  exact h x hx
theorem lyL_list {l : List Sm} {n : Nat} (h : LyL l n) : Ly (.list (encL l)) (n + 1) := lay_allL (lyL_enc h)
theorem say_ly (e : Ex) (n : Nat) (h : e.sz ≤ n) : Ly (Sm.say e).enc (n + 1) := by
  rw [Sm.enc]; exact lay_all (all2 (lay_str _ (by decide +kernel) _) (ex_ly e h))
theorem gd_ly : LyL gdX 2 := fun x hx => by
  rcases List.mem_cons.mp hx with rfl | hx
  · exact say_ly _ 1 (by decide)
  · rw [List.mem_singleton.mp hx, Sm.enc]
    exact lay_all (all2 (lay_str _ (by decide +kernel) _) (ex_ly _ (by decide)))
theorem block_ly (cs : Nat → Int) : LyL (blockX cs) 20 := fun x hx => by
  unfold blockX at hx
  rcases List.mem_append.mp hx with hx | hx
  · rcases List.mem_append.mp hx with hx | hx
    · rcases List.mem_append.mp hx with hx | hx
      · rcases List.mem_append.mp hx with hx | hx
        · exact lay_up (gd_ly x (List.mem_of_mem_take (times_mem _ _ x hx))) (by decide)
        · rw [List.mem_singleton.mp hx]; exact rowX_ly _ _ _
      · exact lay_up (gd_ly x (List.mem_of_mem_drop hx)) (by decide)
    · rw [List.mem_singleton.mp hx]; exact rowX_ly _ _ _
  · exact lay_up (gd_ly x (List.mem_of_mem_take hx)) (by decide)
theorem set_ly (k : Int) (e : Ex) (n : Nat) (h : e.sz ≤ n) : Ly (Sm.set k e).enc (n + 1) := by
  rw [Sm.enc]; exact lay_all (all3 (lay_str _ (by decide +kernel) _) (lay_int _ _) (ex_ly e h))
theorem bes_ly (bad : Bool) : LyL (besX bad) 2 := fun x hx => by
  cases bad
  · exact (List.not_mem_nil hx).elim
  · rw [List.mem_singleton.mp hx]; exact set_ly _ _ 1 (by decide)
theorem nilL_ly (n : Nat) : LyL [] n := fun x hx => (List.not_mem_nil hx).elim
theorem mem2 {P : Sm → Prop} {a b : Sm} (h1 : P a) (h2 : P b) : ∀ d ∈ [a, b], P d := fun d hd => by
  rcases List.mem_cons.mp hd with rfl | hd
  · exact h1
  · rw [List.mem_singleton.mp hd]; exact h2
theorem mem1 {P : Sm → Prop} {a : Sm} (h1 : P a) : ∀ d ∈ [a], P d := fun d hd => by rw [List.mem_singleton.mp hd]; exact h1
theorem mem3 {P : Sm → Prop} {a b c : Sm} (h1 : P a) (h2 : P b) (h3 : P c) : ∀ d ∈ [a, b, c], P d := fun d hd => by
  rcases List.mem_cons.mp hd with rfl | hd
  · exact h1
  · exact mem2 h2 h3 d hd
theorem around_ly {b : List Sm} {n : Nat} (h : LyL b n) (hn : 2 ≤ n) (way : Int) (bad : Bool) : LyL (aroundX b way bad) (n + 2) := by
  have hb := lyL_list h
  have he : Ly (.list (encL (besX bad))) (n + 1) := lay_up (lyL_list (bes_ly bad)) (by omega)
  have hN : Ly (.list (encL [])) (n + 1) := lay_up (nil_ly 0) (by omega)
  have hs : ∀ e : Ex, e.sz ≤ 1 → Ly (Sm.say e).enc (n + 2) := fun e q => lay_up (say_ly e 1 q) (by omega)
  unfold aroundX
  repeat' split
  · refine mem2 ?_ (hs _ (by decide))
    rw [Sm.enc]
    exact lay_all (all4 (lay_str _ (by decide +kernel) _) (ex_ly _ (by show 1 ≤ _; omega)) hb he)
  · refine mem1 ?_
    rw [Sm.enc]
    exact lay_all (all4 (lay_str _ (by decide +kernel) _) (ex_ly _ (by show 1 ≤ _; omega)) hN hb)
  · refine mem3 (lay_up (set_ly _ _ 1 (by decide)) (by omega)) ?_ (hs _ (by decide))
    rw [Sm.enc]
    exact lay_all (all5 (lay_str _ (by decide +kernel) _) hb (lay_opt none _) (lay_int _ _) he)
  · refine mem1 ?_
    rw [Sm.enc]
    exact lay_all (all5 (lay_str _ (by decide +kernel) _) hN (lay_opt (some 3) _) (lay_int _ _) hb)
  · refine mem2 ?_ ?_
    · rw [Sm.enc]
      exact lay_all (all3 (lay_str _ (by decide +kernel) _) hb he)
    · rw [Sm.enc]
      exact lay_up (lay_all (n := 1) (all2 (lay_str _ (by decide +kernel) _) (ex_ly _ (by decide)))) (by omega)
  · refine mem2 (hs _ (by decide)) ?_
    rw [Sm.enc]
    exact lay_all (all3 (lay_str _ (by decide +kernel) _) hN hb)
  · refine mem1 ?_
    rw [Sm.enc]
    exact lay_all (all3 (lay_str _ (by decide +kernel) _) (ex_ly _ (by show 1 ≤ _; omega)) hb)
theorem wrap_ly {b : List Sm} {n : Nat} (h : LyL b n) (hn : 2 ≤ n) (ways : Nat → Int) (bads : Nat → Bool) : ∀ k, LyL (wrapX b ways bads k) (n + 2 * k)
  | 0 => h
  | k + 1 => by
    have ih := wrap_ly h hn ways bads k
    rw [wrapX]
    exact around_ly ih (by omega) _ _
theorem pgX_shaped (cs : Nat → Int) : SeqAt.shaped (encP (pgX' cs)) = true := by
  have hb : ∀ b ∈ pgX' cs, LyL b 36 := pgX_all (p := fun b => LyL b 36) cs
    (mem1 (by rw [Sm.enc]; exact lay_up (lay_all (n := 1) (all2 (lay_str _ (by decide +kernel) _) (ex_ly _ (by decide)))) (by decide)))
    (mem2 (lay_up (say_ly _ 1 (by decide)) (by decide)) (lay_up (set_ly _ _ 1 (by decide)) (by decide)))
    (fun x hx => lay_up (wrap_ly (block_ly cs) (by decide) (waysX cs) (badsX cs) (deepX cs) x hx) (by have := deepX_le cs; omega))
  have h : (encP (pgX' cs)).canLay0 = true ∧ (encP (pgX' cs)).depth ≤ 38 := lay_allL (n := 37) fun d hd => by
    obtain ⟨b, hb2, rfl⟩ := List.mem_map.mp hd
    exact lyL_list (hb b hb2)
  exact shaped_of h.1 (by have := h.2; omega)
end TR

namespace LC
open PySem PySem.Spec PyProof.Rows L2 U MM M
/-! ### small helpers of the laws -/
def cellAt (ns : List Int) (k : Int) : Int := (ns[k.toNat]?).getD 0
def numb (c : Int) : Int := if c % 5 = 4 then c / 5 % 10 ^ Int.toNat 30 - 5 * 10 ^ Int.toNat 29 else c / 5 % 8 - 2
def spCel (K : PySem.W.Frag) : Sp := fun vs H Q _ => ∃ (a : Addr) (ns : List Int) (k : Int), vs = [.ref a, .int k] ∧ SqL K H a (ns.map V.int) ∧ 0 ≤ k ∧ Q (.int (cellAt ns k)) H
def spNumb : Sp := fun vs H Q _ => ∃ (c : Int), vs = [.int c] ∧ Q (.int (numb c)) H
def spWhole : Sp := fun vs H Q _ => ∃ (c : Int), vs = [.int c] ∧ Q (.bl true) H
theorem cut2 (ns : List Int) : cutV (ns.map V.int) (some 2) none = (ns.drop 2).map V.int := by
  unfold cutV
  rw [HT.sIx_none, show (2 : Int) = ((2 : Nat) : Int) from rfl, HT.sIx_nat, List.map_drop]
  by_cases h2 : 2 ≤ ns.length
  · rw [Nat.min_eq_left (by simpa using h2), List.take_of_length_le (by simp)]
  · rw [Nat.min_eq_right (by simp; omega), List.drop_eq_nil_of_le (by simp), List.drop_eq_nil_of_le (by simp; omega)]
    simp
theorem last_at (l : List V) (v : V) : atI (l ++ [v]) (((l ++ [v]).length : Nat) - 1 : Int) = some v := by
  have e : (((l ++ [v]).length : Nat) - 1 : Int) = ((l.length : Nat) : Int) := by
    rw [List.length_append]
    show (((l.length + 1 : Nat) : Int) - 1) = _
    omega
  rw [e]
  exact atI_nat (by simp)
theorem w_cell {K : PySem.W.Frag} {H : Hp} {Q : VK} {E : XK} {a : Addr} {ns : List Int} {k : Int} (hS : SqL K H a (ns.map V.int)) (hk : 0 ≤ k) (h : Q (.int (cellAt ns k)) H) : spCel K ([.ref a, .int k] ++ []) H Q E := ⟨a, ns, k, rfl, hS, hk, h⟩
theorem w_numb {H : Hp} {Q : VK} {E : XK} {c : Int} (h : Q (.int (numb c)) H) : spNumb ([.int c] ++ []) H Q E := ⟨c, rfl, h⟩
theorem w_whole {H : Hp} {Q : VK} {E : XK} {c : Int} (h : Q (.bl true) H) : spWhole ([.int c] ++ []) H Q E := ⟨c, rfl, h⟩
local macro_rules | `(tactic| walk_at "own1") => `(tactic| first
  | ((with_reducible refine w_cell (ns := ?wcn) ?wcs ?wck ?_); (case wcs => walk_at "sq"); (case wck => first | decide | omega))
  | (with_reducible refine w_numb ?_)
  | (with_reducible refine w_whole ?_)
  | walk_at "own2")
section
variable {P : Program} {w : World} {K : PySem.W.Frag} {mg : Str → Option Value} {base : Heap}
theorem ca_cell (B : Bi mg) (D : Df K mg "_law_cell_at" (top 84)) : Ca P w K mg base CX0 1 "_law_cell_at" (spCel K) := by
  have sc : FnScope ["_law_script", "_law_k"] ["_law_script", "_law_k"] (defScope (top 84)) := ⟨rfl, rfl, rfl, by decide +kernel, rfl, by decide +kernel, by decide +kernel⟩
  have nd := sc.nd
  refine D.ca0 sc (fun _ _ _ _ _ _ us hl => match us, hl with | [_, _], _ => rfl) (fun vs H Q E h => by obtain ⟨_, _, _, rfl, _⟩ := h; rfl) (fun f cdv A outer s H vs Q E hr h => ?_)
  obtain ⟨a, ns, k, rfl, hS, hk, q⟩ := h
  refine ⟨_, (pss_cons (ps_if (pt_cmpR op_lt (pv 1) (pe_callB call_lenA rfl B.len PySem.boot_len (pa_cons (pv 0) pa_nil)) (nomark _)) (pss_one (ps_ret (pe_ix ix_lt (pv 0) (pv 1) (fun _ _ => rfl)))) pss_nil)
    (pss_one (ps_ret pe_int))), ?_⟩
  refine U.w_start (σ' := [some _, some _]) rfl ?_
  walk_at "st"
  walk_at "if"
  have hl : (ns.map V.int).length = ns.length := List.length_map _
  rw [hl]
  refine it_cases (fun c => ?_) fun c => ?_
  · walk_at "go"
    refine w_ixLL hS (v := .int (cellAt ns k)) ?_ q
    have e : k = ((k.toNat : Nat) : Int) := by omega
    have hk : k.toNat < ns.length := by omega
    have e2 : atI (ns.map V.int) ((k.toNat : Nat) : Int) = some (.int (cellAt ns k)) := atI_nat (by
      unfold cellAt
      rw [List.getElem?_map, List.getElem?_eq_getElem hk]
      rfl)
    rw [← e] at e2
    exact e2
  · walk_at "go"
    have e : cellAt ns k = 0 := by
      unfold cellAt
      rw [List.getElem?_eq_none_iff.mpr (by omega)]
      rfl
    rw [e] at q
    exact q
end
end LC

namespace CK
open PySem PySem.Spec PyProof.Rows L2 U MM TR M RZ
/-! what is looked through: parts by their kinds (own work) -/
def exWord : Ex → Str
  | .num _ => "num"
  | .box _ => "box"
  | .op o _ _ => o.word
  | .call _ _ => "call"
def exKinds : Ex → List Str
  | .num _ => ["number"]
  | .box _ => ["box"]
  | .op _ _ _ => ["expression", "expression"]
  | .call _ _ => ["function", "expression"]
def smKinds : Sm → List Str
  | .set _ _ => ["box", "expression"]
  | .say _ => ["expression"]
  | .iff _ _ _ => ["expression", "block", "block"]
  | .loop _ _ => ["expression", "block"]
  | .leave => []
  | .next => []
  | .give _ => ["expression"]
  | .raise _ => ["expression"]
  | .catch _ _ _ _ => ["block", "number", "box", "block"]
  | .endd _ _ => ["block", "block"]
def smLoop : Sm → Bool
  | .loop _ _ => true
  | _ => false
inductive EPart (K : PySem.W.Frag) (R : Hp) (n dm : Nat) : Str → V → Prop where
  | num (v : V) : EPart K R n dm "number" v
  | box (k : Int) (h : boxR k) : EPart K R n dm "box" (.int k)
  | fn (f : Int) (h1 : 0 ≤ f) (h2 : f < (n : Int)) : EPart K R n dm "function" (.int f)
  | ex (e : Ex) (v : V) (h1 : e.dep ≤ dm) (h2 : e.rng n) (h3 : Dp K R v e.enc) : EPart K R n dm "expression" v
inductive SPart (K : PySem.W.Frag) (R : Hp) (n : Nat) (lp : Bool) (m : Nat) : Str → V → Prop where
  | num (v : V) : SPart K R n lp m "number" v
  | box (k : Int) (h : boxR k) : SPart K R n lp m "box" (.int k)
  | ex (e : Ex) (v : V) (h1 : e.dep ≤ 6) (h2 : e.rng n) (h3 : Dp K R v e.enc) : SPart K R n lp m "expression" v
  | blk (l : List Sm) (v : V) (h1 : okL l lp m) (h2 : rngL n l) (h3 : Dp K R v (.list (encL l))) : SPart K R n lp m "block" v
theorem two {A : Type} {P : Str → V → Prop} {k1 k2 : Str} {v1 v2 : V} (h1 : P k1 v1) (h2 : P k2 v2) : ∀ (i : Nat) (k : Str) (y : V), [k1, k2][i]? = some k → [v1, v2][i]? = some y → P k y
  | 0, _, _, e1, e2 => by cases e1; cases e2; exact h1
  | 1, _, _, e1, e2 => by cases e1; cases e2; exact h2
  | i + 2, _, _, e1, _ => by cases e1
section
variable {K : PySem.W.Frag} {R : Hp} {n m : Nat}
def Each (P : Str → V → Prop) (ks : List Str) (vs : List V) : Prop := vs.length = ks.length ∧ ∀ (i : Nat) (k : Str) (y : V), ks[i]? = some k → vs[i]? = some y → P k y
theorem Each.nil {P : Str → V → Prop} : Each P [] [] := ⟨rfl, fun _ _ _ e => by cases e⟩
theorem Each.cons {P : Str → V → Prop} {k : Str} {v : V} {ks : List Str} {vs : List V} (h : P k v) (r : Each P ks vs) : Each P (k :: ks) (v :: vs) :=
  ⟨congrArg (· + 1) r.1, fun i k' y e1 e2 => match i, e1, e2 with
    | 0, e1, e2 => by cases e1; cases e2; exact h
    | i + 1, e1, e2 => r.2 i k' y e1 e2⟩
theorem ex_parts {v : V} {e : Ex} (h : Dp K R v e.enc) (hm : e.dep ≤ m + 1) (hr : e.rng n) : ∃ p vs, v = .ref p ∧ SqT K R p (.str (exWord e) :: vs) ∧ Each (EPart K R n m) (exKinds e) vs := by
  cases e with
  | num z =>
    obtain ⟨p, v1, v2, rfl, hT, h1, h2⟩ := dp_tup2 h
    cases dp_str h1
    exact ⟨p, _, rfl, hT, .cons (.num _) .nil⟩
  | box z =>
    obtain ⟨p, v1, v2, rfl, hT, h1, h2⟩ := dp_tup2 h
    cases dp_str h1
    cases dp_int h2
    exact ⟨p, _, rfl, hT, .cons (.box _ hr) .nil⟩
  | op o a b =>
    obtain ⟨p, v1, v2, v3, rfl, hT, h1, h2, h3⟩ := dp_tup3 h
    cases dp_str h1
    rw [Ex.dep] at hm
    rw [Ex.rng] at hr
    exact ⟨p, _, rfl, hT, .cons (.ex a _ (by omega) hr.1 h2) (.cons (.ex b _ (by omega) hr.2 h3) .nil)⟩
  | call f a =>
    obtain ⟨p, v1, v2, v3, rfl, hT, h1, h2, h3⟩ := dp_tup3 h
    cases dp_str h1
    cases dp_int h2
    rw [Ex.dep] at hm
    rw [Ex.rng] at hr
    exact ⟨p, _, rfl, hT, .cons (.fn f hr.1 hr.2.1) (.cons (.ex a _ (by omega) hr.2.2 h3) .nil)⟩
theorem sm_parts {v : V} {x : Sm} {lp : Bool} (h : Dp K R v x.enc) (hm : x.ok lp m) (hr : x.rng n) : ∃ p vs, v = .ref p ∧ SqT K R p (.str (Sm.word x) :: vs) ∧ Each (SPart K R n (lp || smLoop x) m) (smKinds x) vs := by
  cases x with
  | set k e =>
    rw [Sm.enc] at h
    obtain ⟨p, v1, v2, v3, rfl, hT, h1, h2, h3⟩ := dp_tup3 h
    cases dp_str h1
    cases dp_int h2
    rw [Sm.ok] at hm
    rw [Sm.rng] at hr
    exact ⟨p, _, rfl, hT, .cons (.box _ hr.1) (.cons (.ex e _ hm hr.2 h3) .nil)⟩
  | say e =>
    rw [Sm.enc] at h
    obtain ⟨p, v1, v2, rfl, hT, h1, h2⟩ := dp_tup2 h
    cases dp_str h1
    rw [Sm.ok] at hm
    rw [Sm.rng] at hr
    exact ⟨p, _, rfl, hT, .cons (.ex e _ hm hr h2) .nil⟩
  | give e =>
    rw [Sm.enc] at h
    obtain ⟨p, v1, v2, rfl, hT, h1, h2⟩ := dp_tup2 h
    cases dp_str h1
    rw [Sm.ok] at hm
    rw [Sm.rng] at hr
    exact ⟨p, _, rfl, hT, .cons (.ex e _ hm hr h2) .nil⟩
  | raise e =>
    rw [Sm.enc] at h
    obtain ⟨p, v1, v2, rfl, hT, h1, h2⟩ := dp_tup2 h
    cases dp_str h1
    rw [Sm.ok] at hm
    rw [Sm.rng] at hr
    exact ⟨p, _, rfl, hT, .cons (.ex e _ hm hr h2) .nil⟩
  | iff e a b =>
    rw [Sm.enc] at h
    obtain ⟨p, v1, v2, v3, v4, rfl, hT, h1, h2, h3, h4⟩ := dp_tup4 h
    cases dp_str h1
    rw [Sm.ok] at hm
    rw [Sm.rng] at hr
    rw [show (lp || smLoop (.iff e a b)) = lp from Bool.or_false lp]
    exact ⟨p, _, rfl, hT, .cons (.ex e _ hm.1 hr.1 h2) (.cons (.blk a _ hm.2.1 hr.2.1 h3) (.cons (.blk b _ hm.2.2 hr.2.2 h4) .nil))⟩
  | loop e b =>
    rw [Sm.enc] at h
    obtain ⟨p, v1, v2, v3, rfl, hT, h1, h2, h3⟩ := dp_tup3 h
    cases dp_str h1
    rw [Sm.ok] at hm
    rw [Sm.rng] at hr
    rw [show (lp || smLoop (.loop e b)) = true from Bool.or_true lp]
    exact ⟨p, _, rfl, hT, .cons (.ex e _ hm.1 hr.1 h2) (.cons (.blk b _ hm.2 hr.2 h3) .nil)⟩
  | leave =>
    rw [Sm.enc] at h
    obtain ⟨p, v1, rfl, hT, h1⟩ := dp_tup1 h
    cases dp_str h1
    exact ⟨p, _, rfl, hT, .nil⟩
  | next =>
    rw [Sm.enc] at h
    obtain ⟨p, v1, rfl, hT, h1⟩ := dp_tup1 h
    cases dp_str h1
    exact ⟨p, _, rfl, hT, .nil⟩
  | «catch» b z k l =>
    rw [Sm.enc] at h
    obtain ⟨p, v1, v2, v3, v4, v5, rfl, hT, h1, h2, h3, h4, h5⟩ := dp_tup5 h
    cases dp_str h1
    cases dp_int h4
    rw [Sm.ok] at hm
    rw [Sm.rng] at hr
    rw [show (lp || smLoop (.catch b z k l)) = lp from Bool.or_false lp]
    exact ⟨p, _, rfl, hT, .cons (.blk b _ hm.1 hr.1 h2) (.cons (.num _) (.cons (.box _ hr.2.1) (.cons (.blk l _ hm.2 hr.2.2 h5) .nil)))⟩
  | endd b l =>
    rw [Sm.enc] at h
    obtain ⟨p, v1, v2, v3, rfl, hT, h1, h2, h3⟩ := dp_tup3 h
    cases dp_str h1
    rw [Sm.ok] at hm
    rw [Sm.rng] at hr
    rw [show (lp || smLoop (.endd b l)) = lp from Bool.or_false lp]
    exact ⟨p, _, rfl, hT, .cons (.blk b _ hm.1 hr.1 h2) (.cons (.blk l _ hm.2 hr.2 h3) .nil)⟩
end
theorem w_slT {K : PySem.W.Frag} {H : Hp} {Q : VK} {a : Addr} {x : V} {xs : List V} (ha : SqT K H a (x :: xs)) (h : ∀ p, H p = none → Q (.ref p) (upd H p (.tup xs))) : rSlT K (.ref a) (some 1) none H Q := by
  have e1 : HT.sIx (x :: xs).length 0 (some 1) = 1 := by
    rw [show (1 : Int) = ((1 : Nat) : Int) from rfl, HT.sIx_nat, List.length_cons]
    omega
  refine ⟨a, x :: xs, rfl, ha, fun z => by rw [e1] at z; omega, fun p n => ?_⟩
  have e2 : cutV (x :: xs) (some 1) none = xs := by
    unfold cutV
    rw [e1, HT.sIx_none, List.drop_one, List.tail_cons, List.length_cons]
    exact List.take_of_length_le (by omega)
  rw [e2]
  exact h p n
/-- what the two tables hold -/
def TabE (w : World) (K : PySem.W.Frag) (aT : Addr) : Prop := ∀ e : Ex, ∃ b, KDct K w aT (exWord e) (.ref b) ∧ ∀ H, SqT K H b ((exKinds e).map V.str)
def TabS (w : World) (K : PySem.W.Frag) (aT : Addr) : Prop := ∀ x : Sm, ∃ b, KDct K w aT (Sm.word x) (.ref b) ∧ ∀ H, SqT K H b ((smKinds x).map V.str)
def spCB : Sp := fun vs H Q _ => ∃ k : Int, vs = [.int k] ∧ boxR k ∧ Q .non H
def spCF : Sp := fun vs H Q _ => ∃ (f : Int) (n : Nat), vs = [.int f, .int (n : Nat)] ∧ 0 ≤ f ∧ f < (n : Int) ∧ Q .non H
def spCE (K : PySem.W.Frag) (m : Nat) : Sp := fun vs H Q _ => ∃ (W : List Addr) (R0 B0 R : Hp) (L : List (Addr × HO)) (e : Ex) (v : V) (d : Int) (n : Nat), vs = [v, .int d, .int (n : Nat)] ∧ e.dep ≤ m ∧ d + m ≤ 7 ∧ e.rng n ∧ Sta W R0 B0 R H L ∧ Dp K R v e.enc ∧
  ∀ R' H', Sta W R0 B0 R' H' L → Same R R' → Q .non H'
section
variable {P : Program} {w : World} {K : PySem.W.Frag} {mg : Str → Option Value} {base : Heap}
theorem ca_cb (D : Df K mg "_check_box" (top 19)) (g_BOXES : ∃ t, mg "BOXES" = some (.int 4 t)) : Ca P w K mg base CX0 1 "_check_box" spCB := by
  have sc : FnScope ["box"] ["box"] (defScope (top 19)) := ⟨rfl, rfl, rfl, by decide +kernel, rfl, by decide +kernel, by decide +kernel⟩
  have nd := sc.nd
  refine D.ca0 sc (fun _ _ _ _ _ _ us hl => match us, hl with | [_], _ => rfl) (fun vs H Q E h => by obtain ⟨_, rfl, _⟩ := h; rfl) (fun f cdv A outer s H vs Q E hr h => ?_)
  obtain ⟨k, rfl, ⟨h1, h2⟩, q⟩ := h
  refine ⟨_, (pss_one (ps_if (pt_not (pt_chain op_le op_lt pe_int (pv 0) (pe_gi rfl g_BOXES))) (pss_one ps_never) pss_nil)), ?_⟩
  refine U.w_start (σ' := [some _]) rfl ?_
  walk_at "st"
  walk_at "go"
  refine it_pos h1 ?_
  walk_at "go"
  refine itn_pos h2 ?_
  walk_at "go"
  exact q
theorem ca_cf (D : Df K mg "_check_function" (top 20)) : Ca P w K mg base CX0 1 "_check_function" spCF := by
  have sc : FnScope ["function", "functions"] ["function", "functions"] (defScope (top 20)) := ⟨rfl, rfl, rfl, by decide +kernel, rfl, by decide +kernel, by decide +kernel⟩
  have nd := sc.nd
  refine D.ca0 sc (fun _ _ _ _ _ _ us hl => match us, hl with | [_, _], _ => rfl) (fun vs H Q E h => by obtain ⟨_, _, rfl, _⟩ := h; rfl) (fun f cdv A outer s H vs Q E hr h => ?_)
  obtain ⟨f, n, rfl, h1, h2, q⟩ := h
  refine ⟨_, (pss_one (ps_if (pt_not (pt_chain op_le op_lt pe_int (pv 0) (pv 1))) (pss_one ps_never) pss_nil)), ?_⟩
  refine U.w_start (σ' := [some _, some _]) rfl ?_
  walk_at "st"
  walk_at "go"
  refine it_pos h1 ?_
  walk_at "go"
  refine itn_pos h2 ?_
  walk_at "go"
  exact q
theorem ca_ce_no (D : Df K mg "_check_expression" (top 18)) : Ca P w K mg base CX0 2 "_check_expression" (spCE K 0) := by
  have hd : ∀ e : Ex, ¬ e.dep ≤ 0 := fun e => by cases e <;> simp [Ex.dep]
  have sc : FnScope ["expression", "depth", "functions", "kind", "part"] ["expression", "depth", "functions"] (defScope (top 18)) := ⟨rfl, rfl, rfl, by decide +kernel, rfl, by decide +kernel, by decide +kernel⟩
  exact D.ca0 (k := 1) sc (fun _ _ _ _ _ _ us hl => match us, hl with | [_, _, _], _ => rfl) (fun _ _ _ _ h => by obtain ⟨_, _, _, _, _, _, _, _, _, _, h, _⟩ := h; exact absurd h (hd _)) (fun _ _ _ _ _ _ _ _ _ _ h => by obtain ⟨_, _, _, _, _, _, _, _, _, _, h, _⟩ := h; exact absurd h (hd _))
theorem ca_ce1 (B : Bi mg) (D : Df K mg "_check_expression" (top 18)) {aE : Addr} (g_EXPRESSIONS : mg "EXPRESSIONS" = some (.ref aE)) (g_MOST_PARTS : ∃ t, mg "MOST_PARTS" = some (.int 6 t)) (tab : TabE w K aE) (c__check_box : Ca P w K mg base CX0 1 "_check_box" spCB) (c__check_function : Ca P w K mg base CX0 1 "_check_function" spCF) (m : Nat) (c__check_expression : Ca P w K mg base CX0 (m + 2) "_check_expression" (spCE K m)) : Ca P w K mg base CX0 (m + 3) "_check_expression" (spCE K (m + 1)) := by
  have sc : FnScope ["expression", "depth", "functions", "kind", "part"] ["expression", "depth", "functions"] (defScope (top 18)) := ⟨rfl, rfl, rfl, by decide +kernel, rfl, by decide +kernel, by decide +kernel⟩
  have nd := sc.nd
  refine D.ca0 sc (fun _ _ _ _ _ _ us hl => match us, hl with | [_, _, _], _ => rfl) (fun vs H Q E h => by obtain ⟨_, _, _, _, _, _, _, _, _, rfl, _⟩ := h; rfl) (fun f cdv A outer s H vs Q E hr h => ?_)
  obtain ⟨W, R0, B0, R, L, e, v, d, n, rfl, hm, hd, hr', S, hv, q⟩ := h
  refine ⟨_, (pss_cons (ps_if (pt_cmpR op_gt (pv 1) (pe_gi rfl g_MOST_PARTS) (nomark _)) (pss_one ps_never) pss_nil)
    (pss_one (ps_for PassesOwn.never rfl (pi_zipA (by rfl) B.zip (pa_cons (pe_ix ix_kdict (pe_gr rfl g_EXPRESSIONS) (pe_ix ix_lt (pv 0) pe_int (fun _ _ => rfl)) (fun _ _ => rfl)) (pa_cons (pe_slice sl_tup (pv 0) (po_some pe_int) po_none) pa_nil))) (pg_tup rfl (pgs_cons (pg_name (i := 3) nd rfl (by first | exact Or.inl rfl | exact Or.inr rfl)) (pgs_cons (pg_name (i := 4) nd rfl (by first | exact Or.inl rfl | exact Or.inr rfl)) pgs_nil))) (pss_one (ps_if (pt_cmpR op_eq (pv 3) pe_str (nomark _)) (pss_one (ps_expr (pe_ca c__check_box hr (by omega) rfl pass0 (pa_cons (pv 4) pa_nil)))) (pss_one (ps_if (pt_cmpR op_eq (pv 3) pe_str (nomark _)) (pss_one (ps_expr (pe_ca c__check_function hr (by omega) rfl pass0 (pa_cons (pv 4) (pa_cons (pv 2) pa_nil))))) (pss_one (ps_if (pt_cmpR op_eq (pv 3) pe_str (nomark _)) (pss_one (ps_expr (pe_ca c__check_expression hr (by omega) rfl pass0 (pa_cons (pv 4) (pa_cons (pe_op op_add (pv 1) pe_int) (pa_cons (pv 2) pa_nil)))))) pss_nil))))))))), ?_⟩
  refine U.w_start (σ' := [some _, some _, some _, none, none]) rfl ?_
  walk_at "st"
  obtain ⟨p, vs, rfl, hT, hl, hP⟩ := ex_parts hv hm hr'
  walk_at "go"
  walk_at "if"
  refine it_neg (by omega) ?_
  walk_at "go"
  obtain ⟨b, hk, hb⟩ := tab e
  refine w_iZ ?_
  walk_at "go"
  refine w_ixD hk ?_
  walk_at "go"
  refine w_slT (Same.seqT S.sub' hT) fun zp nzp => ?_
  walk_at "go"
  have S1 := S.newR nzp (.tup vs)
  have hz1 : SqT K (upd R zp (.tup vs)) zp vs := SqT.of upd_same
  have s1 : Same R (upd R zp (.tup vs)) := same_new (S.nR nzp) _
  generalize upd R zp (.tup vs) = R1 at *
  refine for_Z (fun i σ' H' => ∃ R' v3 v4, σ' = [some (.ref p), some (.int d), some (.int (n : Nat)), v3, v4] ∧ Sta W R0 B0 R' H' L ∧ Same R1 R') (hb _) (Same.seqT S1.sub' hz1) (by rw [List.length_map, hl]) ⟨R1, none, none, rfl, S1, Same.refl _⟩ (fun i σ' H' hp => ?_) (fun i x y T σ' H' hx hy hp nT => ?_) (fun σ' H' hp => ?_)
  · obtain ⟨R', v3, v4, rfl, S2, s2⟩ := hp
    exact ⟨hb _, Same.seqT (s2.trans S2.sub') hz1⟩
  · obtain ⟨R', v3, v4, rfl, S2, s2⟩ := hp
    rw [List.getElem?_map] at hx
    obtain ⟨kd, hkd, rfl⟩ := Option.map_eq_some_iff.mp hx
    have S3 := S2.newX nT (.tup [.str kd, y])
    have pt := hP i kd y hkd hy
    cases pt with
    | num v =>
      walk_at "go"
      exact ⟨R', _, _, rfl, S3, s2⟩
    | box k h =>
      walk_at "go"
      refine ⟨k, rfl, h, ?_⟩
      walk_at "go"
      exact ⟨R', _, _, rfl, S3, s2⟩
    | fn f h1 h2 =>
      walk_at "go"
      refine ⟨f, n, rfl, h1, h2, ?_⟩
      walk_at "go"
      exact ⟨R', _, _, rfl, S3, s2⟩
    | ex e' v h1 h2 h3 =>
      walk_at "go"
      refine ⟨W, R0, B0, R', L, e', y, d + 1, n, rfl, h1, by omega, h2, S3, h3.up (s1.trans s2), fun R4 H4 S4 s4 => ?_⟩
      walk_at "go"
      exact ⟨R4, _, _, rfl, S4, s2.trans s4⟩
  · obtain ⟨R', v3, v4, rfl, S2, s2⟩ := hp
    exact q _ _ S2 (s1.trans s2)
theorem ca_ce (B : Bi mg) (D : Df K mg "_check_expression" (top 18)) {aE : Addr} (g_EXPRESSIONS : mg "EXPRESSIONS" = some (.ref aE)) (g_MOST_PARTS : ∃ t, mg "MOST_PARTS" = some (.int 6 t)) (tab : TabE w K aE) (cb : Ca P w K mg base CX0 1 "_check_box" spCB) (cf : Ca P w K mg base CX0 1 "_check_function" spCF) : ∀ m : Nat, Ca P w K mg base CX0 (m + 2) "_check_expression" (spCE K m)
  | 0 => ca_ce_no D
  | m + 1 => ca_ce1 B D g_EXPRESSIONS g_MOST_PARTS tab cb cf m (ca_ce B D g_EXPRESSIONS g_MOST_PARTS tab cb cf m)
/-! ### statements, blocks -/
def spCS (K : PySem.W.Frag) (m : Nat) : Sp := fun vs H Q _ => ∃ (W : List Addr) (R0 B0 R : Hp) (L : List (Addr × HO)) (x : Sm) (v : V) (d : Int) (lp : Bool) (n : Nat), vs = [v, .int d, .bl lp, .int (n : Nat)] ∧ x.ok lp m ∧ d + m ≤ 8 ∧ x.rng n ∧ Sta W R0 B0 R H L ∧ Dp K R v x.enc ∧
  ∀ R' H', Sta W R0 B0 R' H' L → Same R R' → Q .non H'
def spCK (K : PySem.W.Frag) (m : Nat) : Sp := fun vs H Q _ => ∃ (W : List Addr) (R0 B0 R : Hp) (L : List (Addr × HO)) (l : List Sm) (v : V) (d : Int) (lp : Bool) (n : Nat), vs = [v, .int d, .bl lp, .int (n : Nat)] ∧ okL l lp m ∧ d + m ≤ 9 ∧ rngL n l ∧ Sta W R0 B0 R H L ∧ Dp K R v (.list (encL l)) ∧
  ∀ R' H', Sta W R0 B0 R' H' L → Same R R' → Q .non H'
theorem ca_ck_no (D : Df K mg "_check_block" (top 16)) : Ca P w K mg base CX0 8 "_check_block" (spCK K 0) := by
  have sc : FnScope ["block", "depth", "looped", "functions", "statement"] ["block", "depth", "looped", "functions"] (defScope (top 16)) := ⟨rfl, rfl, rfl, by decide +kernel, rfl, by decide +kernel, by decide +kernel⟩
  exact D.ca0 (k := 7) sc (fun _ _ _ _ _ _ us hl => match us, hl with | [_, _, _, _], _ => rfl) (fun _ _ _ _ h => by obtain ⟨_, _, _, _, _, _, _, _, _, _, _, h, _⟩ := h; exact absurd (okL_pos h) (Nat.lt_irrefl _)) (fun _ _ _ _ _ _ _ _ _ _ h => by obtain ⟨_, _, _, _, _, _, _, _, _, _, _, h, _⟩ := h; exact absurd (okL_pos h) (Nat.lt_irrefl _))
theorem rngL_get {n : Nat} : ∀ {l : List Sm} {i : Nat} {x : Sm}, rngL n l → l[i]? = some x → x.rng n
  | [], _, _, _, h => by cases h
  | y :: r, 0, x, h, e => by rw [rngL] at h; cases e; exact h.1
  | y :: r, i + 1, x, h, e => by rw [rngL] at h; exact rngL_get h.2 e
theorem ca_ck1 (D : Df K mg "_check_block" (top 16)) (g_MOST_BLOCKS : ∃ t, mg "MOST_BLOCKS" = some (.int 8 t)) (m : Nat) (c__check_statement : Ca P w K mg base CX0 (2 * m + 9) "_check_statement" (spCS K m)) : Ca P w K mg base CX0 (2 * m + 10) "_check_block" (spCK K (m + 1)) := by
  have sc : FnScope ["block", "depth", "looped", "functions", "statement"] ["block", "depth", "looped", "functions"] (defScope (top 16)) := ⟨rfl, rfl, rfl, by decide +kernel, rfl, by decide +kernel, by decide +kernel⟩
  have nd := sc.nd
  refine D.ca0 sc (fun _ _ _ _ _ _ us hl => match us, hl with | [_, _, _, _], _ => rfl) (fun vs H Q E h => by obtain ⟨_, _, _, _, _, _, _, _, _, _, rfl, _⟩ := h; rfl) (fun f cdv A outer s H vs Q E hr h => ?_)
  obtain ⟨W, R0, B0, R, L, l, v, d, lp, n, rfl, hk, hd, hr', S, hv, q⟩ := h
  refine ⟨_, (pss_cons (ps_if (pt_cmpR op_gt (pv 1) (pe_gi rfl g_MOST_BLOCKS) (nomark _)) (pss_one ps_never) pss_nil)
    (pss_one (ps_for PassesOwn.never rfl (pi_list (pv 0)) (pg_name (i := 4) nd rfl (by first | exact Or.inl rfl | exact Or.inr rfl)) (pss_one (ps_expr (pe_ca c__check_statement hr (by omega) rfl pass0 (pa_cons (pv 4) (pa_cons (pv 1) (pa_cons (pv 2) (pa_cons (pv 3) pa_nil)))))))))), ?_⟩
  refine U.w_start (σ' := [some _, some _, some _, some _, none]) rfl ?_
  walk_at "st"
  obtain ⟨p, vs, rfl, hT, hD⟩ := dp_lst hv
  have hlen : vs.length = l.length := by rw [hD.len, encL_len]
  walk_at "go"
  walk_at "if"
  refine it_neg (by omega) ?_
  walk_at "go"
  refine for_L (fun i σ' H' => ∃ R' v3, σ' = [some (.ref p), some (.int d), some (.bl lp), some (.int (n : Nat)), v3] ∧ Sta W R0 B0 R' H' L ∧ Same R R') (Same.seqL S.sub' hT) ⟨R, none, rfl, S, Same.refl _⟩ (fun i σ' H' _ hp => ?_) (fun i y σ' H' hy hp => ?_) (fun σ' H' hp => ?_)
  · obtain ⟨R', v3, rfl, S1, s1⟩ := hp
    exact Same.seqL (s1.trans S1.sub') hT
  · obtain ⟨R', v3, rfl, S1, s1⟩ := hp
    obtain ⟨dd, hdd, hdx⟩ := hD.get hy
    rw [encL_map, List.getElem?_map] at hdd
    obtain ⟨x, hx, rfl⟩ := Option.map_eq_some_iff.mp hdd
    walk_at "go"
    refine ⟨W, R0, B0, R', L, x, y, d, lp, n, rfl, okL_get hk hx, by omega, rngL_get hr' hx, S1, hdx.up s1, fun R4 H4 S4 s4 => ?_⟩
    walk_at "go"
    exact ⟨R4, _, rfl, S4, s1.trans s4⟩
  · obtain ⟨R', v3, rfl, S1, s1⟩ := hp
    exact q _ _ S1 s1
def smWay : Sm → Bool
  | .leave => true
  | .next => true
  | _ => false
theorem inV_way : ∀ x : Sm, inV (.str (Sm.word x)) [.str "leave", .str "next"] = smWay x := by
  have h : ∀ s : String, s ≠ "leave" → s ≠ "next" → (s = "set" ∨ s = "say" ∨ s = "raise" ∨ s = "if" ∨ s = "loop" ∨ s = "give" ∨ s = "catch" ∨ s = "end") → inV (.str s) [.str "leave", .str "next"] = false := by
    rintro s h1 h2 (rfl | rfl | rfl | rfl | rfl | rfl | rfl | rfl) <;> decide +kernel
  intro x
  cases x with
  | set _ _ => exact h "set" (by decide) (by decide) (by simp)
  | say _ => exact h "say" (by decide) (by decide) (by simp)
  | raise _ => exact h "raise" (by decide) (by decide) (by simp)
  | give _ => exact h "give" (by decide) (by decide) (by simp)
  | iff _ _ _ => exact h "if" (by decide) (by decide) (by simp)
  | loop _ _ => exact h "loop" (by decide) (by decide) (by simp)
  | «catch» _ _ _ _ => exact h "catch" (by decide) (by decide) (by simp)
  | endd _ _ => exact h "end" (by decide) (by decide) (by simp)
  | leave => show inV (.str "leave") [.str "leave", .str "next"] = true; decide +kernel
  | next => show inV (.str "next") [.str "leave", .str "next"] = true; decide +kernel
theorem w_eqS {x y : Str} {b : Bool} {H : Hp} {Q : VK} (e : decide (V.str x = V.str y) = b) (h : Q (.bl b) H) : rEq (.str x) (.str y) H Q := ⟨rfl, by rw [e]; exact h⟩
theorem eq_loop : ∀ x : Sm, decide (V.str (Sm.word x) = V.str "loop") = smLoop x := by
  have h : ∀ s : String, (s = "set" ∨ s = "say" ∨ s = "raise" ∨ s = "if" ∨ s = "leave" ∨ s = "next" ∨ s = "give" ∨ s = "catch" ∨ s = "end") → decide (V.str s = V.str "loop") = false := by
    rintro s (rfl | rfl | rfl | rfl | rfl | rfl | rfl | rfl | rfl) <;> decide +kernel
  intro x
  cases x with
  | set _ _ => exact h "set" (by simp)
  | say _ => exact h "say" (by simp)
  | raise _ => exact h "raise" (by simp)
  | give _ => exact h "give" (by simp)
  | iff _ _ _ => exact h "if" (by simp)
  | loop _ _ => show decide (V.str "loop" = V.str "loop") = true; decide +kernel
  | «catch» _ _ _ _ => exact h "catch" (by simp)
  | endd _ _ => exact h "end" (by simp)
  | leave => exact h "leave" (by simp)
  | next => exact h "next" (by simp)
theorem lp_if {c : Bool} {A B : Prop} (h1 : c = true → A) (h2 : c = false → B) : if c = true then A else B := by
  cases c
  · exact w_itF (h2 rfl)
  · exact w_itT (h1 rfl)
theorem way_if {c : Bool} {A B : Prop} (h1 : c = true → A) (h2 : B) : if c = true then A else B := by
  by_cases h : c = true
  · rw [if_pos h]; exact h1 h
  · rw [if_neg h]; exact h2
theorem ca_cs (B : Bi mg) (D : Df K mg "_check_statement" (top 17)) {aT : Addr} (g_STATEMENTS : mg "STATEMENTS" = some (.ref aT)) (tab : TabS w K aT) (c__check_box : Ca P w K mg base CX0 1 "_check_box" spCB) (c__check_expression : Ca P w K mg base CX0 8 "_check_expression" (spCE K 6)) (m : Nat) (c__check_block : Ca P w K mg base CX0 (2 * m + 8) "_check_block" (spCK K m)) : Ca P w K mg base CX0 (2 * m + 9) "_check_statement" (spCS K m) := by
  have sc : FnScope ["statement", "depth", "looped", "functions", "word", "kind", "part"] ["statement", "depth", "looped", "functions"] (defScope (top 17)) := ⟨rfl, rfl, rfl, by decide +kernel, rfl, by decide +kernel, by decide +kernel⟩
  have nd := sc.nd
  refine D.ca0 sc (fun _ _ _ _ _ _ us hl => match us, hl with | [_, _, _, _], _ => rfl) (fun vs H Q E h => by obtain ⟨_, _, _, _, _, _, _, _, _, _, rfl, _⟩ := h; rfl) (fun f cdv A outer s H vs Q E hr h => ?_)
  obtain ⟨W, R0, B0, R, L, x, v, d, lp, n, rfl, hk, hd, hr', S, hv, q⟩ := h
  refine ⟨_, (pss_cons (ps_set (i := 4) nd rfl (by first | exact Or.inl rfl | exact Or.inr rfl) (pe_ix ix_lt (pv 0) pe_int (fun _ _ => rfl)))
    (pss_cons (ps_if (PW.pt (pw_and (pt_cmpR op_in_seq (pv 4) (pe_tup (pa_cons pe_str (pa_cons pe_str pa_nil))) rfl) (pw_and1 (pt_not (pt_val (pv 2)))))) (pss_one ps_never) pss_nil)
    (pss_one (ps_for PassesOwn.never rfl (pi_zipA (by rfl) B.zip (pa_cons (pe_ix ix_kdict (pe_gr rfl g_STATEMENTS) (pv 4) (fun _ _ => rfl)) (pa_cons (pe_slice sl_tup (pv 0) (po_some pe_int) po_none) pa_nil))) (pg_tup rfl (pgs_cons (pg_name (i := 5) nd rfl (by first | exact Or.inl rfl | exact Or.inr rfl)) (pgs_cons (pg_name (i := 6) nd rfl (by first | exact Or.inl rfl | exact Or.inr rfl)) pgs_nil))) (pss_one (ps_if (pt_cmpR op_eq (pv 5) pe_str (nomark _)) (pss_one (ps_expr (pe_ca c__check_box hr (by omega) rfl pass0 (pa_cons (pv 6) pa_nil)))) (pss_one (ps_if (pt_cmpR op_eq (pv 5) pe_str (nomark _)) (pss_one (ps_expr (pe_ca c__check_expression hr (by omega) rfl pass0 (pa_cons (pv 6) (pa_cons pe_int (pa_cons (pv 3) pa_nil)))))) (pss_one (ps_if (pt_cmpR op_eq (pv 5) pe_str (nomark _)) (pss_one (ps_expr (pe_ca c__check_block hr (by omega) rfl pass0 (pa_cons (pv 6) (pa_cons (pe_op op_add (pv 1) pe_int) (pa_cons (pe_or (pv 2) (pe_one (pe_cmpR op_eq (pv 4) pe_str (nomark _)))) (pa_cons (pv 3) pa_nil))))))) pss_nil)))))))))), ?_⟩
  refine U.w_start (σ' := [some _, some _, some _, some _, none, none, none]) rfl ?_
  walk_at "st"
  obtain ⟨p, vs, rfl, hT, hl, hP⟩ := sm_parts hv hk hr'
  walk_at "go"
  refine w_ifJ (by walk_at "set") (fun σ' H' => σ' = [some (.ref p), some (.int d), some (.bl lp), some (.int (n : Nat)), some (.str (Sm.word x)), none, none] ∧ Sta W R0 B0 R H' L) (fun nx' hn => ?_) (fun σ' H' hp => ?_)
  · walk_at "go"
    intro zt nzt
    have S1 := S.newX nzt (.tup [.str "leave", .str "next"])
    refine w_inT (b := smWay x) (SqT.of upd_same) rfl rfl (inV_way x) ?_
    walk_at "go"
    refine way_if (c := smWay x) (fun hw => ?_) ?_
    · have e : lp = true := by
        cases x <;> first
          | (clear hP hl hr' hv q; rw [Sm.ok] at hk; exact hk)
          | cases hw
      subst e
      walk_at "go"
      exact hn _ _ ⟨rfl, S1⟩
    · walk_at "go"
      exact hn _ _ ⟨rfl, S1⟩
  obtain ⟨rfl, S1⟩ := hp
  walk_at "go"
  obtain ⟨b, hkd, hb⟩ := tab x
  refine w_iZ ?_
  walk_at "go"
  refine w_ixD hkd ?_
  walk_at "go"
  refine w_slT (Same.seqT S1.sub' hT) fun zp nzp => ?_
  walk_at "go"
  have S2 := S1.newR nzp (.tup vs)
  have hz1 : SqT K (upd R zp (.tup vs)) zp vs := SqT.of upd_same
  have s1 : Same R (upd R zp (.tup vs)) := same_new (S1.nR nzp) _
  generalize upd R zp (.tup vs) = R1 at *
  refine for_Z (fun i σ' H' => ∃ R' v3 v4, σ' = [some (.ref p), some (.int d), some (.bl lp), some (.int (n : Nat)), some (.str (Sm.word x)), v3, v4] ∧ Sta W R0 B0 R' H' L ∧ Same R1 R') (hb _) (Same.seqT S2.sub' hz1) (by rw [List.length_map, hl]) ⟨R1, none, none, rfl, S2, Same.refl _⟩ (fun i σ' H' hp => ?_) (fun i z y T σ' H' hx hy hp nT => ?_) (fun σ' H' hp => ?_)
  · obtain ⟨R', v3, v4, rfl, S3, s2⟩ := hp
    exact ⟨hb _, Same.seqT (s2.trans S3.sub') hz1⟩
  · obtain ⟨R', v3, v4, rfl, S3, s2⟩ := hp
    rw [List.getElem?_map] at hx
    obtain ⟨kd, hkd, rfl⟩ := Option.map_eq_some_iff.mp hx
    have S4 := S3.newX nT (.tup [.str kd, y])
    have pt := hP i kd y hkd hy
    cases pt with
    | num v =>
      walk_at "go"
      exact ⟨R', _, _, rfl, S4, s2⟩
    | box k h =>
      walk_at "go"
      refine ⟨k, rfl, h, ?_⟩
      walk_at "go"
      exact ⟨R', _, _, rfl, S4, s2⟩
    | ex e' v h1 h2 h3 =>
      walk_at "go"
      refine ⟨W, R0, B0, R', L, e', y, 1, n, rfl, h1, by omega, h2, S4, h3.up (s1.trans s2), fun R5 H5 S5 s5 => ?_⟩
      walk_at "go"
      exact ⟨R5, _, _, rfl, S5, s2.trans s5⟩
    | blk l' v h1 h2 h3 =>
      walk_at "go"
      refine lp_if (c := lp) (fun e => ?_) (fun e => ?_)
      · subst e
        rw [Bool.true_or] at h1
        walk_at "go"
        refine ⟨W, R0, B0, R', L, l', y, d + 1, true, n, rfl, h1, by omega, h2, S4, h3.up (s1.trans s2), fun R5 H5 S5 s5 => ?_⟩
        walk_at "go"
        exact ⟨R5, _, _, rfl, S5, s2.trans s5⟩
      · subst e
        rw [Bool.false_or] at h1
        walk_at "go"
        refine w_eqS (b := smLoop x) (eq_loop x) ?_
        walk_at "go"
        refine ⟨W, R0, B0, R', L, l', y, d + 1, smLoop x, n, rfl, h1, by omega, h2, S4, h3.up (s1.trans s2), fun R5 H5 S5 s5 => ?_⟩
        walk_at "go"
        exact ⟨R5, _, _, rfl, S5, s2.trans s5⟩
  · obtain ⟨R', v3, v4, rfl, S3, s2⟩ := hp
    exact q _ _ S3 (s1.trans s2)
end
end CK

namespace CK
open PySem PySem.Spec PyProof.Rows L2 U MM TR M RZ He
section
variable {P : Program} {w : World} {K : PySem.W.Frag} {mg : Str → Option Value} {base : Heap} {aT aE : Addr}
/-- all that stands of what looks through -/
structure ChkD (w : World) (K : PySem.W.Frag) (mg : Str → Option Value) (aT aE : Addr) : Prop where
  boxes : ∃ t, mg "BOXES" = some (.int 4 t)
  blocks : ∃ t, mg "MOST_BLOCKS" = some (.int 8 t)
  parts : ∃ t, mg "MOST_PARTS" = some (.int 6 t)
  stm : mg "STATEMENTS" = some (.ref aT)
  exp : mg "EXPRESSIONS" = some (.ref aE)
  tabS : TabS w K aT
  tabE : TabE w K aE
  box : Df K mg "_check_box" (top 19)
  func : Df K mg "_check_function" (top 20)
  expr : Df K mg "_check_expression" (top 18)
  smt : Df K mg "_check_statement" (top 17)
  block : Df K mg "_check_block" (top 16)
  chk : Df K mg "checked" (top 15)
theorem ca_ck (B : Bi mg) (D : ChkD w K mg aT aE) : ∀ m : Nat, Ca P w K mg base CX0 (2 * m + 8) "_check_block" (spCK K m)
  | 0 => ca_ck_no D.block
  | m + 1 => ca_ck1 D.block D.blocks m (ca_cs B D.smt D.stm D.tabS (ca_cb D.box D.boxes) (ca_ce B D.expr D.exp D.parts D.tabE (ca_cb D.box D.boxes) (ca_cf D.func) 6) m (ca_ck B D m))
theorem ca_chk (B : Bi mg) (D : Df K mg "checked" (top 15)) (c__check_block : Ca P w K mg base CX0 24 "_check_block" (spCK K 8)) : Ca P w K mg base CX0 40 "checked" (CM.spChk K GdP) := by
  refine Ca.mono (j := 25) ?_ (by decide)
  have sc : FnScope ["program", "block"] ["program"] (defScope (top 15)) := ⟨rfl, rfl, rfl, by decide +kernel, rfl, by decide +kernel, by decide +kernel⟩
  have nd := sc.nd
  refine D.ca0 sc (fun _ _ _ _ _ _ us hl => match us, hl with | [_], _ => rfl) (fun vs H Q E h => by obtain ⟨_, _, _, _, _, _, _, rfl, _⟩ := h; rfl) (fun f cdv A outer s H vs Q E hr h => ?_)
  obtain ⟨W, R0, B0, R, L, pg, v, rfl, ⟨ne, gd⟩, S, hv, q⟩ := h
  refine ⟨_, (pss_cons (ps_if (pt_not (pt_tru (pv 0))) (pss_one ps_never) pss_nil)
    (pss_one (ps_for PassesOwn.never rfl (pi_list (pv 0)) (pg_name (i := 1) nd rfl (by first | exact Or.inl rfl | exact Or.inr rfl)) (pss_one (ps_expr (pe_ca c__check_block hr (by omega) rfl pass0 (pa_cons (pv 1) (pa_cons pe_int (pa_cons pe_bl (pa_cons (pe_callB call_lenA rfl B.len PySem.boot_len (pa_cons (pv 0) pa_nil)) pa_nil)))))))))), ?_⟩
  refine U.w_start (σ' := [some _, none]) rfl ?_
  walk_at "st"
  obtain ⟨p, vs, rfl, hT, hD⟩ := dp_lst hv
  have hlen : vs.length = pg.length := by rw [hD.len, List.length_map]
  walk_at "go"
  walk_at "if"
  have e0 : vs.isEmpty = false := by
    cases vs with
    | nil => exact absurd (List.length_eq_zero_iff.mp hlen.symm) ne
    | cons _ _ => rfl
  rw [e0, show (!!false) = false from rfl]
  walk_at "go"
  refine for_L (fun i σ' H' => ∃ R' v3, σ' = [some (.ref p), v3] ∧ Sta W R0 B0 R' H' L ∧ Same R R') (Same.seqL S.sub' hT) ⟨R, none, rfl, S, Same.refl _⟩ (fun i σ' H' _ hp => ?_) (fun i y σ' H' hy hp => ?_) (fun σ' H' hp => ?_)
  · obtain ⟨R', v3, rfl, S1, s1⟩ := hp
    exact Same.seqL (s1.trans S1.sub') hT
  · obtain ⟨R', v3, rfl, S1, s1⟩ := hp
    obtain ⟨dd, hdd, hdx⟩ := hD.get hy
    rw [List.getElem?_map] at hdd
    obtain ⟨b, hb, rfl⟩ := Option.map_eq_some_iff.mp hdd
    have gb := gd b (List.mem_of_getElem? hb)
    walk_at "go"
    refine w_lenL (Same.seqL (s1.trans S1.sub') hT) ?_
    rw [hlen]
    refine ⟨W, R0, B0, R', L, b, y, 1, false, pg.length, rfl, gb.1, by omega, gb.2, S1, hdx.up s1, fun R4 H4 S4 s4 => ?_⟩
    walk_at "go"
    exact ⟨R4, _, rfl, S4, s1.trans s4⟩
  · obtain ⟨R', v3, rfl, S1, s1⟩ := hp
    exact q _ _ S1 s1
theorem ca_checked (B : Bi mg) (D : ChkD w K mg aT aE) : Ca P w K mg base CX0 40 "checked" (CM.spChk K GdP) := ca_chk B D.chk (ca_ck B D 8)
end
/-! ### from what the head tells -/
section
variable {ws : List Wd} {ts : List Tab} {ex : PySem.W.Frag → Bool} {w : World} {K : PySem.W.Frag} {h : Heap} {mg : Str → Option Value}
theorem chkD_of (X : K.In h) (G : h.Ns mainGlobals mg) (c : SaysU (faU ws) (fnU ws) ts ex w K) (hw : ∀ d ∈ kW, d ∈ ws) (i j : Nat) (hi : ts[i]? = some stT) (hj : ts[j]? = some exT) (hx : kX K = true) : ChkD w K mg (ga K "STATEMENTS") (ga K "EXPRESSIONS") := by
  obtain ⟨h1, h2⟩ := ba hx
  have m : ∀ (i : Nat) (d : Wd), kW[i]? = some d → d ∈ ws := fun i d e => hw d (List.mem_of_getElem? e)
  have hs : ∀ (i : Nat) (q : Str × List Str), stR[i]? = some q → ∃ b, KDct K w (ga K "STATEMENTS") q.1 (.ref b) ∧ ∀ H, SqT K H b (q.2.map V.str) := fun k q e => tabT_u c i hi h1 (List.mem_of_getElem? e)
  have he : ∀ (i : Nat) (q : Str × List Str), exR[i]? = some q → ∃ b, KDct K w (ga K "EXPRESSIONS") q.1 (.ref b) ∧ ∀ H, SqT K H b (q.2.map V.str) := fun k q e => tabT_u c j hj h2 (List.mem_of_getElem? e)
  refine ⟨num_m X G c (m 6 _ rfl), num_m X G c (m 7 _ rfl), num_m X G c (m 8 _ rfl), any_m X G c (m 9 _ rfl), any_m X G c (m 10 _ rfl), fun x => ?_, fun x => ?_, df_m X G c (m 4 _ rfl), df_m X G c (m 5 _ rfl), df_m X G c (m 3 _ rfl), df_m X G c (m 2 _ rfl), df_m X G c (m 1 _ rfl), df_m X G c (m 0 _ rfl)⟩
  · cases x with
    | set _ _ => exact hs 0 _ rfl
    | say _ => exact hs 1 _ rfl
    | iff _ _ _ => exact hs 2 _ rfl
    | loop _ _ => exact hs 3 _ rfl
    | leave => exact hs 4 _ rfl
    | next => exact hs 5 _ rfl
    | give _ => exact hs 6 _ rfl
    | raise _ => exact hs 7 _ rfl
    | «catch» _ _ _ _ => exact hs 8 _ rfl
    | endd _ _ => exact hs 9 _ rfl
  · cases x with
    | num _ => exact he 0 _ rfl
    | box _ => exact he 1 _ rfl
    | op o _ _ => cases o with
      | add => exact he 2 _ rfl
      | sub => exact he 3 _ rfl
      | less => exact he 4 _ rfl
      | share => exact he 5 _ rfl
    | call _ _ => exact he 6 _ rfl
end
end CK

namespace CM
open PySem PySem.Spec PyProof.Rows L2 U MM TR M
/-- where a maker and its three lists lie -/
structure Gm where
  t : Addr
  dx : Addr
  aR : Addr
  aS : Addr
  aP : Addr
@[reducible] def pV : Option Nat → V
  | none => .non
  | some n => .int (n : Nat)
def encS (t : Nat × Nat × Nat) : PyData := .tuple [.int (t.1 : Nat), .int (t.2.1 : Nat), .int (t.2.2 : Nat)]
@[reducible] def mK (cK : Addr) (g : Gm) (b : Nat) : HO := .ins cK g.dx [("rows", .ref g.aR), ("stretches", .ref g.aS), ("places", .ref g.aP), ("boxes", .int (b : Nat))]
abbrev mO (cK : Addr) (g : Gm) (rv sv pv : List V) (b : Nat) (L : List (Addr × HO)) : List (Addr × HO) := (g.t, mK cK g b) :: (g.aR, .lst rv) :: (g.aS, .lst sv) :: (g.aP, .lst pv) :: L
/-- a maker, as it lies in the heap -/
structure MSt (K : PySem.W.Frag) (cK : Addr) (W : List Addr) (R0 B0 R H : Hp) (L : List (Addr × HO)) (g : Gm) (s : Mk) : Prop where
  ex : ∃ rv sv, Sta W R0 B0 R H (mO cK g rv sv (s.places.map pV) s.boxes L) ∧ DpAll K R rv (s.rows.map Rr.enc) ∧ DpAll K R sv (s.str.map encS)
def spMark (K : PySem.W.Frag) (cK : Addr) : Sp := fun vs H Q _ => ∃ (W : List Addr) (R0 B0 R : Hp) (L : List (Addr × HO)) (g : Gm) (s : Mk), vs = [.ref g.t] ∧ MSt K cK W R0 B0 R H L g s ∧ s.tot < 100000 ∧
  ∀ H', MSt K cK W R0 B0 R H' L g s.mark → Q (.int (s.places.length : Nat)) H'
def spHere (K : PySem.W.Frag) (cK : Addr) : Sp := fun vs H Q _ => ∃ (W : List Addr) (R0 B0 R : Hp) (L : List (Addr × HO)) (g : Gm) (s : Mk) (m : Nat), vs = [.ref g.t, .int (m : Nat)] ∧ MSt K cK W R0 B0 R H L g s ∧ m < s.places.length ∧
  ∀ H', MSt K cK W R0 B0 R H' L g (s.here m) → Q .non H'
def spMake (K : PySem.W.Frag) (cK : Addr) : Sp := fun vs H Q _ => ∃ (W : List Addr) (R0 B0 R H0 : Hp) (L : List (Addr × HO)) (g : Gm) (s : Mk) (T : Addr) (xs : List V) (ds : List PyData) (r : Rr), vs = [.ref g.t, .ref T] ∧ H = upd H0 T (.tup xs) ∧ H0 T = none ∧ MSt K cK W R0 B0 R H0 L g s ∧ s.tot < 100000 ∧ DpAll K R xs ds ∧ r.enc = .tuple ds ∧
  ∀ R' H', MSt K cK W R0 B0 R' H' L g (s.make r) → Same R R' → Q .non H'
section
variable {P : Program} {w : World} {K : PySem.W.Frag} {mg : Str → Option Value} {base : Heap} {cK cA : Addr}
theorem ca_mark (B : Bi mg) (D : DfM K mg "Maker" cK "mark" "Maker.mark" (inClass (top 23) 1)) (iK : CI K cK fK) : CaM P w K mg base CX0 1 cK "mark" (spMark K cK) := by
  have sc : FnScope ["self"] ["self"] (defScope (inClass (top 23) 1)) := ⟨rfl, rfl, rfl, by decide +kernel, rfl, by decide +kernel, by decide +kernel⟩
  have nd := sc.nd
  refine D.ca0 sc (fun _ _ _ _ _ _ us hl => match us, hl with | [_], _ => rfl) (fun vs H Q E h => by obtain ⟨_, _, _, _, _, _, _, rfl, _⟩ := h; rfl) (fun f cdv A outer s H vs Q E hr h => ?_)
  obtain ⟨W, R0, B0, R, L, g, s, rfl, ⟨rv, sv, S, hr1, hs1⟩, ht, q⟩ := h
  refine ⟨_, (pss_cons (ps_expr (pe_bm PySem.F.plainAttrs_list PySem.F.slot_list_append PySem.F.type_list_append mt_append (pe_fld (pv 0) rfl) (pa_cons pe_non pa_nil)))
    (pss_one (ps_ret (pe_op op_sub (pe_callB call_lenA rfl B.len PySem.boot_len (pa_cons (pe_fld (pv 0) rfl) pa_nil)) pe_int)))), ?_⟩
  refine U.w_start (σ' := [some _]) rfl ?_
  walk_at "st"
  have hl : (s.places.map pV).length < sizeLine := szlt (by rw [List.length_map]; unfold Mk.tot at ht; omega)
  have S1 := S.set 3 rfl (.lst (s.places.map pV ++ [.non]))
  walk_at "go"
  have e : (((s.places.map pV ++ [V.non]).length : Nat) : Int) - 1 = (s.places.length : Nat) := by rw [List.length_append, List.length_map, List.length_singleton]; omega
  rw [e]
  refine q _ ⟨rv, sv, ?_, hr1, hs1⟩
  have e2 : s.mark.places.map pV = s.places.map pV ++ [.non] := by unfold Mk.mark; rw [List.map_append]; rfl
  rw [e2]
  exact S1
theorem ca_here (B : Bi mg) (D : DfM K mg "Maker" cK "here" "Maker.here" (inClass (top 23) 2)) (iK : CI K cK fK) : CaM P w K mg base CX0 1 cK "here" (spHere K cK) := by
  have sc : FnScope ["self", "mark"] ["self", "mark"] (defScope (inClass (top 23) 2)) := ⟨rfl, rfl, rfl, by decide +kernel, rfl, by decide +kernel, by decide +kernel⟩
  have nd := sc.nd
  refine D.ca0 sc (fun _ _ _ _ _ _ us hl => match us, hl with | [_, _], _ => rfl) (fun vs H Q E h => by obtain ⟨_, _, _, _, _, _, _, _, rfl, _⟩ := h; rfl) (fun f cdv A outer s H vs Q E hr h => ?_)
  obtain ⟨W, R0, B0, R, L, g, s, m, rfl, ⟨rv, sv, S, hr1, hs1⟩, hm, q⟩ := h
  refine ⟨_, (pss_one (ps_asg (pe_callB call_lenA rfl B.len PySem.boot_len (pa_cons (pe_fld (pv 0) rfl) pa_nil)) (pg_sub (pe_fld (pv 0) rfl) (pv 1) set_list))), ?_⟩
  refine U.w_start (σ' := [some _, some _]) rfl ?_
  walk_at "st"
  walk_at "go"
  have hk : ixN (s.places.map pV).length ((m : Nat) : Int) = some m := ixN_nat' (by rw [List.length_map]; exact hm)
  refine w_setL (S.get 3 rfl) hk ?_
  have S1 := S.set 3 rfl (.lst ((s.places.map pV).set m (.int (rv.length : Nat))))
  refine q _ ⟨rv, sv, ?_, hr1, hs1⟩
  have e2 : (s.here m).places.map pV = (s.places.map pV).set m (.int (rv.length : Nat)) := by
    unfold Mk.here
    rw [List.map_set, hr1.len, List.length_map]
  rw [e2]
  exact S1
theorem ca_make (B : Bi mg) (D : DfM K mg "Maker" cK "make" "Maker.make" (inClass (top 23) 3)) (iK : CI K cK fK) : CaV P w K mg base CX0 1 cK "make" (spMake K cK) := by
  have sc : FnScope ["self", "row"] ["self", "row"] (defScope (inClass (top 23) 3)) := ⟨rfl, rfl, rfl, by decide +kernel, rfl, by decide +kernel, by decide +kernel⟩
  have nd := sc.nd
  refine D.caV sc rfl (fun _ _ _ _ _ _ _ us => by cases us <;> rfl) (fun f cdv A outer s H vs Q E hr h => ?_)
  obtain ⟨W, R0, B0, R, H0, L, g, s, T, xs, ds, r, rfl, rfl, nT, ⟨rv, sv, S, hr1, hs1⟩, ht, hx, hd, q⟩ := h
  refine ⟨_, (pss_one (ps_expr (pe_bm PySem.F.plainAttrs_list PySem.F.slot_list_append PySem.F.type_list_append mt_append (pe_fld (pv 0) rfl) (pa_cons (pv 1) pa_nil)))), ?_⟩
  refine U.w_start (σ' := [some _, some _]) rfl ?_
  walk_at "st"
  have hl : rv.length < sizeLine := szlt (by rw [hr1.len, List.length_map]; unfold Mk.tot at ht; omega)
  have S1 := S.newR nT (.tup xs)
  have S2 := S1.set 1 rfl (.lst (rv ++ [.ref T]))
  walk_at "go"
  refine q _ _ ⟨rv ++ [.ref T], sv, S2, ?_, S.upR nT _ hs1⟩ (same_new (S.nR nT) _)
  show DpAll K _ _ ((s.rows ++ [r]).map Rr.enc)
  rw [List.map_append, List.map_cons, List.map_nil, hd]
  exact S.row nT hr1 hx
end
end CM

namespace CM
open PySem PySem.Spec PyProof.Rows L2 U MM TR M
local macro_rules | `(tactic| walk_at "own1") => `(tactic| first
  | (with_reducible refine U.w_meV ?_)
  | walk_at "own2")
section
variable {P : Program} {w : World} {K : PySem.W.Frag} {mg : Str → Option Value} {base : Heap} {cK cA : Addr} {W : List Addr} {R0 B0 R H : Hp} {L : List (Addr × HO)} {g : Gm} {s : Mk}
theorem w_mk {Q : VK} {E : XK} {vs : List V} {ds : List PyData} {r : Rr} (M : MSt K cK W R0 B0 R H L g s) (ht : s.tot < 100000) (hl : Nat.ble vs.length 1000 = true) (hx : DpAll K R vs ds) (hd : r.enc = .tuple ds) (q : ∀ R' H', MSt K cK W R0 B0 R' H' L g (s.make r) → Same R R' → Q .non H') : MeV (spMake K cK) (.ref g.t) Q E vs H :=
  w_mV hl fun T nT => ⟨W, R0, B0, R, H, L, g, s, T, vs, ds, r, rfl, rfl, nT, M, ht, hx, hd, q⟩
def spEx (K : PySem.W.Frag) (cK : Addr) (m : Nat) : Sp := fun vs H Q _ => ∃ (W : List Addr) (R0 B0 R : Hp) (L : List (Addr × HO)) (g : Gm) (s : Mk) (e : Ex) (v : V), vs = [.ref g.t, v] ∧ e.dep ≤ m ∧ MSt K cK W R0 B0 R H L g s ∧ Dp K R v e.enc ∧ s.tot + e.sz ≤ 100000 ∧
  ∀ R' H', MSt K cK W R0 B0 R' H' L g (exC e s) → Same R R' → Q .non H'
theorem ca_ex_no (D : Df K mg "_expression" (top 28)) : Ca P w K mg base CX0 1 "_expression" (spEx K cK 0) := by
  have hd : ∀ e : Ex, ¬ e.dep ≤ 0 := fun e => by cases e <;> simp [Ex.dep]
  have sc : FnScope ["maker", "expression", "word"] ["maker", "expression"] (defScope (top 28)) := ⟨rfl, rfl, rfl, by decide +kernel, rfl, by decide +kernel, by decide +kernel⟩
  exact D.ca0 sc (fun _ _ _ _ _ _ us hl => match us, hl with | [_, _], _ => rfl) (fun _ _ _ _ h => by obtain ⟨_, _, _, _, _, _, _, _, _, _, h, _⟩ := h; exact absurd h (hd _)) (fun _ _ _ _ _ _ _ _ _ _ h => by obtain ⟨_, _, _, _, _, _, _, _, _, _, h, _⟩ := h; exact absurd h (hd _))
theorem ca_ex1 (B : Bi mg) (D : Df K mg "_expression" (top 28)) (iK : CI K cK fK) (V_make : CaV P w K mg base CX0 1 cK "make" (spMake K cK)) (m : Nat) (c__expression : Ca P w K mg base CX0 (m + 1) "_expression" (spEx K cK m)) : Ca P w K mg base CX0 (m + 2) "_expression" (spEx K cK (m + 1)) := by
  have cls_make := iK.cls
  have sc : FnScope ["maker", "expression", "word"] ["maker", "expression"] (defScope (top 28)) := ⟨rfl, rfl, rfl, by decide +kernel, rfl, by decide +kernel, by decide +kernel⟩
  have nd := sc.nd
  refine D.ca0 sc (fun _ _ _ _ _ _ us hl => match us, hl with | [_, _], _ => rfl) (fun vs H Q E h => by obtain ⟨_, _, _, _, _, _, _, _, _, rfl, _⟩ := h; rfl) (fun f cdv A outer s H vs Q E hr h => ?_)
  obtain ⟨W, R0, B0, R, L, g, s, e, v, rfl, hm, M, he, ht, q⟩ := h
  refine ⟨_, (pss_cons (ps_set (i := 2) nd rfl (by first | exact Or.inl rfl | exact Or.inr rfl) (pe_ix ix_lt (pv 1) pe_int (fun _ _ => rfl)))
    (pss_one (ps_if (pt_cmpR op_eq (pv 2) pe_str (nomark _)) (pss_one (ps_expr (pe_meV (pv 0) cls_make V_make hr (by omega) pass0 (pa_cons pe_str (pa_cons (pe_ix ix_lt (pv 1) pe_int (fun _ _ => rfl)) pa_nil))))) (pss_one (ps_if (pt_cmpR op_eq (pv 2) pe_str (nomark _)) (pss_one (ps_expr (pe_meV (pv 0) cls_make V_make hr (by omega) pass0 (pa_cons pe_str (pa_cons (pe_ix ix_lt (pv 1) pe_int (fun _ _ => rfl)) pa_nil))))) (pss_one (ps_if (pt_cmpR op_eq (pv 2) pe_str (nomark _)) (pss_cons (ps_expr (pe_ca c__expression hr (by omega) rfl pass0 (pa_cons (pv 0) (pa_cons (pe_ix ix_lt (pv 1) pe_int (fun _ _ => rfl)) pa_nil))))
    (pss_one (ps_expr (pe_meV (pv 0) cls_make V_make hr (by omega) pass0 (pa_cons pe_str (pa_cons (pe_ix ix_lt (pv 1) pe_int (fun _ _ => rfl)) pa_nil)))))) (pss_cons (ps_expr (pe_ca c__expression hr (by omega) rfl pass0 (pa_cons (pv 0) (pa_cons (pe_ix ix_lt (pv 1) pe_int (fun _ _ => rfl)) pa_nil))))
    (pss_cons (ps_expr (pe_ca c__expression hr (by omega) rfl pass0 (pa_cons (pv 0) (pa_cons (pe_ix ix_lt (pv 1) pe_int (fun _ _ => rfl)) pa_nil))))
    (pss_one (ps_expr (pe_meV (pv 0) cls_make V_make hr (by omega) pass0 (pa_cons (pv 2) pa_nil))))))))))))), ?_⟩
  refine U.w_start (σ' := [some _, some _, none]) rfl ?_
  walk_at "st"
  obtain ⟨rv, sv, S, _, _⟩ := M.ex
  cases e with
  | num n =>
    obtain ⟨p, v1, v2, rfl, hT, h1, h2⟩ := dp_tup2 he
    cases dp_str h1
    cases dp_int h2
    walk_at "go"
    rw [Ex.sz] at ht
    exact w_mk M (by omega) rfl (.cons (.str "put") (.cons (.int n) .nil)) rfl fun R1 H1 M1 s1 => q _ _ M1 s1
  | box k =>
    obtain ⟨p, v1, v2, rfl, hT, h1, h2⟩ := dp_tup2 he
    cases dp_str h1
    cases dp_int h2
    walk_at "go"
    rw [Ex.sz] at ht
    exact w_mk M (by omega) rfl (.cons (.str "get") (.cons (.int k) .nil)) rfl fun R1 H1 M1 s1 => q _ _ M1 s1
  | call f e =>
    obtain ⟨p, v1, v2, v3, rfl, hT, h1, h2, h3⟩ := dp_tup3 he
    cases dp_str h1
    cases dp_int h2
    walk_at "go"
    rw [Ex.sz] at ht
    rw [Ex.dep] at hm
    refine ⟨W, R0, B0, R, L, g, s, e, v3, rfl, by omega, M, h3, by omega, fun R1 H1 M1 s1 => ?_⟩
    obtain ⟨rv1, sv1, S1, _, _⟩ := M1.ex
    have hT1 := Same.seqT (s1.trans S1.sub') hT
    walk_at "go"
    exact w_mk M1 (by rw [tot_ex]; omega) rfl (.cons (.str "call") (.cons (.int f) .nil)) rfl fun R2 H2 M2 s2 => q _ _ M2 (s1.trans s2)
  | op o a b =>
    obtain ⟨p, v1, v2, v3, rfl, hT, h1, h2, h3⟩ := dp_tup3 he
    cases dp_str h1
    rw [Ex.sz] at ht
    rw [Ex.dep] at hm
    cases o <;> (
      simp only [Op4.word] at hT
      walk_at "go"
      refine ⟨W, R0, B0, R, L, g, s, a, v2, rfl, by omega, M, h2, by omega, fun R1 H1 M1 s1 => ?_⟩
      obtain ⟨rv1, sv1, S1, _, _⟩ := M1.ex
      have hT1 := Same.seqT (s1.trans S1.sub') hT
      walk_at "go"
      refine ⟨W, R0, B0, R1, L, g, _, b, v3, rfl, by omega, M1, h3.up s1, by rw [tot_ex]; omega, fun R2 H2 M2 s2 => ?_⟩
      obtain ⟨rv2, sv2, S2, _, _⟩ := M2.ex
      walk_at "go"
      exact w_mk M2 (by rw [tot_ex, tot_ex]; omega) rfl (.cons (.str _) .nil) rfl fun R3 H3 M3 s3 => q _ _ M3 ((s1.trans s2).trans s3))
end
end CM

namespace CM
open PySem PySem.Spec PyProof.Rows L2 U MM TR M
local macro_rules | `(tactic| walk_at "own1") => `(tactic| first
  | (with_reducible refine U.w_meV ?_)
  | walk_at "own2")
section
variable {P : Program} {w : World} {K : PySem.W.Frag} {mg : Str → Option Value} {base : Heap} {cK cA : Addr} {W : List Addr} {R0 B0 R H : Hp} {L : List (Addr × HO)} {g : Gm} {s : Mk}
theorem ca_ex (B : Bi mg) (D : Df K mg "_expression" (top 28)) (iK : CI K cK fK) (V_make : CaV P w K mg base CX0 1 cK "make" (spMake K cK)) : ∀ m : Nat, Ca P w K mg base CX0 (m + 1) "_expression" (spEx K cK m)
  | 0 => ca_ex_no D
  | m + 1 => ca_ex1 B D iK V_make m (ca_ex B D iK V_make m)
def spGoL (K : PySem.W.Frag) (cK : Addr) : Sp := fun vs H Q _ => ∃ (W : List Addr) (R0 B0 R : Hp) (L : List (Addr × HO)) (g : Gm) (s : Mk) (way mark start : Nat), vs = [.ref g.t, .int (way : Nat), .int (mark : Nat), .int (start : Nat)] ∧ MSt K cK W R0 B0 R H L g s ∧ s.tot + 3 ≤ 100000 ∧
  ∀ R' H', MSt K cK W R0 B0 R' H' L g (goLast way mark start s) → Same R R' → Q .non H'
theorem ca_goL (D : Df K mg "_go_to_last" (top 51)) (iK : CI K cK fK) (V_make : CaV P w K mg base CX0 1 cK "make" (spMake K cK)) : Ca P w K mg base CX0 2 "_go_to_last" (spGoL K cK) := by
  have cls_make := iK.cls
  have sc : FnScope ["maker", "way", "mark", "start"] ["maker", "way", "mark", "start"] (defScope (top 51)) := ⟨rfl, rfl, rfl, by decide +kernel, rfl, by decide +kernel, by decide +kernel⟩
  have nd := sc.nd
  refine D.ca0 sc (fun _ _ _ _ _ _ us hl => match us, hl with | [_, _, _, _], _ => rfl) (fun vs H Q E h => by obtain ⟨_, _, _, _, _, _, _, _, _, _, rfl, _⟩ := h; rfl) (fun f cdv A outer s H vs Q E hr h => ?_)
  obtain ⟨W, R0, B0, R, L, g, s, way, mark, start, rfl, M, ht, q⟩ := h
  refine ⟨_, (pss_cons (ps_expr (pe_meV (pv 0) cls_make V_make hr (by omega) pass0 (pa_cons pe_str (pa_cons (pv 2) pa_nil))))
    (pss_cons (ps_expr (pe_meV (pv 0) cls_make V_make hr (by omega) pass0 (pa_cons pe_str (pa_cons (pv 1) pa_nil))))
    (pss_one (ps_expr (pe_meV (pv 0) cls_make V_make hr (by omega) pass0 (pa_cons pe_str (pa_cons (pv 3) pa_nil))))))), ?_⟩
  refine U.w_start (σ' := [some _, some _, some _, some _]) rfl ?_
  walk_at "st"
  obtain ⟨rv, sv, S, _, _⟩ := M.ex
  walk_at "go"
  refine w_mk M (by omega) rfl (.cons (.str "way") (.cons (.int (mark : Nat)) .nil)) (r := .way mark) rfl fun R1 H1 M1 s1 => ?_
  obtain ⟨_, _, S1, _, _⟩ := M1.ex
  walk_at "go"
  refine w_mk M1 (by rw [tot_make]; omega) rfl (.cons (.str "set") (.cons (.int (way : Nat)) .nil)) (r := .set (way : Nat)) rfl fun R2 H2 M2 s2 => ?_
  obtain ⟨_, _, S2, _, _⟩ := M2.ex
  walk_at "go"
  exact w_mk M2 (by rw [tot_make, tot_make]; omega) rfl (.cons (.str "go") (.cons (.int (start : Nat)) .nil)) (r := .go start) rfl fun R3 H3 M3 s3 => q _ _ M3 ((s1.trans s2).trans s3)
theorem pl_here {m : Nat} : (s.here m).places.length = s.places.length := by unfold Mk.here; rw [List.length_set]
theorem pl_make {r : Rr} : (s.make r).places.length = s.places.length := rfl
theorem pl_mark : s.mark.places.length = s.places.length + 1 := by unfold Mk.mark; rw [List.length_append, List.length_singleton]
theorem pl_goLast {way mark start : Nat} : (goLast way mark start s).places.length = s.places.length := rfl
theorem pl_bring {way mark start : Nat} : (bring mark way start s).places.length = s.places.length + 1 := by unfold bring; rw [pl_goLast, pl_make, pl_here, pl_mark]
def spBring (K : PySem.W.Frag) (cK : Addr) : Sp := fun vs H Q _ => ∃ (W : List Addr) (R0 B0 R : Hp) (L : List (Addr × HO)) (g : Gm) (s : Mk) (mark way start : Nat), vs = [.ref g.t, .int (mark : Nat), .int (way : Nat), .int (start : Nat)] ∧ MSt K cK W R0 B0 R H L g s ∧ s.tot + 5 ≤ 100000 ∧ mark < s.places.length ∧
  ∀ R' H', MSt K cK W R0 B0 R' H' L g (bring mark way start s) → Same R R' → Q (.int (s.places.length : Nat)) H'
theorem ca_bring (D : Df K mg "_bring_to_last" (top 52)) (iK : CI K cK fK) (V_make : CaV P w K mg base CX0 1 cK "make" (spMake K cK)) (M_mark : CaM P w K mg base CX0 1 cK "mark" (spMark K cK)) (M_here : CaM P w K mg base CX0 1 cK "here" (spHere K cK))
    (c__go_to_last : Ca P w K mg base CX0 2 "_go_to_last" (spGoL K cK)) : Ca P w K mg base CX0 3 "_bring_to_last" (spBring K cK) := by
  have cls_make := iK.cls
  have cls_mark := iK.cls
  have cls_here := iK.cls
  obtain ⟨f_mark, fd_mark, ps_mark, F_mark, hm_mark, b_mark⟩ := M_mark.ex
  obtain ⟨f_here, fd_here, ps_here, F_here, hm_here, b_here⟩ := M_here.ex
  have sc : FnScope ["maker", "mark", "way", "start", "go_on"] ["maker", "mark", "way", "start"] (defScope (top 52)) := ⟨rfl, rfl, rfl, by decide +kernel, rfl, by decide +kernel, by decide +kernel⟩
  have nd := sc.nd
  refine D.ca0 sc (fun _ _ _ _ _ _ us hl => match us, hl with | [_, _, _, _], _ => rfl) (fun vs H Q E h => by obtain ⟨_, _, _, _, _, _, _, _, _, _, rfl, _⟩ := h; rfl) (fun f cdv A outer s H vs Q E hr h => ?_)
  obtain ⟨W, R0, B0, R, L, g, s, mark, way, start, rfl, M, ht, hm, q⟩ := h
  refine ⟨_, (pss_cons (ps_set (i := 4) nd rfl (by first | exact Or.inl rfl | exact Or.inr rfl) (pe_meth0 (pv 0) cls_mark hm_mark F_mark (hr.mono (by omega)) b_mark .nil pass0))
    (pss_cons (ps_expr (pe_meth (pv 0) cls_here hm_here F_here (hr.mono (by omega)) b_here .nil pass0 (pa_cons (pv 1) pa_nil)))
    (pss_cons (ps_expr (pe_meV (pv 0) cls_make V_make hr (by omega) pass0 (pa_cons pe_str (pa_cons (pe_op op_add (pv 2) pe_int) pa_nil))))
    (pss_cons (ps_expr (pe_ca c__go_to_last hr (by omega) rfl pass0 (pa_cons (pv 0) (pa_cons (pv 2) (pa_cons (pv 4) (pa_cons (pv 3) pa_nil))))))
    (pss_one (ps_ret (pv 4))))))), ?_⟩
  refine U.w_start (σ' := [some _, some _, some _, some _, none]) rfl ?_
  walk_at "st"
  obtain ⟨rv, sv, S, _, _⟩ := M.ex
  walk_at "go"
  refine ⟨W, R0, B0, R, L, g, s, rfl, M, by omega, fun H1 M1 => ?_⟩
  obtain ⟨_, _, S1, _, _⟩ := M1.ex
  walk_at "go"
  refine ⟨W, R0, B0, R, L, g, s.mark, mark, rfl, M1, by rw [pl_mark]; omega, fun H2 M2 => ?_⟩
  obtain ⟨_, _, S2, _, _⟩ := M2.ex
  walk_at "go"
  refine w_mk M2 (by rw [tot_here, tot_mark]; omega) rfl (.cons (.str "set") (.cons (.int ((way : Nat) + 1)) .nil)) (r := .set ((way + 1 : Nat) : Int)) (by rw [Int.natCast_add]; rfl) fun R3 H3 M3 s3 => ?_
  obtain ⟨_, _, S3, _, _⟩ := M3.ex
  walk_at "go"
  refine ⟨W, R0, B0, R3, L, g, _, way, s.places.length, start, rfl, M3, by rw [tot_make, tot_here, tot_mark]; omega, fun R4 H4 M4 s4 => ?_⟩
  walk_at "go"
  exact q _ _ M4 (s3.trans s4)
def spOth (K : PySem.W.Frag) (cK : Addr) : Sp := fun vs H Q _ => ∃ (W : List Addr) (R0 B0 R : Hp) (L : List (Addr × HO)) (g : Gm) (s : Mk) (z : Int), vs = [.ref g.t, .int z] ∧ MSt K cK W R0 B0 R H L g s ∧ s.tot + 9 ≤ 100000 ∧
  ∀ R' H', MSt K cK W R0 B0 R' H' L g (othersC z s) → Same R R' → Q .non H'
theorem ca_oth (D : Df K mg "_let_others_go_on" (top 47)) (iK : CI K cK fK) (V_make : CaV P w K mg base CX0 1 cK "make" (spMake K cK)) (M_mark : CaM P w K mg base CX0 1 cK "mark" (spMark K cK)) (M_here : CaM P w K mg base CX0 1 cK "here" (spHere K cK)) (g_BOXES : ∃ t, mg "BOXES" = some (.int 4 t)) : Ca P w K mg base CX0 2 "_let_others_go_on" (spOth K cK) := by
  have cls_make := iK.cls
  have cls_mark := iK.cls
  have cls_here := iK.cls
  obtain ⟨f_mark, fd_mark, ps_mark, F_mark, hm_mark, b_mark⟩ := M_mark.ex
  obtain ⟨f_here, fd_here, ps_here, F_here, hm_here, b_here⟩ := M_here.ex
  have sc : FnScope ["maker", "wanted", "same"] ["maker", "wanted"] (defScope (top 47)) := ⟨rfl, rfl, rfl, by decide +kernel, rfl, by decide +kernel, by decide +kernel⟩
  have nd := sc.nd
  refine D.ca0 sc (fun _ _ _ _ _ _ us hl => match us, hl with | [_, _], _ => rfl) (fun vs H Q E h => by obtain ⟨_, _, _, _, _, _, _, _, rfl, _⟩ := h; rfl) (fun f cdv A outer s H vs Q E hr h => ?_)
  obtain ⟨W, R0, B0, R, L, g, s, z, rfl, M, ht, q⟩ := h
  refine ⟨_, (pss_cons (ps_set (i := 2) nd rfl (by first | exact Or.inl rfl | exact Or.inr rfl) (pe_meth0 (pv 0) cls_mark hm_mark F_mark (hr.mono (by omega)) b_mark .nil pass0))
    (pss_cons (ps_expr (pe_meV (pv 0) cls_make V_make hr (by omega) pass0 (pa_cons pe_str (pa_cons (pe_gi rfl g_BOXES) pa_nil))))
    (pss_cons (ps_expr (pe_meV (pv 0) cls_make V_make hr (by omega) pass0 (pa_cons pe_str (pa_cons (pe_gi rfl g_BOXES) pa_nil))))
    (pss_cons (ps_expr (pe_meV (pv 0) cls_make V_make hr (by omega) pass0 (pa_cons pe_str (pa_cons (pv 1) pa_nil))))
    (pss_cons (ps_expr (pe_meV (pv 0) cls_make V_make hr (by omega) pass0 (pa_cons pe_str pa_nil)))
    (pss_cons (ps_expr (pe_meV (pv 0) cls_make V_make hr (by omega) pass0 (pa_cons pe_str (pa_cons (pv 2) pa_nil))))
    (pss_cons (ps_expr (pe_meV (pv 0) cls_make V_make hr (by omega) pass0 (pa_cons pe_str (pa_cons (pe_gi rfl g_BOXES) pa_nil))))
    (pss_cons (ps_expr (pe_meV (pv 0) cls_make V_make hr (by omega) pass0 (pa_cons pe_str pa_nil)))
    (pss_cons (ps_expr (pe_meth (pv 0) cls_here hm_here F_here (hr.mono (by omega)) b_here .nil pass0 (pa_cons (pv 2) pa_nil)))
    (pss_one (ps_expr (pe_meV (pv 0) cls_make V_make hr (by omega) pass0 (pa_cons pe_str (pa_cons (pe_gi rfl g_BOXES) pa_nil)))))))))))))), ?_⟩
  refine U.w_start (σ' := [some _, some _, none]) rfl ?_
  walk_at "st"
  obtain ⟨rv, sv, S, _, _⟩ := M.ex
  walk_at "go"
  refine ⟨W, R0, B0, R, L, g, s, rfl, M, by omega, fun H1 M1 => ?_⟩
  obtain ⟨_, _, S1, _, _⟩ := M1.ex
  have t1 : s.mark.tot = s.tot + 1 := tot_mark
  walk_at "go"
  refine w_mk M1 (by omega) rfl (.cons (.str "set") (.cons (.int 4) .nil)) (r := .set 4) rfl fun R2 H2 M2 s2 => ?_
  obtain ⟨_, _, S2, _, _⟩ := M2.ex
  walk_at "go"
  refine w_mk M2 (by simp only [tot_make]; omega) rfl (.cons (.str "get") (.cons (.int 4) .nil)) (r := .get 4) rfl fun R3 H3 M3 s3 => ?_
  obtain ⟨_, _, S3, _, _⟩ := M3.ex
  walk_at "go"
  refine w_mk M3 (by simp only [tot_make]; omega) rfl (.cons (.str "put") (.cons (.int z) .nil)) (r := .put z) rfl fun R4 H4 M4 s4 => ?_
  obtain ⟨_, _, S4, _, _⟩ := M4.ex
  walk_at "go"
  refine w_mk M4 (by simp only [tot_make]; omega) rfl (.cons (.str "sub") .nil) (r := .rek .sub) rfl fun R5 H5 M5 s5 => ?_
  obtain ⟨_, _, S5, _, _⟩ := M5.ex
  walk_at "go"
  refine w_mk M5 (by simp only [tot_make]; omega) rfl (.cons (.str "nought") (.cons (.int (s.places.length : Nat)) .nil)) (r := .nought s.places.length) rfl fun R6 H6 M6 s6 => ?_
  obtain ⟨_, _, S6, _, _⟩ := M6.ex
  walk_at "go"
  refine w_mk M6 (by simp only [tot_make]; omega) rfl (.cons (.str "get") (.cons (.int 4) .nil)) (r := .get 4) rfl fun R7 H7 M7 s7 => ?_
  obtain ⟨_, _, S7, _, _⟩ := M7.ex
  walk_at "go"
  refine w_mk M7 (by simp only [tot_make]; omega) rfl (.cons (.str "raise") .nil) (r := .raise) rfl fun R8 H8 M8 s8 => ?_
  obtain ⟨_, _, S8, _, _⟩ := M8.ex
  walk_at "go"
  refine ⟨W, R0, B0, R8, L, g, _, s.places.length, rfl, M8, by simp only [pl_make, pl_mark]; omega, fun H9 M9 => ?_⟩
  obtain ⟨_, _, S9, _, _⟩ := M9.ex
  walk_at "go"
  exact w_mk M9 (by simp only [tot_make, tot_here]; omega) rfl (.cons (.str "get") (.cons (.int 4) .nil)) (r := .get 4) rfl fun RA HA MA sA => q _ _ MA (((((((s2.trans s3).trans s4).trans s5).trans s6).trans s7).trans s8).trans sA)
end
end CM

namespace CM
open PySem PySem.Spec PyProof.Rows L2 U MM TR M
local macro_rules | `(tactic| walk_at "own1") => `(tactic| first
  | (with_reducible refine U.w_meV ?_)
  | walk_at "own2")
/-- what is around a block, as it lies in the region -/
@[reducible] def aO (cA dx : Addr) (ar : Ar) : HO := .ins cA dx [("give", .int (ar.give : Nat)), ("leave", pV (ar.lv.map (·.1))), ("again", pV (ar.lv.map (·.2))), ("ends", .int (ar.ends : Nat))]
def ArAt (cA : Addr) (R : Hp) (a : Addr) (ar : Ar) : Prop := ∃ dx, R a = some (aO cA dx ar)
theorem ArAt.up {cA : Addr} {R R' : Hp} {a : Addr} {ar : Ar} (h : ArAt cA R a ar) (s : Same R R') : ArAt cA R' a ar := by
  obtain ⟨dx, h⟩ := h
  exact ⟨dx, s _ _ h⟩
section
variable {P : Program} {w : World} {K : PySem.W.Frag} {mg : Str → Option Value} {base : Heap} {cK cA : Addr} {W : List Addr} {R0 B0 R H : Hp} {L : List (Addr × HO)} {g : Gm} {s : Mk}
def spArI (cA : Addr) : Sp := fun vs H Q _ => ∃ (W : List Addr) (R0 B0 R : Hp) (L : List (Addr × HO)) (a dx : Addr) (ar : Ar), vs = [.ref a, .int (ar.give : Nat), pV (ar.lv.map (·.1)), pV (ar.lv.map (·.2)), .int (ar.ends : Nat)] ∧ Sta W R0 B0 R H ((a, .ins cA dx []) :: L) ∧
  ∀ H', Sta W R0 B0 R H' ((a, aO cA dx ar) :: L) → Q .non H'
theorem ca_arI (D : DfI K mg "Around" cA "Around.__init__" (inClass (top 24) 0)) (iA : CI K cA fA) : CaI P w K mg base CX0 1 "Around" cA (spArI cA) := by
  have sc : FnScope ["self", "give", "leave", "again", "ends"] ["self", "give", "leave", "again", "ends"] (defScope (inClass (top 24) 0)) := ⟨rfl, rfl, rfl, by decide +kernel, rfl, by decide +kernel, by decide +kernel⟩
  have nd := sc.nd
  refine D.ca0 sc (fun _ _ _ _ _ _ us hl => match us, hl with | [_, _, _, _, _], _ => rfl) (fun vs H Q E h => by obtain ⟨_, _, _, _, _, _, _, _, rfl, _⟩ := h; rfl) (fun f cdv A outer s H vs Q E hr h => ?_)
  obtain ⟨W, R0, B0, R, L, a, dx, ar, rfl, S, q⟩ := h
  refine ⟨_, (pss_cons (ps_fld (pv 0) (pv 1) rfl)
    (pss_cons (ps_fld (pv 0) (pv 2) rfl)
    (pss_cons (ps_fld (pv 0) (pv 3) rfl)
    (pss_one (ps_fld (pv 0) (pv 4) rfl))))), ?_⟩
  refine U.w_start (σ' := [some _, some _, some _, some _, some _]) rfl ?_
  walk_at "st"
  have S1 := S.set 0 rfl (.ins cA dx [("give", .int (ar.give : Nat))])
  walk_at "go"
  have S2 := S1.set 0 rfl (.ins cA dx [("give", .int (ar.give : Nat)), ("leave", pV (ar.lv.map (·.1)))])
  walk_at "go"
  have S3 := S2.set 0 rfl (.ins cA dx [("give", .int (ar.give : Nat)), ("leave", pV (ar.lv.map (·.1))), ("again", pV (ar.lv.map (·.2)))])
  walk_at "go"
  have S4 := S3.set 0 rfl (aO cA dx ar)
  walk_at "go"
  exact q _ S4
/-- a new Around lies in the region when it is made -/
theorem w_arI {Q : VK} (S : Sta W R0 B0 R H L) (ar : Ar) (q : ∀ R' H' a, Sta W R0 B0 R' H' L → Same R R' → ArAt cA R' a ar → Q (.ref a) H') {x dx : Addr} (nx : H x = none) (nd : H dx = none) (ne : dx ≠ x) {E : XK} :
    spArI cA (.ref x :: ([.int (ar.give : Nat), pV (ar.lv.map (·.1)), pV (ar.lv.map (·.2)), .int (ar.ends : Nat)] ++ [])) (upd (upd H dx (.own x)) x (.ins cA dx [])) (fun v H2 => v = .non ∧ Q (.ref x) H2) E := by
  refine ⟨W, R0, B0, R, L, x, dx, ar, rfl, (S.newX nd (.own x)).new ((upd_ne ne.symm).trans nx) _, fun H' S' => ⟨rfl, ?_⟩⟩
  exact q _ _ x S'.frz (same_new (S'.noR 0 rfl) _) ⟨dx, upd_same⟩
def spWays (K : PySem.W.Frag) (cK cA : Addr) : Sp := fun vs H Q _ => ∃ (W : List Addr) (R0 B0 R : Hp) (L : List (Addr × HO)) (g : Gm) (s : Mk) (ar : Ar) (a : Addr), vs = [.ref g.t, .ref a] ∧ MSt K cK W R0 B0 R H L g s ∧ s.tot + 3 ≤ 100000 ∧ ArAt cA R a ar ∧
  ∀ R' H' a', MSt K cK W R0 B0 R' H' L g (match ar.lv with | none => s.mark | some _ => s.mark.mark.mark) → Same R R' → ArAt cA R' a' (match ar.lv with | none => ⟨s.places.length, none, ar.ends + 1⟩ | some _ => ⟨s.places.length, some (s.places.length + 1, s.places.length + 2), ar.ends + 1⟩) → Q (.ref a') H'
theorem ca_ways (D : Df K mg "_ways_to_last" (top 50)) (iK : CI K cK fK) (iA : CI K cA fA) (M_mark : CaM P w K mg base CX0 1 cK "mark" (spMark K cK)) (c_Around : CaI P w K mg base CX0 1 "Around" cA (spArI cA)) : Ca P w K mg base CX0 3 "_ways_to_last" (spWays K cK cA) := by
  have cls_mark := iK.cls
  obtain ⟨f_mark, fd_mark, ps_mark, F_mark, hm_mark, b_mark⟩ := M_mark.ex
  have sc : FnScope ["maker", "around", "give", "leave", "again"] ["maker", "around"] (defScope (top 50)) := ⟨rfl, rfl, rfl, by decide +kernel, rfl, by decide +kernel, by decide +kernel⟩
  have nd := sc.nd
  refine D.ca0 sc (fun _ _ _ _ _ _ us hl => match us, hl with | [_, _], _ => rfl) (fun vs H Q E h => by obtain ⟨_, _, _, _, _, _, _, _, _, rfl, _⟩ := h; rfl) (fun f cdv A outer s H vs Q E hr h => ?_)
  obtain ⟨W, R0, B0, R, L, g, s, ar, a, rfl, M, ht, hA, q⟩ := h
  refine ⟨_, (pss_cons (ps_set (i := 2) nd rfl (by first | exact Or.inl rfl | exact Or.inr rfl) (pe_meth0 (pv 0) cls_mark hm_mark F_mark (hr.mono (by omega)) b_mark .nil pass0))
    (pss_cons (ps_if (pt_cmpR op_isNo (pe_fld (pv 1) rfl) pe_non (nomark _)) (pss_one (ps_ret (pe_mk c_Around hr (by omega) rfl pass0 (pa_cons (pv 2) (pa_cons pe_non (pa_cons pe_non (pa_cons (pe_op op_add (pe_fld (pv 1) rfl) pe_int) pa_nil))))))) pss_nil)
    (pss_cons (ps_set (i := 3) nd rfl (by first | exact Or.inl rfl | exact Or.inr rfl) (pe_meth0 (pv 0) cls_mark hm_mark F_mark (hr.mono (by omega)) b_mark .nil pass0))
    (pss_cons (ps_set (i := 4) nd rfl (by first | exact Or.inl rfl | exact Or.inr rfl) (pe_meth0 (pv 0) cls_mark hm_mark F_mark (hr.mono (by omega)) b_mark .nil pass0))
    (pss_one (ps_ret (pe_mk c_Around hr (by omega) rfl pass0 (pa_cons (pv 2) (pa_cons (pv 3) (pa_cons (pv 4) (pa_cons (pe_op op_add (pe_fld (pv 1) rfl) pe_int) pa_nil))))))))))), ?_⟩
  refine U.w_start (σ' := [some _, some _, none, none, none]) rfl ?_
  walk_at "st"
  obtain ⟨rv, sv, S, _, _⟩ := M.ex
  obtain ⟨adx, hA⟩ := hA
  obtain ⟨gv, lv, en⟩ := ar
  cases lv with
  | none =>
    simp only [aO, pV, Option.map_none] at hA q
    walk_at "go"
    refine ⟨W, R0, B0, R, L, g, s, rfl, M, by omega, fun H1 M1 => ?_⟩
    obtain ⟨rv1, sv1, S1, h1, h2⟩ := M1.ex
    have hA1 := S1.sub' _ _ hA
    walk_at "go"
    walk_at "if"
    walk_at "go"
    intro x dx nx nd ne
    rw [show ((en : Nat) : Int) + 1 = ((en + 1 : Nat) : Int) from rfl]
    exact w_arI S1 ⟨s.places.length, none, en + 1⟩ (fun R' H' a' S' s' A' => q _ _ _ ⟨rv1, sv1, S', h1.up s', h2.up s'⟩ s' A') nx nd ne
  | some y =>
    obtain ⟨ya, yb⟩ := y
    simp only [aO, pV, Option.map_some] at hA q
    walk_at "go"
    refine ⟨W, R0, B0, R, L, g, s, rfl, M, by omega, fun H1 M1 => ?_⟩
    obtain ⟨rv1, sv1, S1, h1, h2⟩ := M1.ex
    have hA1 := S1.sub' _ _ hA
    walk_at "go"
    walk_at "if"
    walk_at "go"
    refine ⟨W, R0, B0, R, L, g, _, rfl, M1, by rw [tot_mark]; omega, fun H2 M2 => ?_⟩
    obtain ⟨rv2, sv2, S2, _, _⟩ := M2.ex
    walk_at "go"
    refine ⟨W, R0, B0, R, L, g, _, rfl, M2, by rw [tot_mark, tot_mark]; omega, fun H3 M3 => ?_⟩
    obtain ⟨rv3, sv3, S3, h3, h4⟩ := M3.ex
    have hA3 := S3.sub' _ _ hA
    rw [pl_mark, pl_mark]
    walk_at "go"
    intro x dx nx nd ne
    rw [pl_mark, show ((en : Nat) : Int) + 1 = ((en + 1 : Nat) : Int) from rfl]
    exact w_arI S3 ⟨s.places.length, some (s.places.length + 1, s.places.length + 2), en + 1⟩ (fun R' H' a' S' s' A' => q _ _ _ ⟨rv3, sv3, S', h3.up s', h4.up s'⟩ s' A') nx nd ne
end
end CM

namespace CM
open PySem PySem.Spec PyProof.Rows L2 U MM TR M
local macro_rules | `(tactic| walk_at "own1") => `(tactic| first
  | (with_reducible refine U.w_meV ?_)
  | walk_at "own2")
section
variable {P : Program} {w : World} {K : PySem.W.Frag} {mg : Str → Option Value} {base : Heap} {cK cA : Addr} {W : List Addr} {R0 B0 R H : Hp} {L : List (Addr × HO)} {g : Gm} {s : Mk}
def spBl (K : PySem.W.Frag) (cK cA : Addr) (m : Nat) : Sp := fun vs H Q _ => ∃ (W : List Addr) (R0 B0 R : Hp) (L : List (Addr × HO)) (g : Gm) (s : Mk) (l : List Sm) (ar : Ar) (z : V) (a : Addr), vs = [.ref g.t, z, .ref a] ∧ okL l ar.lv.isSome m ∧ MSt K cK W R0 B0 R H L g s ∧ Dp K R z (.list (encL l)) ∧ ArAt cA R a ar ∧ s.tot + szL l ≤ 100000 ∧
  ∀ R' H', MSt K cK W R0 B0 R' H' L g (blC l ar s) → Same R R' → Q .non H'
def spHeld (K : PySem.W.Frag) (cK cA : Addr) (m : Nat) : Sp := fun vs H Q _ => ∃ (W : List Addr) (R0 B0 R : Hp) (L : List (Addr × HO)) (g : Gm) (s : Mk) (l : List Sm) (ar : Ar) (z : V) (a : Addr) (goal : Nat), vs = [.ref g.t, z, .ref a, .int (goal : Nat)] ∧ okL l ar.lv.isSome m ∧ MSt K cK W R0 B0 R H L g s ∧ Dp K R z (.list (encL l)) ∧ ArAt cA R a ar ∧ s.tot + szL l + 1 ≤ 100000 ∧
  ∀ R' H', MSt K cK W R0 B0 R' H' L g (heldC (blC l ar) goal s) → Same R R' → Q .non H'
def spSt (K : PySem.W.Frag) (cK cA : Addr) (m i : Nat) : Sp := fun vs H Q _ => ∃ (W : List Addr) (R0 B0 R : Hp) (L : List (Addr × HO)) (g : Gm) (s : Mk) (x : Sm) (ar : Ar) (z : V) (a : Addr), vs = [.ref g.t, z, .ref a] ∧ x.ki = i ∧ x.ok ar.lv.isSome m ∧ MSt K cK W R0 B0 R H L g s ∧ Dp K R z x.enc ∧ ArAt cA R a ar ∧ s.tot + x.sz ≤ 100000 ∧
  ∀ R' H', MSt K cK W R0 B0 R' H' L g (smC x ar s) → Same R R' → Q .non H'
theorem ca_held (B : Bi mg) (D : Df K mg "_held" (top 44)) (iK : CI K cK fK) (m : Nat) (c_block_making : Ca P w K mg base CX0 (3 * m + 9) "block_making" (spBl K cK cA m)) : Ca P w K mg base CX0 (3 * m + 10) "_held" (spHeld K cK cA m) := by
  have sc : FnScope ["maker", "block", "around", "goal", "first", "behind"] ["maker", "block", "around", "goal"] (defScope (top 44)) := ⟨rfl, rfl, rfl, by decide +kernel, rfl, by decide +kernel, by decide +kernel⟩
  have nd := sc.nd
  refine D.ca0 sc (fun _ _ _ _ _ _ us hl => match us, hl with | [_, _, _, _], _ => rfl) (fun vs H Q E h => by obtain ⟨_, _, _, _, _, _, _, _, _, _, _, _, rfl, _⟩ := h; rfl) (fun f cdv A outer s H vs Q E hr h => ?_)
  obtain ⟨W, R0, B0, R, L, g, s, l, ar, z, a, goal, rfl, hk, M, hz, hA, ht, q⟩ := h
  refine ⟨_, (pss_cons (ps_set (i := 4) nd rfl (by first | exact Or.inl rfl | exact Or.inr rfl) (pe_callB call_lenA rfl B.len PySem.boot_len (pa_cons (pe_fld (pv 0) rfl) pa_nil)))
    (pss_cons (ps_expr (pe_ca c_block_making hr (by omega) rfl pass0 (pa_cons (pv 0) (pa_cons (pv 1) (pa_cons (pv 2) pa_nil)))))
    (pss_cons (ps_set (i := 5) nd rfl (by first | exact Or.inl rfl | exact Or.inr rfl) (pe_callB call_lenA rfl B.len PySem.boot_len (pa_cons (pe_fld (pv 0) rfl) pa_nil)))
    (pss_one (ps_if (pt_cmpR op_lt (pv 4) (pv 5) (nomark _)) (pss_one (ps_expr (pe_bm PySem.F.plainAttrs_list PySem.F.slot_list_append PySem.F.type_list_append mt_append (pe_fld (pv 0) rfl) (pa_cons (pe_tup (pa_cons (pv 4) (pa_cons (pv 5) (pa_cons (pv 3) pa_nil)))) pa_nil)))) pss_nil))))), ?_⟩
  refine U.w_start (σ' := [some _, some _, some _, some _, none, none]) rfl ?_
  walk_at "st"
  obtain ⟨rv, sv, S, h1, h2⟩ := M.ex
  walk_at "go"
  refine ⟨W, R0, B0, R, L, g, s, l, ar, z, a, rfl, hk, M, hz, hA, by omega, fun R1 H1 M1 s1 => ?_⟩
  have tl := tot_bl l ar s
  unfold heldC at q
  generalize blC l ar s = s' at *
  obtain ⟨rv1, sv1, S1, h3, h4⟩ := M1.ex
  have e1 : rv.length = s.rows.length := by rw [h1.len, List.length_map]
  have e2 : rv1.length = s'.rows.length := by rw [h3.len, List.length_map]
  walk_at "go"
  rw [e1, e2]
  refine it_cases (fun c => ?_) fun c => ?_
  · rw [if_pos (by omega)] at q
    walk_at "go"
    intro T nT
    have S2 := S1.newR nT (.tup [.int (s.rows.length : Nat), .int (s'.rows.length : Nat), .int (goal : Nat)])
    have S3 := S2.set 2 rfl (.lst (sv1 ++ [.ref T]))
    have hl : sv1.length < sizeLine := szlt (by rw [h4.len, List.length_map]; unfold Mk.tot at *; omega)
    walk_at "go"
    refine q _ _ ⟨rv1, sv1 ++ [.ref T], S3, S1.upR nT _ h3, ?_⟩ (s1.trans (same_new (S1.nR nT) _))
    show DpAll K _ _ ((s'.str ++ [(s.rows.length, s'.rows.length, goal)]).map encS)
    rw [List.map_append]
    exact S1.row nT h4 (.cons (.int _) (.cons (.int _) (.cons (.int _) .nil)))
  · rw [if_neg (by omega)] at q
    walk_at "go"
    exact q _ _ M1 s1
theorem ca_set (D : Df K mg "set_making" (top 31)) (iK : CI K cK fK) (V_make : CaV P w K mg base CX0 1 cK "make" (spMake K cK)) (c__expression : Ca P w K mg base CX0 7 "_expression" (spEx K cK 6)) (m : Nat) : Ca P w K mg base CX0 (3 * m + 11) "set_making" (spSt K cK cA m 0) := by
  have cls_make := iK.cls
  have sc : FnScope ["maker", "statement", "around"] ["maker", "statement", "around"] (defScope (top 31)) := ⟨rfl, rfl, rfl, by decide +kernel, rfl, by decide +kernel, by decide +kernel⟩
  have nd := sc.nd
  refine D.ca0 sc (fun _ _ _ _ _ _ us hl => match us, hl with | [_, _, _], _ => rfl) (fun vs H Q E h => by obtain ⟨_, _, _, _, _, _, _, _, _, _, _, rfl, _⟩ := h; rfl) (fun f cdv A outer s H vs Q E hr h => ?_)
  obtain ⟨W, R0, B0, R, L, g, s, x, ar, z, a, rfl, hx, hk, M, hz, hA, ht, q⟩ := h
  refine ⟨_, (pss_cons (ps_expr (pe_ca c__expression hr (by omega) rfl pass0 (pa_cons (pv 0) (pa_cons (pe_ix ix_lt (pv 1) pe_int (fun _ _ => rfl)) pa_nil))))
    (pss_one (ps_expr (pe_meV (pv 0) cls_make V_make hr (by omega) pass0 (pa_cons pe_str (pa_cons (pe_ix ix_lt (pv 1) pe_int (fun _ _ => rfl)) pa_nil)))))), ?_⟩
  refine U.w_start (σ' := [some _, some _, some _]) rfl ?_
  walk_at "st"
  cases x <;> try (exact absurd hx (by simp only [Sm.ki]; decide))
  rename_i k e
  rw [Sm.ok] at hk
  rw [Sm.sz] at ht
  rw [Sm.enc] at hz
  obtain ⟨p, v1, v2, v3, rfl, hT, h1, h2, h3⟩ := dp_tup3 hz
  cases dp_int h2
  obtain ⟨rv, sv, S, _, _⟩ := M.ex
  walk_at "go"
  refine ⟨W, R0, B0, R, L, g, s, e, v3, rfl, hk, M, h3, by omega, fun R1 H1 M1 s1 => ?_⟩
  obtain ⟨rv1, sv1, S1, _, _⟩ := M1.ex
  have hT1 := Same.seqT (s1.trans S1.sub') hT
  walk_at "go"
  exact w_mk M1 (by rw [tot_ex]; omega) rfl (.cons (.str "set") (.cons (.int k) .nil)) (r := .set k) rfl fun R2 H2 M2 s2 => q _ _ (by rw [smC]; exact M2) (s1.trans s2)
theorem ca_sayR (D : Df K mg "_say_or_raise" (top 33)) (iK : CI K cK fK) (V_make : CaV P w K mg base CX0 1 cK "make" (spMake K cK)) (c__expression : Ca P w K mg base CX0 7 "_expression" (spEx K cK 6)) (m : Nat) : Ca P w K mg base CX0 (3 * m + 11) "_say_or_raise" (spSt K cK cA m 1) := by
  have cls_make := iK.cls
  have sc : FnScope ["maker", "statement", "around"] ["maker", "statement", "around"] (defScope (top 33)) := ⟨rfl, rfl, rfl, by decide +kernel, rfl, by decide +kernel, by decide +kernel⟩
  have nd := sc.nd
  refine D.ca0 sc (fun _ _ _ _ _ _ us hl => match us, hl with | [_, _, _], _ => rfl) (fun vs H Q E h => by obtain ⟨_, _, _, _, _, _, _, _, _, _, _, rfl, _⟩ := h; rfl) (fun f cdv A outer s H vs Q E hr h => ?_)
  obtain ⟨W, R0, B0, R, L, g, s, x, ar, z, a, rfl, hx, hk, M, hz, hA, ht, q⟩ := h
  refine ⟨_, (pss_cons (ps_expr (pe_ca c__expression hr (by omega) rfl pass0 (pa_cons (pv 0) (pa_cons (pe_ix ix_lt (pv 1) pe_int (fun _ _ => rfl)) pa_nil))))
    (pss_one (ps_expr (pe_meV (pv 0) cls_make V_make hr (by omega) pass0 (pa_cons (pe_ix ix_lt (pv 1) pe_int (fun _ _ => rfl)) pa_nil))))), ?_⟩
  refine U.w_start (σ' := [some _, some _, some _]) rfl ?_
  walk_at "st"
  cases x <;> try (exact absurd hx (by simp only [Sm.ki]; decide))
  all_goals (
    rename_i e
    rw [Sm.ok] at hk
    rw [Sm.sz] at ht
    rw [Sm.enc] at hz
    obtain ⟨p, v1, v2, rfl, hT, h1, h2⟩ := dp_tup2 hz
    cases dp_str h1
    obtain ⟨rv, sv, S, _, _⟩ := M.ex
    walk_at "go"
    refine ⟨W, R0, B0, R, L, g, s, e, v2, rfl, hk, M, h2, by omega, fun R1 H1 M1 s1 => ?_⟩
    obtain ⟨rv1, sv1, S1, _, _⟩ := M1.ex
    have hT1 := Same.seqT (s1.trans S1.sub') hT
    walk_at "go")
  · exact w_mk M1 (by rw [tot_ex]; omega) rfl (.cons (.str "say") .nil) (r := .say) rfl fun R2 H2 M2 s2 => q _ _ (by rw [smC]; exact M2) (s1.trans s2)
  · exact w_mk M1 (by rw [tot_ex]; omega) rfl (.cons (.str "raise") .nil) (r := .raise) rfl fun R2 H2 M2 s2 => q _ _ (by rw [smC]; exact M2) (s1.trans s2)
theorem ca_give (D : Df K mg "give_making" (top 42)) (iK : CI K cK fK) (iA : CI K cA fA) (V_make : CaV P w K mg base CX0 1 cK "make" (spMake K cK)) (c__expression : Ca P w K mg base CX0 7 "_expression" (spEx K cK 6)) (m : Nat) : Ca P w K mg base CX0 (3 * m + 11) "give_making" (spSt K cK cA m 6) := by
  have cls_make := iK.cls
  have sc : FnScope ["maker", "statement", "around"] ["maker", "statement", "around"] (defScope (top 42)) := ⟨rfl, rfl, rfl, by decide +kernel, rfl, by decide +kernel, by decide +kernel⟩
  have nd := sc.nd
  refine D.ca0 sc (fun _ _ _ _ _ _ us hl => match us, hl with | [_, _, _], _ => rfl) (fun vs H Q E h => by obtain ⟨_, _, _, _, _, _, _, _, _, _, _, rfl, _⟩ := h; rfl) (fun f cdv A outer s H vs Q E hr h => ?_)
  obtain ⟨W, R0, B0, R, L, g, s, x, ar, z, a, rfl, hx, hk, M, hz, hA, ht, q⟩ := h
  refine ⟨_, (pss_cons (ps_expr (pe_ca c__expression hr (by omega) rfl pass0 (pa_cons (pv 0) (pa_cons (pe_ix ix_lt (pv 1) pe_int (fun _ _ => rfl)) pa_nil))))
    (pss_one (ps_expr (pe_meV (pv 0) cls_make V_make hr (by omega) pass0 (pa_cons pe_str (pa_cons (pe_fld (pv 2) rfl) pa_nil)))))), ?_⟩
  refine U.w_start (σ' := [some _, some _, some _]) rfl ?_
  walk_at "st"
  cases x <;> try (exact absurd hx (by simp only [Sm.ki]; decide))
  rename_i e
  rw [Sm.ok] at hk
  rw [Sm.sz] at ht
  rw [Sm.enc] at hz
  obtain ⟨p, v1, v2, rfl, hT, h1, h2⟩ := dp_tup2 hz
  obtain ⟨rv, sv, S, _, _⟩ := M.ex
  walk_at "go"
  refine ⟨W, R0, B0, R, L, g, s, e, v2, rfl, hk, M, h2, by omega, fun R1 H1 M1 s1 => ?_⟩
  obtain ⟨rv1, sv1, S1, _, _⟩ := M1.ex
  obtain ⟨adx, hA⟩ := hA
  have hA1 := (s1.trans S1.sub') _ _ hA
  walk_at "go"
  exact w_mk M1 (by rw [tot_ex]; omega) rfl (.cons (.str "go") (.cons (.int _) .nil)) (r := .go ar.give) rfl fun R2 H2 M2 s2 => q _ _ (by rw [smC]; exact M2) (s1.trans s2)
theorem ca_leave (D : Df K mg "leave_making" (top 38)) (iK : CI K cK fK) (iA : CI K cA fA) (V_make : CaV P w K mg base CX0 1 cK "make" (spMake K cK)) (m : Nat) : Ca P w K mg base CX0 (3 * m + 11) "leave_making" (spSt K cK cA m 4) := by
  have cls_make := iK.cls
  have sc : FnScope ["maker", "statement", "around"] ["maker", "statement", "around"] (defScope (top 38)) := ⟨rfl, rfl, rfl, by decide +kernel, rfl, by decide +kernel, by decide +kernel⟩
  have nd := sc.nd
  refine D.ca0 sc (fun _ _ _ _ _ _ us hl => match us, hl with | [_, _, _], _ => rfl) (fun vs H Q E h => by obtain ⟨_, _, _, _, _, _, _, _, _, _, _, rfl, _⟩ := h; rfl) (fun f cdv A outer s H vs Q E hr h => ?_)
  obtain ⟨W, R0, B0, R, L, g, s, x, ar, z, a, rfl, hx, hk, M, hz, hA, ht, q⟩ := h
  refine ⟨_, (pss_one (ps_expr (pe_meV (pv 0) cls_make V_make hr (by omega) pass0 (pa_cons pe_str (pa_cons (pe_fld (pv 2) rfl) pa_nil))))), ?_⟩
  refine U.w_start (σ' := [some _, some _, some _]) rfl ?_
  walk_at "st"
  cases x <;> try (exact absurd hx (by simp only [Sm.ki]; decide))
  rw [Sm.ok] at hk
  rw [Sm.sz] at ht
  obtain ⟨rv, sv, S, _, _⟩ := M.ex
  obtain ⟨adx, hA⟩ := hA
  obtain ⟨gv, lv, en⟩ := ar
  cases lv with
  | none => cases hk
  | some y =>
    have hA1 := S.sub' _ _ hA
    simp only [aO, pV, Option.map_some] at hA1
    walk_at "go"
    exact w_mk M (by omega) rfl (.cons (.str "go") (.cons (.int _) .nil)) (r := .go y.1) rfl fun R2 H2 M2 s2 => q _ _ (by rw [smC]; exact M2) s2
theorem ca_nextS (D : Df K mg "next_making" (top 40)) (iK : CI K cK fK) (iA : CI K cA fA) (V_make : CaV P w K mg base CX0 1 cK "make" (spMake K cK)) (m : Nat) : Ca P w K mg base CX0 (3 * m + 11) "next_making" (spSt K cK cA m 5) := by
  have cls_make := iK.cls
  have sc : FnScope ["maker", "statement", "around"] ["maker", "statement", "around"] (defScope (top 40)) := ⟨rfl, rfl, rfl, by decide +kernel, rfl, by decide +kernel, by decide +kernel⟩
  have nd := sc.nd
  refine D.ca0 sc (fun _ _ _ _ _ _ us hl => match us, hl with | [_, _, _], _ => rfl) (fun vs H Q E h => by obtain ⟨_, _, _, _, _, _, _, _, _, _, _, rfl, _⟩ := h; rfl) (fun f cdv A outer s H vs Q E hr h => ?_)
  obtain ⟨W, R0, B0, R, L, g, s, x, ar, z, a, rfl, hx, hk, M, hz, hA, ht, q⟩ := h
  refine ⟨_, (pss_one (ps_expr (pe_meV (pv 0) cls_make V_make hr (by omega) pass0 (pa_cons pe_str (pa_cons (pe_fld (pv 2) rfl) pa_nil))))), ?_⟩
  refine U.w_start (σ' := [some _, some _, some _]) rfl ?_
  walk_at "st"
  cases x <;> try (exact absurd hx (by simp only [Sm.ki]; decide))
  rw [Sm.ok] at hk
  rw [Sm.sz] at ht
  obtain ⟨rv, sv, S, _, _⟩ := M.ex
  obtain ⟨adx, hA⟩ := hA
  obtain ⟨gv, lv, en⟩ := ar
  cases lv with
  | none => cases hk
  | some y =>
    have hA1 := S.sub' _ _ hA
    simp only [aO, pV, Option.map_some] at hA1
    walk_at "go"
    exact w_mk M (by omega) rfl (.cons (.str "go") (.cons (.int _) .nil)) (r := .go y.2) rfl fun R2 H2 M2 s2 => q _ _ (by rw [smC]; exact M2) s2
end
end CM

namespace CM
open PySem PySem.Spec PyProof.Rows L2 U MM TR M
local macro_rules | `(tactic| walk_at "own1") => `(tactic| first
  | (with_reducible refine U.w_meV ?_)
  | walk_at "own2")
section
variable {P : Program} {w : World} {K : PySem.W.Frag} {mg : Str → Option Value} {base : Heap} {cK cA : Addr} {W : List Addr} {R0 B0 R H : Hp} {L : List (Addr × HO)} {g : Gm} {s : Mk}
theorem w_arQ {Q : VK} (S : Sta W R0 B0 R H L) (ar : Ar) {x dx : Addr} (nx : H x = none) (nd : H dx = none) (ne : dx ≠ x) {E : XK} (q : ∀ R' H', Sta W R0 B0 R' H' L → Same R R' → ArAt cA R' x ar → Q .non H') :
    spArI cA (.ref x :: ([.int (ar.give : Nat), pV (ar.lv.map (·.1)), pV (ar.lv.map (·.2)), .int (ar.ends : Nat)] ++ [])) (upd (upd H dx (.own x)) x (.ins cA dx [])) Q E :=
  ⟨W, R0, B0, R, L, x, dx, ar, rfl, (S.newX nd (.own x)).new ((upd_ne ne.symm).trans nx) _, fun H' S' => q _ _ S'.frz (same_new (S'.noR 0 rfl) _) ⟨dx, upd_same⟩⟩
theorem w_arS {Q : VK} (S : Sta W R0 B0 R H L) (gv l1 l2 en : Nat) {x dx : Addr} (nx : H x = none) (nd : H dx = none) (ne : dx ≠ x) {E : XK} (q : ∀ R' H', Sta W R0 B0 R' H' L → Same R R' → ArAt cA R' x ⟨gv, some (l1, l2), en⟩ → Q .non H') :
    spArI cA (.ref x :: ([.int (gv : Nat), .int (l1 : Nat), .int (l2 : Nat), .int (en : Nat)] ++ [])) (upd (upd H dx (.own x)) x (.ins cA dx [])) Q E :=
  w_arQ S ⟨gv, some (l1, l2), en⟩ nx nd ne q
theorem ca_if (D : Df K mg "if_making" (top 34)) (iK : CI K cK fK) (V_make : CaV P w K mg base CX0 1 cK "make" (spMake K cK)) (M_mark : CaM P w K mg base CX0 1 cK "mark" (spMark K cK)) (M_here : CaM P w K mg base CX0 1 cK "here" (spHere K cK))
    (c__expression : Ca P w K mg base CX0 7 "_expression" (spEx K cK 6)) (m : Nat) (c_block_making : Ca P w K mg base CX0 (3 * m + 9) "block_making" (spBl K cK cA m)) : Ca P w K mg base CX0 (3 * m + 11) "if_making" (spSt K cK cA m 2) := by
  have cls_make := iK.cls
  have cls_mark := iK.cls
  have cls_here := iK.cls
  obtain ⟨f_mark, fd_mark, ps_mark, F_mark, hm_mark, b_mark⟩ := M_mark.ex
  obtain ⟨f_here, fd_here, ps_here, F_here, hm_here, b_here⟩ := M_here.ex
  have sc : FnScope ["maker", "statement", "around", "_", "asked", "ones", "others", "otherwise", "behind"] ["maker", "statement", "around"] (defScope (top 34)) := ⟨rfl, rfl, rfl, by decide +kernel, rfl, by decide +kernel, by decide +kernel⟩
  have nd := sc.nd
  refine D.ca0 sc (fun _ _ _ _ _ _ us hl => match us, hl with | [_, _, _], _ => rfl) (fun vs H Q E h => by obtain ⟨_, _, _, _, _, _, _, _, _, _, _, rfl, _⟩ := h; rfl) (fun f cdv A outer s H vs Q E hr h => ?_)
  obtain ⟨W, R0, B0, R, L, g, s, x, ar, z, a, rfl, hx, hk, M, hz, hA, ht, q⟩ := h
  refine ⟨_, (pss_cons (ps_asg (pv 1) (pg_tup rfl (pgs_cons (pg_name (i := 3) nd rfl (by first | exact Or.inl rfl | exact Or.inr rfl)) (pgs_cons (pg_name (i := 4) nd rfl (by first | exact Or.inl rfl | exact Or.inr rfl)) (pgs_cons (pg_name (i := 5) nd rfl (by first | exact Or.inl rfl | exact Or.inr rfl)) (pgs_cons (pg_name (i := 6) nd rfl (by first | exact Or.inl rfl | exact Or.inr rfl)) pgs_nil))))))
    (pss_cons (ps_set (i := 7) nd rfl (by first | exact Or.inl rfl | exact Or.inr rfl) (pe_meth0 (pv 0) cls_mark hm_mark F_mark (hr.mono (by omega)) b_mark .nil pass0))
    (pss_cons (ps_set (i := 8) nd rfl (by first | exact Or.inl rfl | exact Or.inr rfl) (pe_meth0 (pv 0) cls_mark hm_mark F_mark (hr.mono (by omega)) b_mark .nil pass0))
    (pss_cons (ps_expr (pe_ca c__expression hr (by omega) rfl pass0 (pa_cons (pv 0) (pa_cons (pv 4) pa_nil))))
    (pss_cons (ps_expr (pe_meV (pv 0) cls_make V_make hr (by omega) pass0 (pa_cons pe_str (pa_cons (pv 7) pa_nil))))
    (pss_cons (ps_expr (pe_ca c_block_making hr (by omega) rfl pass0 (pa_cons (pv 0) (pa_cons (pv 5) (pa_cons (pv 2) pa_nil)))))
    (pss_cons (ps_expr (pe_meV (pv 0) cls_make V_make hr (by omega) pass0 (pa_cons pe_str (pa_cons (pv 8) pa_nil))))
    (pss_cons (ps_expr (pe_meth (pv 0) cls_here hm_here F_here (hr.mono (by omega)) b_here .nil pass0 (pa_cons (pv 7) pa_nil)))
    (pss_cons (ps_expr (pe_ca c_block_making hr (by omega) rfl pass0 (pa_cons (pv 0) (pa_cons (pv 6) (pa_cons (pv 2) pa_nil)))))
    (pss_one (ps_expr (pe_meth (pv 0) cls_here hm_here F_here (hr.mono (by omega)) b_here .nil pass0 (pa_cons (pv 8) pa_nil))))))))))))), ?_⟩
  refine U.w_start (σ' := [some _, some _, some _, none, none, none, none, none, none]) rfl ?_
  walk_at "st"
  cases x <;> try (exact absurd hx (by simp only [Sm.ki]; decide))
  rename_i e bs cs
  rw [Sm.ok] at hk
  rw [Sm.sz] at ht
  rw [Sm.enc] at hz
  rw [smC] at q
  obtain ⟨he, hb, hc⟩ := hk
  obtain ⟨p, v1, v2, v3, v4, rfl, hT, h1, h2, h3, h4⟩ := dp_tup4 hz
  obtain ⟨rv, sv, S, _, _⟩ := M.ex
  walk_at "go"
  refine ⟨W, R0, B0, R, L, g, s, rfl, M, by omega, fun H1 M1 => ?_⟩
  obtain ⟨_, _, S1, _, _⟩ := M1.ex
  walk_at "go"
  refine ⟨W, R0, B0, R, L, g, _, rfl, M1, by rw [tot_mark]; omega, fun H2 M2 => ?_⟩
  rw [pn_mark]
  have t2 : s.mark.mark.tot = s.tot + 2 := by rw [tot_mark, tot_mark]
  have p2 : s.mark.mark.places.length = s.places.length + 2 := by rw [pn_mark, pn_mark]
  generalize s.mark.mark = s2 at *
  obtain ⟨_, _, S2, _, _⟩ := M2.ex
  walk_at "go"
  refine ⟨W, R0, B0, R, L, g, s2, e, v2, rfl, he, M2, h2, by omega, fun R3 H3 M3 s3 => ?_⟩
  obtain ⟨_, _, S3, _, _⟩ := M3.ex
  walk_at "go"
  refine w_mk M3 (by rw [tot_ex]; omega) rfl (.cons (.str "nought") (.cons (.int _) .nil)) (r := .nought s.places.length) rfl fun R4 H4 M4 s4 => ?_
  have t4 : ((exC e s2).make (.nought s.places.length)).tot = s.tot + e.sz + 3 := by rw [tot_make, tot_ex]; omega
  have p4 : ((exC e s2).make (.nought s.places.length)).places.length = s.places.length + 2 := by rw [pn_make, pn_ex]; omega
  generalize (exC e s2).make (.nought s.places.length) = s5 at *
  have s35 := s3.trans s4
  walk_at "go"
  refine ⟨W, R0, B0, R4, L, g, s5, bs, ar, v3, a, rfl, hb, M4, h3.up s35, hA.up s35, by omega, fun R6 H6 M6 s6 => ?_⟩
  have t6 := tot_bl bs ar s5
  have p6 := pn_bl bs ar s5
  generalize blC bs ar s5 = s7 at *
  obtain ⟨_, _, S6, _, _⟩ := M6.ex
  walk_at "go"
  refine w_mk M6 (by omega) rfl (.cons (.str "go") (.cons (.int (s.places.length + 1 : Nat)) .nil)) (r := .go (s.places.length + 1)) rfl fun R7 H7 M7 s77 => ?_
  obtain ⟨_, _, S7, _, _⟩ := M7.ex
  walk_at "go"
  refine ⟨W, R0, B0, R7, L, g, _, s.places.length, rfl, M7, by rw [pn_make]; omega, fun H8 M8 => ?_⟩
  have t8 : ((s7.make (.go (s.places.length + 1))).here s.places.length).tot = s7.tot + 1 := by rw [tot_here, tot_make]
  have p8 : ((s7.make (.go (s.places.length + 1))).here s.places.length).places.length = s7.places.length := by rw [pn_here, pn_make]
  generalize (s7.make (.go (s.places.length + 1))).here s.places.length = s8 at *
  have s38 := (s35.trans s6).trans s77
  walk_at "go"
  refine ⟨W, R0, B0, R7, L, g, s8, cs, ar, v4, a, rfl, hc, M8, h4.up s38, hA.up s38, by omega, fun R9 H9 M9 s9 => ?_⟩
  have p9 := pn_bl cs ar s8
  obtain ⟨_, _, S9, _, _⟩ := M9.ex
  walk_at "go"
  refine ⟨W, R0, B0, R9, L, g, _, s.places.length + 1, rfl, M9, by omega, fun HA MA => ?_⟩
  walk_at "go"
  exact q _ _ MA (s38.trans s9)
theorem ca_loopS (D : Df K mg "loop_making" (top 36)) (iK : CI K cK fK) (iA : CI K cA fA) (V_make : CaV P w K mg base CX0 1 cK "make" (spMake K cK)) (M_mark : CaM P w K mg base CX0 1 cK "mark" (spMark K cK)) (M_here : CaM P w K mg base CX0 1 cK "here" (spHere K cK)) (c_Around : CaI P w K mg base CX0 1 "Around" cA (spArI cA))
    (c__expression : Ca P w K mg base CX0 7 "_expression" (spEx K cK 6)) (m : Nat) (c_block_making : Ca P w K mg base CX0 (3 * m + 9) "block_making" (spBl K cK cA m)) : Ca P w K mg base CX0 (3 * m + 11) "loop_making" (spSt K cK cA m 3) := by
  have cls_make := iK.cls
  have cls_mark := iK.cls
  have cls_here := iK.cls
  obtain ⟨f_mark, fd_mark, ps_mark, F_mark, hm_mark, b_mark⟩ := M_mark.ex
  obtain ⟨f_here, fd_here, ps_here, F_here, hm_here, b_here⟩ := M_here.ex
  have sc : FnScope ["maker", "statement", "around", "_", "asked", "body", "again", "behind"] ["maker", "statement", "around"] (defScope (top 36)) := ⟨rfl, rfl, rfl, by decide +kernel, rfl, by decide +kernel, by decide +kernel⟩
  have nd := sc.nd
  refine D.ca0 sc (fun _ _ _ _ _ _ us hl => match us, hl with | [_, _, _], _ => rfl) (fun vs H Q E h => by obtain ⟨_, _, _, _, _, _, _, _, _, _, _, rfl, _⟩ := h; rfl) (fun f cdv A outer s H vs Q E hr h => ?_)
  obtain ⟨W, R0, B0, R, L, g, s, x, ar, z, a, rfl, hx, hk, M, hz, hA, ht, q⟩ := h
  refine ⟨_, (pss_cons (ps_asg (pv 1) (pg_tup rfl (pgs_cons (pg_name (i := 3) nd rfl (by first | exact Or.inl rfl | exact Or.inr rfl)) (pgs_cons (pg_name (i := 4) nd rfl (by first | exact Or.inl rfl | exact Or.inr rfl)) (pgs_cons (pg_name (i := 5) nd rfl (by first | exact Or.inl rfl | exact Or.inr rfl)) pgs_nil)))))
    (pss_cons (ps_set (i := 6) nd rfl (by first | exact Or.inl rfl | exact Or.inr rfl) (pe_meth0 (pv 0) cls_mark hm_mark F_mark (hr.mono (by omega)) b_mark .nil pass0))
    (pss_cons (ps_set (i := 7) nd rfl (by first | exact Or.inl rfl | exact Or.inr rfl) (pe_meth0 (pv 0) cls_mark hm_mark F_mark (hr.mono (by omega)) b_mark .nil pass0))
    (pss_cons (ps_expr (pe_meth (pv 0) cls_here hm_here F_here (hr.mono (by omega)) b_here .nil pass0 (pa_cons (pv 6) pa_nil)))
    (pss_cons (ps_expr (pe_meV (pv 0) cls_make V_make hr (by omega) pass0 (pa_cons pe_str pa_nil)))
    (pss_cons (ps_expr (pe_ca c__expression hr (by omega) rfl pass0 (pa_cons (pv 0) (pa_cons (pv 4) pa_nil))))
    (pss_cons (ps_expr (pe_meV (pv 0) cls_make V_make hr (by omega) pass0 (pa_cons pe_str (pa_cons (pv 7) pa_nil))))
    (pss_cons (ps_expr (pe_ca c_block_making hr (by omega) rfl pass0 (pa_cons (pv 0) (pa_cons (pv 5) (pa_cons (pe_mk c_Around hr (by omega) rfl pass0 (pa_cons (pe_fld (pv 2) rfl) (pa_cons (pv 7) (pa_cons (pv 6) (pa_cons (pe_fld (pv 2) rfl) pa_nil))))) pa_nil)))))
    (pss_cons (ps_expr (pe_meV (pv 0) cls_make V_make hr (by omega) pass0 (pa_cons pe_str (pa_cons (pv 6) pa_nil))))
    (pss_one (ps_expr (pe_meth (pv 0) cls_here hm_here F_here (hr.mono (by omega)) b_here .nil pass0 (pa_cons (pv 7) pa_nil))))))))))))), ?_⟩
  refine U.w_start (σ' := [some _, some _, some _, none, none, none, none, none]) rfl ?_
  walk_at "st"
  cases x <;> try (exact absurd hx (by simp only [Sm.ki]; decide))
  rename_i e bs
  rw [Sm.ok] at hk
  rw [Sm.sz] at ht
  rw [Sm.enc] at hz
  rw [smC] at q
  obtain ⟨he, hb⟩ := hk
  obtain ⟨p, v1, v2, v3, rfl, hT, h1, h2, h3⟩ := dp_tup3 hz
  obtain ⟨rv, sv, S, _, _⟩ := M.ex
  walk_at "go"
  refine ⟨W, R0, B0, R, L, g, s, rfl, M, by omega, fun H1 M1 => ?_⟩
  obtain ⟨_, _, S1, _, _⟩ := M1.ex
  walk_at "go"
  refine ⟨W, R0, B0, R, L, g, _, rfl, M1, by rw [tot_mark]; omega, fun H2 M2 => ?_⟩
  rw [pn_mark]
  obtain ⟨_, _, S2, _, _⟩ := M2.ex
  walk_at "go"
  refine ⟨W, R0, B0, R, L, g, _, s.places.length, rfl, M2, by rw [pn_mark, pn_mark]; omega, fun H3 M3 => ?_⟩
  obtain ⟨_, _, S3, _, _⟩ := M3.ex
  walk_at "go"
  refine w_mk M3 (by rw [tot_here, tot_mark, tot_mark]; omega) rfl (.cons (.str "turn") .nil) (r := .turn) rfl fun R4 H4 M4 s4 => ?_
  have t4 : ((s.mark.mark.here s.places.length).make .turn).tot = s.tot + 3 := by rw [tot_make, tot_here, tot_mark, tot_mark]
  have p4 : ((s.mark.mark.here s.places.length).make .turn).places.length = s.places.length + 2 := by rw [pn_make, pn_here, pn_mark, pn_mark]
  generalize (s.mark.mark.here s.places.length).make .turn = s5 at *
  walk_at "go"
  refine ⟨W, R0, B0, R4, L, g, s5, e, v2, rfl, he, M4, h2.up s4, by omega, fun R6 H6 M6 s6 => ?_⟩
  obtain ⟨_, _, S6, _, _⟩ := M6.ex
  walk_at "go"
  refine w_mk M6 (by rw [tot_ex]; omega) rfl (.cons (.str "nought") (.cons (.int (s.places.length + 1 : Nat)) .nil)) (r := .nought (s.places.length + 1)) rfl fun R7 H7 M7 s7 => ?_
  have t7 : ((exC e s5).make (.nought (s.places.length + 1))).tot = s.tot + e.sz + 4 := by rw [tot_make, tot_ex]; omega
  have p7 : ((exC e s5).make (.nought (s.places.length + 1))).places.length = s.places.length + 2 := by rw [pn_make, pn_ex]; omega
  generalize (exC e s5).make (.nought (s.places.length + 1)) = s8 at *
  have s47 := (s4.trans s6).trans s7
  obtain ⟨rv7, sv7, S7, h71, h72⟩ := M7.ex
  obtain ⟨adx, hA0⟩ := hA
  have hA7 := (s47.trans S7.sub') _ _ hA0
  walk_at "go"
  intro xa dxa nx nd ne
  refine w_arS S7 ar.give (s.places.length + 1) s.places.length ar.ends nx nd ne fun R9 H9 S9 s9 A9 => ⟨rfl, ?_⟩
  have M9 : MSt K cK W R0 B0 R9 H9 L g s8 := ⟨rv7, sv7, S9, h71.up s9, h72.up s9⟩
  walk_at "go"
  refine ⟨W, R0, B0, R9, L, g, s8, bs, ⟨ar.give, some (s.places.length + 1, s.places.length), ar.ends⟩, v3, xa, rfl, hb, M9, h3.up (s47.trans s9), A9, by omega, fun RA HA MA sA => ?_⟩
  have tA := tot_bl bs ⟨ar.give, some (s.places.length + 1, s.places.length), ar.ends⟩ s8
  have pA := pn_bl bs ⟨ar.give, some (s.places.length + 1, s.places.length), ar.ends⟩ s8
  generalize blC bs ⟨ar.give, some (s.places.length + 1, s.places.length), ar.ends⟩ s8 = sB at *
  obtain ⟨_, _, SA, _, _⟩ := MA.ex
  walk_at "go"
  refine w_mk MA (by omega) rfl (.cons (.str "go") (.cons (.int (s.places.length : Nat)) .nil)) (r := .go s.places.length) rfl fun RC HC MC sC => ?_
  obtain ⟨_, _, SC, _, _⟩ := MC.ex
  walk_at "go"
  refine ⟨W, R0, B0, RC, L, g, _, s.places.length + 1, rfl, MC, by rw [pn_make]; omega, fun HD MD => ?_⟩
  walk_at "go"
  exact q _ _ MD (((s47.trans s9).trans sA).trans sC)
end
end CM

namespace CM
open PySem PySem.Spec PyProof.Rows L2 U MM TR M
local macro_rules | `(tactic| walk_at "own1") => `(tactic| first
  | (with_reducible refine U.w_meV ?_)
  | walk_at "own2")
section
variable {P : Program} {w : World} {K : PySem.W.Frag} {mg : Str → Option Value} {base : Heap} {cK cA : Addr} {W : List Addr} {R0 B0 R H : Hp} {L : List (Addr × HO)} {g : Gm} {s : Mk}
theorem ca_catchS (D : Df K mg "catch_making" (top 45)) (iK : CI K cK fK) (V_make : CaV P w K mg base CX0 1 cK "make" (spMake K cK)) (M_mark : CaM P w K mg base CX0 1 cK "mark" (spMark K cK)) (M_here : CaM P w K mg base CX0 1 cK "here" (spHere K cK))
    (m : Nat) (c_block_making : Ca P w K mg base CX0 (3 * m + 9) "block_making" (spBl K cK cA m)) (c__held : Ca P w K mg base CX0 (3 * m + 10) "_held" (spHeld K cK cA m)) (c__let_others_go_on : Ca P w K mg base CX0 2 "_let_others_go_on" (spOth K cK)) : Ca P w K mg base CX0 (3 * m + 11) "catch_making" (spSt K cK cA m 7) := by
  have cls_make := iK.cls
  have cls_mark := iK.cls
  have cls_here := iK.cls
  obtain ⟨f_mark, fd_mark, ps_mark, F_mark, hm_mark, b_mark⟩ := M_mark.ex
  obtain ⟨f_here, fd_here, ps_here, F_here, hm_here, b_here⟩ := M_here.ex
  have sc : FnScope ["maker", "statement", "around", "_", "body", "wanted", "box", "hand", "caught", "behind"] ["maker", "statement", "around"] (defScope (top 45)) := ⟨rfl, rfl, rfl, by decide +kernel, rfl, by decide +kernel, by decide +kernel⟩
  have nd := sc.nd
  refine D.ca0 sc (fun _ _ _ _ _ _ us hl => match us, hl with | [_, _, _], _ => rfl) (fun vs H Q E h => by obtain ⟨_, _, _, _, _, _, _, _, _, _, _, rfl, _⟩ := h; rfl) (fun f cdv A outer s H vs Q E hr h => ?_)
  obtain ⟨W, R0, B0, R, L, g, s, x, ar, z, a, rfl, hx, hk, M, hz, hA, ht, q⟩ := h
  refine ⟨_, (pss_cons (ps_asg (pv 1) (pg_tup rfl (pgs_cons (pg_name (i := 3) nd rfl (by first | exact Or.inl rfl | exact Or.inr rfl)) (pgs_cons (pg_name (i := 4) nd rfl (by first | exact Or.inl rfl | exact Or.inr rfl)) (pgs_cons (pg_name (i := 5) nd rfl (by first | exact Or.inl rfl | exact Or.inr rfl)) (pgs_cons (pg_name (i := 6) nd rfl (by first | exact Or.inl rfl | exact Or.inr rfl)) (pgs_cons (pg_name (i := 7) nd rfl (by first | exact Or.inl rfl | exact Or.inr rfl)) pgs_nil)))))))
    (pss_cons (ps_set (i := 8) nd rfl (by first | exact Or.inl rfl | exact Or.inr rfl) (pe_meth0 (pv 0) cls_mark hm_mark F_mark (hr.mono (by omega)) b_mark .nil pass0))
    (pss_cons (ps_set (i := 9) nd rfl (by first | exact Or.inl rfl | exact Or.inr rfl) (pe_meth0 (pv 0) cls_mark hm_mark F_mark (hr.mono (by omega)) b_mark .nil pass0))
    (pss_cons (ps_expr (pe_ca c__held hr (by omega) rfl pass0 (pa_cons (pv 0) (pa_cons (pv 4) (pa_cons (pv 2) (pa_cons (pv 8) pa_nil))))))
    (pss_cons (ps_expr (pe_meV (pv 0) cls_make V_make hr (by omega) pass0 (pa_cons pe_str (pa_cons (pv 9) pa_nil))))
    (pss_cons (ps_expr (pe_meth (pv 0) cls_here hm_here F_here (hr.mono (by omega)) b_here .nil pass0 (pa_cons (pv 8) pa_nil)))
    (pss_cons (ps_if (pt_cmpR op_notNo (pv 5) pe_non (nomark _)) (pss_one (ps_expr (pe_ca c__let_others_go_on hr (by omega) rfl pass0 (pa_cons (pv 0) (pa_cons (pv 5) pa_nil))))) pss_nil)
    (pss_cons (ps_expr (pe_meV (pv 0) cls_make V_make hr (by omega) pass0 (pa_cons pe_str (pa_cons (pv 6) pa_nil))))
    (pss_cons (ps_expr (pe_ca c_block_making hr (by omega) rfl pass0 (pa_cons (pv 0) (pa_cons (pv 7) (pa_cons (pv 2) pa_nil)))))
    (pss_one (ps_expr (pe_meth (pv 0) cls_here hm_here F_here (hr.mono (by omega)) b_here .nil pass0 (pa_cons (pv 9) pa_nil))))))))))))), ?_⟩
  refine U.w_start (σ' := [some _, some _, some _, none, none, none, none, none, none, none]) rfl ?_
  walk_at "st"
  cases x <;> try (exact absurd hx (by simp only [Sm.ki]; decide))
  rename_i bs n k hs
  rw [Sm.ok] at hk
  rw [Sm.sz] at ht
  rw [Sm.enc] at hz
  rw [smC] at q
  obtain ⟨hb, hh⟩ := hk
  obtain ⟨p, v1, v2, v3, v4, v5, rfl, hT, h1, h2, h3, h4, h5⟩ := dp_tup5 hz
  cases dp_int h4
  obtain ⟨rv, sv, S, _, _⟩ := M.ex
  walk_at "go"
  refine ⟨W, R0, B0, R, L, g, s, rfl, M, by omega, fun H1 M1 => ?_⟩
  obtain ⟨_, _, S1, _, _⟩ := M1.ex
  walk_at "go"
  refine ⟨W, R0, B0, R, L, g, _, rfl, M1, by rw [tot_mark]; omega, fun H2 M2 => ?_⟩
  rw [pn_mark]
  have t2 : s.mark.mark.tot = s.tot + 2 := by rw [tot_mark, tot_mark]
  have p2 : s.mark.mark.places.length = s.places.length + 2 := by rw [pn_mark, pn_mark]
  generalize s.mark.mark = s2 at *
  walk_at "go"
  refine ⟨W, R0, B0, R, L, g, s2, bs, ar, v2, a, s.places.length, rfl, hb, M2, h2, hA, by omega, fun R3 H3 M3 s3 => ?_⟩
  have t3 := tot_held (goal := s.places.length) (tot_bl bs ar s2)
  have p3 : s2.places.length ≤ (heldC (blC bs ar) s.places.length s2).places.length := by rw [pn_held]; exact pn_bl bs ar s2
  generalize heldC (blC bs ar) s.places.length s2 = s4 at *
  obtain ⟨_, _, S3, _, _⟩ := M3.ex
  walk_at "go"
  refine w_mk M3 (by omega) rfl (.cons (.str "go") (.cons (.int (s.places.length + 1 : Nat)) .nil)) (r := .go (s.places.length + 1)) rfl fun R4 H4 M4 s5 => ?_
  obtain ⟨_, _, S4, _, _⟩ := M4.ex
  walk_at "go"
  refine ⟨W, R0, B0, R4, L, g, _, s.places.length, rfl, M4, by rw [pn_make]; omega, fun H5 M5 => ?_⟩
  have t5 : ((s4.make (.go (s.places.length + 1))).here s.places.length).tot = s4.tot + 1 := by rw [tot_here, tot_make]
  have p5 : ((s4.make (.go (s.places.length + 1))).here s.places.length).places.length = s4.places.length := by rw [pn_here, pn_make]
  generalize (s4.make (.go (s.places.length + 1))).here s.places.length = s6 at *
  have s35 := s3.trans s5
  walk_at "go"
  refine w_ifJ (by walk_at "set") (fun σ' H' => ∃ R', σ' = [some (.ref g.t), some (.ref p), some (.ref a), some v1, some v2, some v3, some (.int k), some v5, some (.int (s.places.length : Nat)), some (.int (s.places.length + 1 : Nat))] ∧ MSt K cK W R0 B0 R' H' L g (wantC n s6) ∧ Same R4 R') (fun nx' kj => ?_) (fun σ' H' hj => ?_)
  · cases n with
    | none =>
      cases dp_non h3
      walk_at "go"
      exact kj _ _ ⟨R4, rfl, M5, Same.refl _⟩
    | some y =>
      cases dp_int h3
      walk_at "go"
      refine ⟨W, R0, B0, R4, L, g, s6, y, rfl, M5, by omega, fun R6 H6 M6 s7 => ?_⟩
      walk_at "go"
      exact kj _ _ ⟨R6, rfl, M6, s7⟩
  obtain ⟨R6, rfl, M6, s7⟩ := hj
  have t6 := tot_want (n := n) (s := s6)
  have p6 := pn_want (n := n) (s := s6)
  generalize wantC n s6 = s8 at *
  obtain ⟨_, _, S6, _, _⟩ := M6.ex
  walk_at "go"
  refine w_mk M6 (by omega) rfl (.cons (.str "set") (.cons (.int k) .nil)) (r := .set k) rfl fun R7 H7 M7 s9 => ?_
  have s79 := (s35.trans s7).trans s9
  walk_at "go"
  refine ⟨W, R0, B0, R7, L, g, _, hs, ar, v5, a, rfl, hh, M7, h5.up s79, hA.up s79, by rw [tot_make]; omega, fun R8 H8 M8 sA => ?_⟩
  have p8 := pn_bl hs ar (s8.make (.set k))
  rw [pn_make] at p8
  obtain ⟨_, _, S8, _, _⟩ := M8.ex
  walk_at "go"
  refine ⟨W, R0, B0, R8, L, g, _, s.places.length + 1, rfl, M8, by omega, fun H9 M9 => ?_⟩
  walk_at "go"
  exact q _ _ M9 (s79.trans sA)
end
end CM

namespace CM
open PySem PySem.Spec PyProof.Rows L2 U MM TR M
local macro_rules | `(tactic| walk_at "own1") => `(tactic| first
  | (with_reducible refine U.w_meV ?_)
  | walk_at "own2")
section
variable {P : Program} {w : World} {K : PySem.W.Frag} {mg : Str → Option Value} {base : Heap} {cK cA : Addr} {W : List Addr} {R0 B0 R H : Hp} {L : List (Addr × HO)} {g : Gm} {s : Mk}
theorem max_nat (a b : Nat) : (if ((b : Nat) : Int) > ((a : Nat) : Int) then ((b : Nat) : Int) else ((a : Nat) : Int)) = ((max a b : Nat) : Int) := by
  split <;> omega
theorem ca_endS (B : Bi mg) (D : Df K mg "end_making" (top 48)) (iK : CI K cK fK) (iA : CI K cA fA) (g_BOXES : ∃ t, mg "BOXES" = some (.int 4 t)) (V_make : CaV P w K mg base CX0 1 cK "make" (spMake K cK)) (M_mark : CaM P w K mg base CX0 1 cK "mark" (spMark K cK)) (M_here : CaM P w K mg base CX0 1 cK "here" (spHere K cK)) (c_Around : CaI P w K mg base CX0 1 "Around" cA (spArI cA))
    (c__ways_to_last : Ca P w K mg base CX0 3 "_ways_to_last" (spWays K cK cA)) (c__go_to_last : Ca P w K mg base CX0 2 "_go_to_last" (spGoL K cK)) (c__bring_to_last : Ca P w K mg base CX0 3 "_bring_to_last" (spBring K cK))
    (m : Nat) (c_block_making : Ca P w K mg base CX0 (3 * m + 9) "block_making" (spBl K cK cA m)) (c__held : Ca P w K mg base CX0 (3 * m + 10) "_held" (spHeld K cK cA m)) : Ca P w K mg base CX0 (3 * m + 11) "end_making" (spSt K cK cA m 8) := by
  have cls_make := iK.cls
  have cls_mark := iK.cls
  have cls_here := iK.cls
  obtain ⟨f_mark, fd_mark, ps_mark, F_mark, hm_mark, b_mark⟩ := M_mark.ex
  obtain ⟨f_here, fd_here, ps_here, F_here, hm_here, b_here⟩ := M_here.ex
  have sc : FnScope ["maker", "statement", "around", "_", "body", "last", "way", "worth", "fault", "start", "behind", "inner", "give_on", "fault_on"] ["maker", "statement", "around"] (defScope (top 48)) := ⟨rfl, rfl, rfl, by decide +kernel, rfl, by decide +kernel, by decide +kernel⟩
  have nd := sc.nd
  refine D.ca0 sc (fun _ _ _ _ _ _ us hl => match us, hl with | [_, _, _], _ => rfl) (fun vs H Q E h => by obtain ⟨_, _, _, _, _, _, _, _, _, _, _, rfl, _⟩ := h; rfl) (fun f cdv A outer s H vs Q E hr h => ?_)
  obtain ⟨W, R0, B0, R, L, g, s, x, ar, z, a, rfl, hx, hk, M, hz, hA, ht, q⟩ := h
  refine ⟨_, (pss_cons (ps_asg (pv 1) (pg_tup rfl (pgs_cons (pg_name (i := 3) nd rfl (by first | exact Or.inl rfl | exact Or.inr rfl)) (pgs_cons (pg_name (i := 4) nd rfl (by first | exact Or.inl rfl | exact Or.inr rfl)) (pgs_cons (pg_name (i := 5) nd rfl (by first | exact Or.inl rfl | exact Or.inr rfl)) pgs_nil)))))
    (pss_cons (ps_set (i := 6) nd rfl (by first | exact Or.inl rfl | exact Or.inr rfl) (pe_op op_add (pe_op op_add (pe_gi rfl g_BOXES) pe_int) (pe_op op_mul pe_int (pe_fld (pv 2) rfl))))
    (pss_cons (ps_set (i := 7) nd rfl (by first | exact Or.inl rfl | exact Or.inr rfl) (pe_op op_add (pv 6) pe_int))
    (pss_cons (ps_fld (pv 0) (pe_callB (call_maxA rfl) rfl B.max (by decide +kernel) (pa_cons (pe_fld (pv 0) rfl) (pa_cons (pe_op op_add (pv 7) pe_int) pa_nil))) rfl)
    (pss_cons (ps_set (i := 8) nd rfl (by first | exact Or.inl rfl | exact Or.inr rfl) (pe_meth0 (pv 0) cls_mark hm_mark F_mark (hr.mono (by omega)) b_mark .nil pass0))
    (pss_cons (ps_set (i := 9) nd rfl (by first | exact Or.inl rfl | exact Or.inr rfl) (pe_meth0 (pv 0) cls_mark hm_mark F_mark (hr.mono (by omega)) b_mark .nil pass0))
    (pss_cons (ps_set (i := 10) nd rfl (by first | exact Or.inl rfl | exact Or.inr rfl) (pe_meth0 (pv 0) cls_mark hm_mark F_mark (hr.mono (by omega)) b_mark .nil pass0))
    (pss_cons (ps_set (i := 11) nd rfl (by first | exact Or.inl rfl | exact Or.inr rfl) (pe_ca c__ways_to_last hr (by omega) rfl pass0 (pa_cons (pv 0) (pa_cons (pv 2) pa_nil))))
    (pss_cons (ps_expr (pe_ca c__held hr (by omega) rfl pass0 (pa_cons (pv 0) (pa_cons (pv 4) (pa_cons (pv 11) (pa_cons (pv 8) pa_nil))))))
    (pss_cons (ps_expr (pe_ca c__go_to_last hr (by omega) rfl pass0 (pa_cons (pv 0) (pa_cons (pv 6) (pa_cons (pv 10) (pa_cons (pv 9) pa_nil))))))
    (pss_cons (ps_if (pt_cmpR op_notNo (pe_fld (pv 2) rfl) pe_non (nomark _)) (pss_cons (ps_expr (pe_meth (pv 0) cls_here hm_here F_here (hr.mono (by omega)) b_here .nil pass0 (pa_cons (pe_fld (pv 11) rfl) pa_nil)))
    (pss_cons (ps_expr (pe_ca c__go_to_last hr (by omega) rfl pass0 (pa_cons (pv 0) (pa_cons (pv 6) (pa_cons (pe_fld (pv 2) rfl) (pa_cons (pv 9) pa_nil))))))
    (pss_cons (ps_expr (pe_meth (pv 0) cls_here hm_here F_here (hr.mono (by omega)) b_here .nil pass0 (pa_cons (pe_fld (pv 11) rfl) pa_nil)))
    (pss_one (ps_expr (pe_ca c__go_to_last hr (by omega) rfl pass0 (pa_cons (pv 0) (pa_cons (pv 6) (pa_cons (pe_fld (pv 2) rfl) (pa_cons (pv 9) pa_nil)))))))))) pss_nil)
    (pss_cons (ps_set (i := 12) nd rfl (by first | exact Or.inl rfl | exact Or.inr rfl) (pe_ca c__bring_to_last hr (by omega) rfl pass0 (pa_cons (pv 0) (pa_cons (pe_fld (pv 11) rfl) (pa_cons (pv 6) (pa_cons (pv 9) pa_nil))))))
    (pss_cons (ps_set (i := 13) nd rfl (by first | exact Or.inl rfl | exact Or.inr rfl) (pe_ca c__bring_to_last hr (by omega) rfl pass0 (pa_cons (pv 0) (pa_cons (pv 8) (pa_cons (pv 6) (pa_cons (pv 9) pa_nil))))))
    (pss_cons (ps_expr (pe_meth (pv 0) cls_here hm_here F_here (hr.mono (by omega)) b_here .nil pass0 (pa_cons (pv 9) pa_nil)))
    (pss_cons (ps_expr (pe_ca c_block_making hr (by omega) rfl pass0 (pa_cons (pv 0) (pa_cons (pv 5) (pa_cons (pe_mk c_Around hr (by omega) rfl pass0 (pa_cons (pe_fld (pv 2) rfl) (pa_cons (pe_fld (pv 2) rfl) (pa_cons (pe_fld (pv 2) rfl) (pa_cons (pe_op op_add (pe_fld (pv 2) rfl) pe_int) pa_nil))))) pa_nil)))))
    (pss_cons (ps_expr (pe_meV (pv 0) cls_make V_make hr (by omega) pass0 (pa_cons pe_str (pa_cons (pv 6) pa_nil))))
    (pss_cons (ps_expr (pe_meth (pv 0) cls_here hm_here F_here (hr.mono (by omega)) b_here .nil pass0 (pa_cons (pv 12) pa_nil)))
    (pss_cons (ps_expr (pe_meV (pv 0) cls_make V_make hr (by omega) pass0 (pa_cons pe_str (pa_cons (pv 7) pa_nil))))
    (pss_cons (ps_expr (pe_meV (pv 0) cls_make V_make hr (by omega) pass0 (pa_cons pe_str (pa_cons (pe_fld (pv 2) rfl) pa_nil))))
    (pss_cons (ps_expr (pe_meth (pv 0) cls_here hm_here F_here (hr.mono (by omega)) b_here .nil pass0 (pa_cons (pv 13) pa_nil)))
    (pss_cons (ps_expr (pe_meV (pv 0) cls_make V_make hr (by omega) pass0 (pa_cons pe_str (pa_cons (pv 7) pa_nil))))
    (pss_cons (ps_expr (pe_meV (pv 0) cls_make V_make hr (by omega) pass0 (pa_cons pe_str pa_nil)))
    (pss_one (ps_expr (pe_meth (pv 0) cls_here hm_here F_here (hr.mono (by omega)) b_here .nil pass0 (pa_cons (pv 10) pa_nil)))))))))))))))))))))))))), ?_⟩
  refine U.w_start (σ' := [some _, some _, some _, none, none, none, none, none, none, none, none, none, none, none]) rfl ?_
  walk_at "st"
  cases x <;> try (exact absurd hx (by simp only [Sm.ki]; decide))
  rename_i bs ls
  rw [Sm.ok] at hk
  rw [Sm.sz] at ht
  rw [Sm.enc] at hz
  rw [smC] at q
  obtain ⟨hb, hl⟩ := hk
  obtain ⟨p, v1, v2, v3, rfl, hT, h1, h2, h3⟩ := dp_tup3 hz
  obtain ⟨rv, sv, S, hr1, hs1⟩ := M.ex
  obtain ⟨adx, hA0⟩ := hA
  obtain ⟨gv, lv, en⟩ := ar
  cases lv with
  | none =>
    have hA0' : R a = some (.ins cA adx [("give", .int (gv : Nat)), ("leave", V.non), ("again", V.non), ("ends", .int (en : Nat))]) := hA0
    have hAH := S.sub' _ _ hA0'
    walk_at "go"
    rw [show (4 : Int) + 1 + 2 * ((en : Nat) : Int) = ((5 + 2 * en : Nat) : Int) from by omega]
    simp only at q ht
    generalize 5 + 2 * en = way at *
    rw [show ((way : Nat) : Int) + 1 + 1 = ((way + 2 : Nat) : Int) from rfl, max_nat, show ((way : Nat) : Int) + 1 = ((way + 1 : Nat) : Int) from rfl]
    have M0 : MSt K cK W R0 B0 R _ L g (s.box (way + 2)) := ⟨rv, sv, S.set 0 rfl (mK cK g (max s.boxes (way + 2))), hr1, hs1⟩
    have t0 : (s.box (way + 2)).tot = s.tot := rfl
    have p0 : (s.box (way + 2)).places.length = s.places.length := rfl
    generalize hsb : s.box (way + 2) = sb at *
    generalize ho : s.places.length = o at *
    refine ⟨W, R0, B0, R, L, g, sb, rfl, M0, by omega, fun H1 M1 => ?_⟩
    obtain ⟨_, _, S1, _, _⟩ := M1.ex
    rw [p0]
    walk_at "go"
    refine ⟨W, R0, B0, R, L, g, _, rfl, M1, by rw [tot_mark]; omega, fun H2 M2 => ?_⟩
    obtain ⟨_, _, S2, _, _⟩ := M2.ex
    rw [pn_mark, p0]
    walk_at "go"
    refine ⟨W, R0, B0, R, L, g, _, rfl, M2, by rw [tot_mark, tot_mark]; omega, fun H3 M3 => ?_⟩
    obtain ⟨_, _, S3, _, _⟩ := M3.ex
    rw [pn_mark, pn_mark, p0]
    have t3 : sb.mark.mark.mark.tot = s.tot + 3 := by rw [tot_mark, tot_mark, tot_mark]; omega
    have p3 : sb.mark.mark.mark.places.length = o + 3 := by rw [pn_mark, pn_mark, pn_mark]; omega
    walk_at "go"
    refine ⟨W, R0, B0, R, L, g, sb.mark.mark.mark, ⟨gv, none, en⟩, a, rfl, M3, by omega, ⟨adx, hA0⟩, fun R4 H4 a4 M4 s4 A4 => ?_⟩
    simp only at M4 A4
    rw [p3] at A4
    have q' : ∀ R' H', MSt K cK W R0 B0 R' H' L g (endTail way (way + 1) (goOuts way o none (goLast way (o + 2) (o + 1) (heldC (blC bs ⟨o + 3, none, en + 1⟩) o (marksE ⟨gv, none, en⟩ sb)))).places.length (bring (o + 3) way (o + 1) (goOuts way o none (goLast way (o + 2) (o + 1) (heldC (blC bs ⟨o + 3, none, en + 1⟩) o (marksE ⟨gv, none, en⟩ sb))))).places.length (o + 2) gv (blC ls ⟨gv, none, en + 1⟩ ((bring o way (o + 1) (bring (o + 3) way (o + 1) (goOuts way o none (goLast way (o + 2) (o + 1) (heldC (blC bs ⟨o + 3, none, en + 1⟩) o (marksE ⟨gv, none, en⟩ sb)))))).here (o + 1)))) → Same R R' → Q .non H' := q
    clear q
    have eM : marksE ⟨gv, none, en⟩ sb = sb.mark.mark.mark.mark := rfl
    rw [eM] at q'
    have t4 : (sb.mark.mark.mark.mark).tot = s.tot + 4 := by simp only [tot_mark]; omega
    have p4 : (sb.mark.mark.mark.mark).places.length = o + 4 := by simp only [pn_mark]; omega
    generalize sb.mark.mark.mark.mark = s5 at *
    have A4' : ArAt cA R4 a4 ⟨o + 3, none, en + 1⟩ := A4
    obtain ⟨_, _, S4, _, _⟩ := M4.ex
    walk_at "go"
    refine ⟨W, R0, B0, R4, L, g, s5, bs, ⟨o + 3, none, en + 1⟩, v2, a4, o, rfl, hb, M4, h2.up s4, A4', by omega, fun R5 H5 M5 s55 => ?_⟩
    have t5 := tot_held (goal := o) (tot_bl bs ⟨o + 3, none, en + 1⟩ s5)
    have p5 : s5.places.length ≤ (heldC (blC bs ⟨o + 3, none, en + 1⟩) o s5).places.length := by rw [pn_held]; exact pn_bl bs _ s5
    generalize heldC (blC bs ⟨o + 3, none, en + 1⟩) o s5 = s6 at *
    obtain ⟨_, _, S5, _, _⟩ := M5.ex
    walk_at "go"
    refine ⟨W, R0, B0, R5, L, g, s6, way, o + 2, o + 1, rfl, M5, by omega, fun R6 H6 M6 s66 => ?_⟩
    have t6 := tot_goLast (s := s6) (way := way) (mark := o + 2) (start := o + 1)
    have p6 := pn_goLast (s := s6) (way := way) (mark := o + 2) (start := o + 1)
    generalize goLast way (o + 2) (o + 1) s6 = s7 at *
    have s46 := (s4.trans s55).trans s66
    obtain ⟨_, _, S6, _, _⟩ := M6.ex
    have hA6 := (s46.trans S6.sub') _ _ hA0'
    obtain ⟨bdx, hI⟩ := A4'
    have hI' : R4 a4 = some (.ins cA bdx [("give", .int (o + 3 : Nat)), ("leave", V.non), ("again", V.non), ("ends", .int (en + 1 : Nat))]) := hI
    have hI6 := ((s55.trans s66).trans S6.sub') _ _ hI'
    walk_at "go"
    walk_at "if"
    have eG : goOuts way o none s7 = s7 := rfl
    rw [eG] at q'
    have tA : s7.tot ≤ s6.tot + 3 := by omega
    have pA : s7.places.length = s6.places.length := p6
    have MA := M6
    have s4A := s46
    have s5A := s55.trans s66
    generalize s7 = sB at *
    have RA0 := R6
    obtain ⟨_, _, SA, _, _⟩ := MA.ex
    have hIA := (s5A.trans SA.sub') _ _ hI'
    walk_at "go"
    refine ⟨W, R0, B0, R6, L, g, sB, o + 3, way, o + 1, rfl, MA, by omega, by omega, fun RB HB MB sBB => ?_⟩
    have tB := tot_bring (s := sB) (mark := o + 3) (way := way) (start := o + 1)
    have pB := pn_bring (s := sB) (mark := o + 3) (way := way) (start := o + 1)
    generalize bring (o + 3) way (o + 1) sB = sC at *
    obtain ⟨_, _, SB, _, _⟩ := MB.ex
    walk_at "go"
    refine ⟨W, R0, B0, RB, L, g, sC, o, way, o + 1, rfl, MB, by omega, by omega, fun RC HC MC sCC => ?_⟩
    have tC := tot_bring (s := sC) (mark := o) (way := way) (start := o + 1)
    have pC := pn_bring (s := sC) (mark := o) (way := way) (start := o + 1)
    generalize bring o way (o + 1) sC = sD at *
    obtain ⟨_, _, SC, _, _⟩ := MC.ex
    walk_at "go"
    refine ⟨W, R0, B0, RC, L, g, sD, o + 1, rfl, MC, by omega, fun HD MD => ?_⟩
    have tD : (sD.here (o + 1)).tot = sD.tot := tot_here
    have pD : (sD.here (o + 1)).places.length = sD.places.length := pn_here
    generalize sD.here (o + 1) = sE at *
    obtain ⟨rvD, svD, SD, hrD, hsD⟩ := MD.ex
    have s4C := (s4A.trans sBB).trans sCC
    have hAD := (s4C.trans SD.sub') _ _ hA0'
    walk_at "go"
    intro xa dxa nx nd ne
    rw [show ((en : Nat) : Int) + 1 = ((en + 1 : Nat) : Int) from rfl]
    refine w_arQ (Q := fun v H2 => v = .non ∧ _) SD ⟨gv, none, en + 1⟩ nx nd ne fun RE HE SE sEE AE => ⟨rfl, ?_⟩
    have ME : MSt K cK W R0 B0 RE HE L g sE := ⟨rvD, svD, SE, hrD.up sEE, hsD.up sEE⟩
    have s4E := s4C.trans sEE
    walk_at "go"
    refine ⟨W, R0, B0, RE, L, g, sE, ls, ⟨gv, none, en + 1⟩, v3, xa, rfl, hl, ME, h3.up s4E, AE, by omega, fun RF HF MF sFF => ?_⟩
    have tF := tot_bl ls ⟨gv, none, en + 1⟩ sE
    have pF := pn_bl ls ⟨gv, none, en + 1⟩ sE
    generalize blC ls ⟨gv, none, en + 1⟩ sE = sG at *
    unfold endTail at q'
    obtain ⟨_, _, SF, _, _⟩ := MF.ex
    walk_at "go"
    refine w_mk MF (by omega) rfl (.cons (.str "on") (.cons (.int (way : Nat)) .nil)) (r := .on (way : Nat)) rfl fun RG HG MG sGG => ?_
    obtain ⟨_, _, SG, _, _⟩ := MG.ex
    walk_at "go"
    refine ⟨W, R0, B0, RG, L, g, _, sB.places.length, rfl, MG, by rw [pn_make]; omega, fun HH MH => ?_⟩
    obtain ⟨_, _, SH, _, _⟩ := MH.ex
    walk_at "go"
    refine w_mk MH (by rw [tot_here, tot_make]; omega) rfl (.cons (.str "get") (.cons (.int (way + 1 : Nat)) .nil)) (r := .get ((way + 1 : Nat) : Int)) rfl fun RI HI MI sII => ?_
    obtain ⟨_, _, SI, _, _⟩ := MI.ex
    have hAI := ((((s4E.trans sFF).trans sGG).trans sII).trans SI.sub') _ _ hA0'
    walk_at "go"
    refine w_mk MI (by rw [tot_make, tot_here, tot_make]; omega) rfl (.cons (.str "go") (.cons (.int (gv : Nat)) .nil)) (r := .go gv) rfl fun RJ HJ MJ sJJ => ?_
    obtain ⟨_, _, SJ, _, _⟩ := MJ.ex
    walk_at "go"
    refine ⟨W, R0, B0, RJ, L, g, _, sC.places.length, rfl, MJ, by simp only [pn_make, pn_here]; omega, fun HK MK => ?_⟩
    obtain ⟨_, _, SK, _, _⟩ := MK.ex
    walk_at "go"
    refine w_mk MK (by simp only [tot_make, tot_here]; omega) rfl (.cons (.str "get") (.cons (.int (way + 1 : Nat)) .nil)) (r := .get ((way + 1 : Nat) : Int)) rfl fun RL HL ML sLL => ?_
    obtain ⟨_, _, SL, _, _⟩ := ML.ex
    walk_at "go"
    refine w_mk ML (by simp only [tot_make, tot_here]; omega) rfl (.cons (.str "raise") .nil) (r := .raise) rfl fun RN HN MN sNN => ?_
    obtain ⟨_, _, SN, _, _⟩ := MN.ex
    walk_at "go"
    refine ⟨W, R0, B0, RN, L, g, _, o + 2, rfl, MN, by simp only [pn_make, pn_here]; omega, fun HO MO => ?_⟩
    walk_at "go"
    exact q' _ _ MO ((((((s4E.trans sFF).trans sGG).trans sII).trans sJJ).trans sLL).trans sNN)
  | some y =>
    obtain ⟨la, lb⟩ := y
    have hA0' : R a = some (.ins cA adx [("give", .int (gv : Nat)), ("leave", V.int (la : Nat)), ("again", V.int (lb : Nat)), ("ends", .int (en : Nat))]) := hA0
    have hAH := S.sub' _ _ hA0'
    walk_at "go"
    rw [show (4 : Int) + 1 + 2 * ((en : Nat) : Int) = ((5 + 2 * en : Nat) : Int) from by omega]
    simp only at q ht
    generalize 5 + 2 * en = way at *
    rw [show ((way : Nat) : Int) + 1 + 1 = ((way + 2 : Nat) : Int) from rfl, max_nat, show ((way : Nat) : Int) + 1 = ((way + 1 : Nat) : Int) from rfl]
    have M0 : MSt K cK W R0 B0 R _ L g (s.box (way + 2)) := ⟨rv, sv, S.set 0 rfl (mK cK g (max s.boxes (way + 2))), hr1, hs1⟩
    have t0 : (s.box (way + 2)).tot = s.tot := rfl
    have p0 : (s.box (way + 2)).places.length = s.places.length := rfl
    generalize hsb : s.box (way + 2) = sb at *
    generalize ho : s.places.length = o at *
    refine ⟨W, R0, B0, R, L, g, sb, rfl, M0, by omega, fun H1 M1 => ?_⟩
    obtain ⟨_, _, S1, _, _⟩ := M1.ex
    rw [p0]
    walk_at "go"
    refine ⟨W, R0, B0, R, L, g, _, rfl, M1, by rw [tot_mark]; omega, fun H2 M2 => ?_⟩
    obtain ⟨_, _, S2, _, _⟩ := M2.ex
    rw [pn_mark, p0]
    walk_at "go"
    refine ⟨W, R0, B0, R, L, g, _, rfl, M2, by rw [tot_mark, tot_mark]; omega, fun H3 M3 => ?_⟩
    obtain ⟨_, _, S3, _, _⟩ := M3.ex
    rw [pn_mark, pn_mark, p0]
    have t3 : sb.mark.mark.mark.tot = s.tot + 3 := by rw [tot_mark, tot_mark, tot_mark]; omega
    have p3 : sb.mark.mark.mark.places.length = o + 3 := by rw [pn_mark, pn_mark, pn_mark]; omega
    walk_at "go"
    refine ⟨W, R0, B0, R, L, g, sb.mark.mark.mark, ⟨gv, some (la, lb), en⟩, a, rfl, M3, by omega, ⟨adx, hA0⟩, fun R4 H4 a4 M4 s4 A4 => ?_⟩
    simp only at M4 A4
    rw [p3] at A4
    have q' : ∀ R' H', MSt K cK W R0 B0 R' H' L g (endTail way (way + 1) (goOuts way o (some (la, lb)) (goLast way (o + 2) (o + 1) (heldC (blC bs ⟨o + 3, some (o + 4, o + 5), en + 1⟩) o (marksE ⟨gv, some (la, lb), en⟩ sb)))).places.length (bring (o + 3) way (o + 1) (goOuts way o (some (la, lb)) (goLast way (o + 2) (o + 1) (heldC (blC bs ⟨o + 3, some (o + 4, o + 5), en + 1⟩) o (marksE ⟨gv, some (la, lb), en⟩ sb))))).places.length (o + 2) gv (blC ls ⟨gv, some (la, lb), en + 1⟩ ((bring o way (o + 1) (bring (o + 3) way (o + 1) (goOuts way o (some (la, lb)) (goLast way (o + 2) (o + 1) (heldC (blC bs ⟨o + 3, some (o + 4, o + 5), en + 1⟩) o (marksE ⟨gv, some (la, lb), en⟩ sb)))))).here (o + 1)))) → Same R R' → Q .non H' := q
    clear q
    have eM : marksE ⟨gv, some (la, lb), en⟩ sb = sb.mark.mark.mark.mark.mark.mark := rfl
    rw [eM] at q'
    have t4 : (sb.mark.mark.mark.mark.mark.mark).tot = s.tot + 6 := by simp only [tot_mark]; omega
    have p4 : (sb.mark.mark.mark.mark.mark.mark).places.length = o + 6 := by simp only [pn_mark]; omega
    generalize sb.mark.mark.mark.mark.mark.mark = s5 at *
    have A4' : ArAt cA R4 a4 ⟨o + 3, some (o + 4, o + 5), en + 1⟩ := A4
    obtain ⟨_, _, S4, _, _⟩ := M4.ex
    walk_at "go"
    refine ⟨W, R0, B0, R4, L, g, s5, bs, ⟨o + 3, some (o + 4, o + 5), en + 1⟩, v2, a4, o, rfl, hb, M4, h2.up s4, A4', by omega, fun R5 H5 M5 s55 => ?_⟩
    have t5 := tot_held (goal := o) (tot_bl bs ⟨o + 3, some (o + 4, o + 5), en + 1⟩ s5)
    have p5 : s5.places.length ≤ (heldC (blC bs ⟨o + 3, some (o + 4, o + 5), en + 1⟩) o s5).places.length := by rw [pn_held]; exact pn_bl bs _ s5
    generalize heldC (blC bs ⟨o + 3, some (o + 4, o + 5), en + 1⟩) o s5 = s6 at *
    obtain ⟨_, _, S5, _, _⟩ := M5.ex
    walk_at "go"
    refine ⟨W, R0, B0, R5, L, g, s6, way, o + 2, o + 1, rfl, M5, by omega, fun R6 H6 M6 s66 => ?_⟩
    have t6 := tot_goLast (s := s6) (way := way) (mark := o + 2) (start := o + 1)
    have p6 := pn_goLast (s := s6) (way := way) (mark := o + 2) (start := o + 1)
    generalize goLast way (o + 2) (o + 1) s6 = s7 at *
    have s46 := (s4.trans s55).trans s66
    obtain ⟨_, _, S6, _, _⟩ := M6.ex
    have hA6 := (s46.trans S6.sub') _ _ hA0'
    obtain ⟨bdx, hI⟩ := A4'
    have hI' : R4 a4 = some (.ins cA bdx [("give", .int (o + 3 : Nat)), ("leave", V.int (o + 4 : Nat)), ("again", V.int (o + 5 : Nat)), ("ends", .int (en + 1 : Nat))]) := hI
    have hI6 := ((s55.trans s66).trans S6.sub') _ _ hI'
    walk_at "go"
    walk_at "if"
    walk_at "go"
    refine ⟨W, R0, B0, R6, L, g, s7, o + 4, rfl, M6, by omega, fun H7 M7 => ?_⟩
    obtain ⟨_, _, S7, _, _⟩ := M7.ex
    have hA7 := (s46.trans S7.sub') _ _ hA0'
    walk_at "go"
    refine ⟨W, R0, B0, R6, L, g, _, way, la, o + 1, rfl, M7, by rw [tot_here]; omega, fun R8 H8 M8 s8 => ?_⟩
    obtain ⟨_, _, S8, _, _⟩ := M8.ex
    have hI8 := (((s55.trans s66).trans s8).trans S8.sub') _ _ hI'
    walk_at "go"
    refine ⟨W, R0, B0, R8, L, g, _, o + 5, rfl, M8, by rw [pn_goLast, pn_here]; omega, fun H9 M9 => ?_⟩
    obtain ⟨_, _, S9, _, _⟩ := M9.ex
    have hA9 := ((s46.trans s8).trans S9.sub') _ _ hA0'
    walk_at "go"
    refine ⟨W, R0, B0, R8, L, g, _, way, lb, o + 1, rfl, M9, by rw [tot_here, tot_goLast, tot_here]; omega, fun RA HA MA sA => ?_⟩
    have eG : goOuts way o (some (la, lb)) s7 = goLast way lb (o + 1) ((goLast way la (o + 1) (s7.here (o + 4))).here (o + 5)) := rfl
    have tA : (goLast way lb (o + 1) ((goLast way la (o + 1) (s7.here (o + 4))).here (o + 5))).tot = s7.tot + 6 := by rw [tot_goLast, tot_here, tot_goLast, tot_here]
    have pA : (goLast way lb (o + 1) ((goLast way la (o + 1) (s7.here (o + 4))).here (o + 5))).places.length = s7.places.length := by rw [pn_goLast, pn_here, pn_goLast, pn_here]
    rw [eG] at q'
    generalize goLast way lb (o + 1) ((goLast way la (o + 1) (s7.here (o + 4))).here (o + 5)) = sB at *
    have s4A := (s46.trans s8).trans sA
    have s5A := ((s55.trans s66).trans s8).trans sA
    obtain ⟨_, _, SA, _, _⟩ := MA.ex
    have hIA := (s5A.trans SA.sub') _ _ hI'
    walk_at "go"
    refine ⟨W, R0, B0, RA, L, g, sB, o + 3, way, o + 1, rfl, MA, by omega, by omega, fun RB HB MB sBB => ?_⟩
    have tB := tot_bring (s := sB) (mark := o + 3) (way := way) (start := o + 1)
    have pB := pn_bring (s := sB) (mark := o + 3) (way := way) (start := o + 1)
    generalize bring (o + 3) way (o + 1) sB = sC at *
    obtain ⟨_, _, SB, _, _⟩ := MB.ex
    walk_at "go"
    refine ⟨W, R0, B0, RB, L, g, sC, o, way, o + 1, rfl, MB, by omega, by omega, fun RC HC MC sCC => ?_⟩
    have tC := tot_bring (s := sC) (mark := o) (way := way) (start := o + 1)
    have pC := pn_bring (s := sC) (mark := o) (way := way) (start := o + 1)
    generalize bring o way (o + 1) sC = sD at *
    obtain ⟨_, _, SC, _, _⟩ := MC.ex
    walk_at "go"
    refine ⟨W, R0, B0, RC, L, g, sD, o + 1, rfl, MC, by omega, fun HD MD => ?_⟩
    have tD : (sD.here (o + 1)).tot = sD.tot := tot_here
    have pD : (sD.here (o + 1)).places.length = sD.places.length := pn_here
    generalize sD.here (o + 1) = sE at *
    obtain ⟨rvD, svD, SD, hrD, hsD⟩ := MD.ex
    have s4C := (s4A.trans sBB).trans sCC
    have hAD := (s4C.trans SD.sub') _ _ hA0'
    walk_at "go"
    intro xa dxa nx nd ne
    rw [show ((en : Nat) : Int) + 1 = ((en + 1 : Nat) : Int) from rfl]
    refine w_arQ (Q := fun v H2 => v = .non ∧ _) SD ⟨gv, some (la, lb), en + 1⟩ nx nd ne fun RE HE SE sEE AE => ⟨rfl, ?_⟩
    have ME : MSt K cK W R0 B0 RE HE L g sE := ⟨rvD, svD, SE, hrD.up sEE, hsD.up sEE⟩
    have s4E := s4C.trans sEE
    walk_at "go"
    refine ⟨W, R0, B0, RE, L, g, sE, ls, ⟨gv, some (la, lb), en + 1⟩, v3, xa, rfl, hl, ME, h3.up s4E, AE, by omega, fun RF HF MF sFF => ?_⟩
    have tF := tot_bl ls ⟨gv, some (la, lb), en + 1⟩ sE
    have pF := pn_bl ls ⟨gv, some (la, lb), en + 1⟩ sE
    generalize blC ls ⟨gv, some (la, lb), en + 1⟩ sE = sG at *
    unfold endTail at q'
    obtain ⟨_, _, SF, _, _⟩ := MF.ex
    walk_at "go"
    refine w_mk MF (by omega) rfl (.cons (.str "on") (.cons (.int (way : Nat)) .nil)) (r := .on (way : Nat)) rfl fun RG HG MG sGG => ?_
    obtain ⟨_, _, SG, _, _⟩ := MG.ex
    walk_at "go"
    refine ⟨W, R0, B0, RG, L, g, _, sB.places.length, rfl, MG, by rw [pn_make]; omega, fun HH MH => ?_⟩
    obtain ⟨_, _, SH, _, _⟩ := MH.ex
    walk_at "go"
    refine w_mk MH (by rw [tot_here, tot_make]; omega) rfl (.cons (.str "get") (.cons (.int (way + 1 : Nat)) .nil)) (r := .get ((way + 1 : Nat) : Int)) rfl fun RI HI MI sII => ?_
    obtain ⟨_, _, SI, _, _⟩ := MI.ex
    have hAI := ((((s4E.trans sFF).trans sGG).trans sII).trans SI.sub') _ _ hA0'
    walk_at "go"
    refine w_mk MI (by rw [tot_make, tot_here, tot_make]; omega) rfl (.cons (.str "go") (.cons (.int (gv : Nat)) .nil)) (r := .go gv) rfl fun RJ HJ MJ sJJ => ?_
    obtain ⟨_, _, SJ, _, _⟩ := MJ.ex
    walk_at "go"
    refine ⟨W, R0, B0, RJ, L, g, _, sC.places.length, rfl, MJ, by simp only [pn_make, pn_here]; omega, fun HK MK => ?_⟩
    obtain ⟨_, _, SK, _, _⟩ := MK.ex
    walk_at "go"
    refine w_mk MK (by simp only [tot_make, tot_here]; omega) rfl (.cons (.str "get") (.cons (.int (way + 1 : Nat)) .nil)) (r := .get ((way + 1 : Nat) : Int)) rfl fun RL HL ML sLL => ?_
    obtain ⟨_, _, SL, _, _⟩ := ML.ex
    walk_at "go"
    refine w_mk ML (by simp only [tot_make, tot_here]; omega) rfl (.cons (.str "raise") .nil) (r := .raise) rfl fun RN HN MN sNN => ?_
    obtain ⟨_, _, SN, _, _⟩ := MN.ex
    walk_at "go"
    refine ⟨W, R0, B0, RN, L, g, _, o + 2, rfl, MN, by simp only [pn_make, pn_here]; omega, fun HO MO => ?_⟩
    walk_at "go"
    exact q' _ _ MO ((((((s4E.trans sFF).trans sGG).trans sII).trans sJJ).trans sLL).trans sNN)
end
end CM

namespace CM
open PySem PySem.Spec PyProof.Rows L2 U MM TR M
local macro_rules | `(tactic| walk_at "own1") => `(tactic| first
  | (with_reducible refine U.w_meV ?_)
  | walk_at "own2")
section
variable {P : Program} {w : World} {K : PySem.W.Frag} {mg : Str → Option Value} {base : Heap} {cK cA : Addr} {W : List Addr} {R0 B0 R H : Hp} {L : List (Addr × HO)} {g : Gm} {s : Mk}
theorem sm_head {R : Hp} {v : V} {x : Sm} (h : Dp K R v x.enc) : ∃ p vs, v = .ref p ∧ SqT K R p (.str x.word :: vs) := by
  cases x <;> (
    rw [Sm.enc] at h
    obtain ⟨p, vs, rfl, hs, ha⟩ := dp_tup h
    obtain ⟨v1, w1, rfl, h1, _⟩ := dpa_cons ha
    cases dp_str h1
    exact ⟨p, w1, rfl, hs⟩)
/-- what making's table of acts holds -/
def ActC (w : World) (K : PySem.W.Frag) (aA : Addr) (Hl : Addr → Sp → Prop) (sp : Nat → Sp) : Prop := ∀ x : Sm, ∃ f, KDct K w aA (Sm.word x) (.ref f) ∧ Hl f (sp x.ki)
theorem ca_bl_no (D : Df K mg "block_making" (top 29)) : Ca P w K mg base CX0 9 "block_making" (spBl K cK cA 0) := by
  have sc : FnScope ["maker", "block", "around", "statement", "act"] ["maker", "block", "around"] (defScope (top 29)) := ⟨rfl, rfl, rfl, by decide +kernel, rfl, by decide +kernel, by decide +kernel⟩
  exact D.ca0 sc (fun _ _ _ _ _ _ us hl => match us, hl with | [_, _, _], _ => rfl) (fun _ _ _ _ h => by obtain ⟨_, _, _, _, _, _, _, _, _, _, _, _, h, _⟩ := h; exact absurd (okL_pos h) (Nat.lt_irrefl _)) (fun _ _ _ _ _ _ _ _ _ _ h => by obtain ⟨_, _, _, _, _, _, _, _, _, _, _, _, h, _⟩ := h; exact absurd (okL_pos h) (Nat.lt_irrefl _))
theorem blC_snoc : ∀ (l : List Sm) (x : Sm) (ar : Ar) (s : Mk), blC (l ++ [x]) ar s = smC x ar (blC l ar s)
  | [], x, ar, s => by rw [List.nil_append, blC, blC, blC]
  | y :: l, x, ar, s => by rw [List.cons_append, blC, blC_snoc l x ar, blC]
theorem szL_app : ∀ (l r : List Sm), szL (l ++ r) = szL l + szL r
  | [], r => by rw [List.nil_append, szL]; omega
  | y :: l, r => by rw [List.cons_append, szL, szL, szL_app l r]; omega
theorem ca_bl1 (D : Df K mg "block_making" (top 29)) {aA : Addr} {Hl : Addr → Sp → Prop} (g_ACTS_making : mg "ACTS_making" = some (.ref aA)) (m : Nat) (tab : ActC w K aA Hl (spSt K cK cA m)) (hA : ∀ f sp, Hl f sp → Cf P w K mg base CX0 (3 * m + 11) f sp) : Ca P w K mg base CX0 (3 * m + 12) "block_making" (spBl K cK cA (m + 1)) := by
  have sc : FnScope ["maker", "block", "around", "statement", "act"] ["maker", "block", "around"] (defScope (top 29)) := ⟨rfl, rfl, rfl, by decide +kernel, rfl, by decide +kernel, by decide +kernel⟩
  have nd := sc.nd
  refine D.ca0 sc (fun _ _ _ _ _ _ us hl => match us, hl with | [_, _, _], _ => rfl) (fun vs H Q E h => by obtain ⟨_, _, _, _, _, _, _, _, _, _, _, rfl, _⟩ := h; rfl) (fun f cdv A outer s H vs Q E hr h => ?_)
  obtain ⟨W, R0, B0, R, L, g, s, l, ar, z, a, rfl, hk, M, hz, hAr, ht, q⟩ := h
  refine ⟨_, (pss_one (ps_for PassesOwn.never rfl (pi_list (pv 1)) (pg_name (i := 3) nd rfl (by first | exact Or.inl rfl | exact Or.inr rfl)) (pss_cons (ps_set (i := 4) nd rfl (by first | exact Or.inl rfl | exact Or.inr rfl) (pe_ix ix_kdict (pe_gr rfl g_ACTS_making) (pe_ix ix_lt (pv 3) pe_int (fun _ _ => rfl)) (fun _ _ => rfl)))
    (pss_one (ps_expr (pe_callH hA hr (by omega) pass0 (i := 4) rfl (by first | exact Or.inl rfl | exact Or.inr (Or.inl rfl)) (pa_cons (pv 0) (pa_cons (pv 3) (pa_cons (pv 2) pa_nil))))))))), ?_⟩
  refine U.w_start (σ' := [some _, some _, some _, none, none]) rfl ?_
  walk_at "st"
  obtain ⟨p, vs, rfl, hT, hD⟩ := dp_lst hz
  have hlen : vs.length = l.length := by rw [hD.len, encL_len]
  obtain ⟨rv, sv, S, _, _⟩ := M.ex
  walk_at "go"
  refine for_L (fun i σ' H' => ∃ R' v3 v4, σ' = [some (.ref g.t), some (.ref p), some (.ref a), v3, v4] ∧ MSt K cK W R0 B0 R' H' L g (blC (l.take i) ar s) ∧ Same R R') (Same.seqL S.sub' hT) ⟨R, none, none, rfl, by rw [List.take_zero, blC]; exact M, Same.refl _⟩ (fun i σ' H' _ hp => ?_) (fun i y σ' H' hy hp => ?_) (fun σ' H' hp => ?_)
  · obtain ⟨R', v3, v4, rfl, M1, s1⟩ := hp
    obtain ⟨_, _, S1, _, _⟩ := M1.ex
    exact Same.seqL (s1.trans S1.sub') hT
  · obtain ⟨R', v3, v4, rfl, M1, s1⟩ := hp
    obtain ⟨_, _, S1, _, _⟩ := M1.ex
    obtain ⟨d, hd, hdx⟩ := hD.get hy
    rw [encL_map, List.getElem?_map] at hd
    obtain ⟨x, hx, rfl⟩ := Option.map_eq_some_iff.mp hd
    obtain ⟨px, vx, rfl, hTx⟩ := sm_head hdx
    have hTx1 := Same.seqT (s1.trans S1.sub') hTx
    have e2 : l.take (i + 1) = l.take i ++ [x] := take_succ hx
    have tl := tot_bl (l.take i) ar s
    have sz : szL (l.take i) + x.sz ≤ szL l := by
      have h := szL_app (l.take (i + 1)) (l.drop (i + 1))
      rw [List.take_append_drop, e2, szL_app, szL, szL] at h
      omega
    walk_at "go"
    obtain ⟨fa, hkd, hHl⟩ := tab x
    refine w_ixD hkd ?_
    walk_at "go"
    refine w_callH (f := fa) rfl hHl ?_
    walk_at "go"
    refine ⟨W, R0, B0, R', L, g, _, x, ar, .ref px, a, rfl, rfl, okL_get hk hx, M1, hdx.up s1, hAr.up s1, by omega, fun R2 H2 M2 s2 => ?_⟩
    walk_at "go"
    exact ⟨R2, _, _, rfl, by rw [e2, blC_snoc]; exact M2, s1.trans s2⟩
  · obtain ⟨R', v3, v4, rfl, M1, s1⟩ := hp
    rw [hlen, List.take_length] at M1
    walk_at "go"
    exact q _ _ M1 s1
end
end CM

namespace CM
open PySem PySem.Spec PyProof.Rows L2 U MM TR M
section
variable {P : Program} {w : World} {K : PySem.W.Frag} {mg : Str → Option Value} {base : Heap} {cK cA aA : Addr}
/-- which def does which kind of statement -/
def actName : Nat → Str
  | 0 => "set_making"
  | 1 => "_say_or_raise"
  | 2 => "if_making"
  | 3 => "loop_making"
  | 4 => "leave_making"
  | 5 => "next_making"
  | 6 => "give_making"
  | 7 => "catch_making"
  | _ => "end_making"
/-- all that stands of making behind the top -/
structure MakD (w : World) (K : PySem.W.Frag) (mg : Str → Option Value) (cK cA aA : Addr) : Prop where
  iK : CI K cK fK
  iA : CI K cA fA
  boxes : ∃ t, mg "BOXES" = some (.int 4 t)
  mark : DfM K mg "Maker" cK "mark" "Maker.mark" (inClass (top 23) 1)
  here : DfM K mg "Maker" cK "here" "Maker.here" (inClass (top 23) 2)
  make : DfM K mg "Maker" cK "make" "Maker.make" (inClass (top 23) 3)
  mki : DfI K mg "Maker" cK "Maker.__init__" (inClass (top 23) 0)
  ari : DfI K mg "Around" cA "Around.__init__" (inClass (top 24) 0)
  expr : Df K mg "_expression" (top 28)
  goL : Df K mg "_go_to_last" (top 51)
  bring : Df K mg "_bring_to_last" (top 52)
  oth : Df K mg "_let_others_go_on" (top 47)
  ways : Df K mg "_ways_to_last" (top 50)
  held : Df K mg "_held" (top 44)
  set : Df K mg "set_making" (top 31)
  sayR : Df K mg "_say_or_raise" (top 33)
  iff : Df K mg "if_making" (top 34)
  loop : Df K mg "loop_making" (top 36)
  leave : Df K mg "leave_making" (top 38)
  next : Df K mg "next_making" (top 40)
  give : Df K mg "give_making" (top 42)
  catch_ : Df K mg "catch_making" (top 45)
  endd : Df K mg "end_making" (top 48)
  block : Df K mg "block_making" (top 29)
  func : Df K mg "_function" (top 27)
  placed : Df K mg "_placed" (top 26)
  made : Df K mg "made" (top 25)
  acts : mg "ACTS_making" = some (.ref aA)
  tab : ∀ x : Sm, ∃ f, KDct K w aA (Sm.word x) (.ref f) ∧ mg (actName x.ki) = some (.ref f)
def HlC (K : PySem.W.Frag) (mg : Str → Option Value) (cK cA : Addr) (m : Nat) (f : Addr) (sp : Sp) : Prop := ∃ i, sp = spSt K cK cA m i ∧ mg (actName i) = some (.ref f) ∧ i ≤ 8
theorem ki_le (x : Sm) : x.ki ≤ 8 := by cases x <;> simp [Sm.ki]
theorem ca_bl (B : Bi mg) (D : MakD w K mg cK cA aA) : ∀ m : Nat, Ca P w K mg base CX0 (3 * m + 9) "block_making" (spBl K cK cA m)
  | 0 => ca_bl_no D.block
  | m + 1 => by
    have bl := ca_bl B D m
    have vm : CaV P w K mg base CX0 1 cK "make" (spMake K cK) := ca_make B D.make D.iK
    have mm : CaM P w K mg base CX0 1 cK "mark" (spMark K cK) := ca_mark B D.mark D.iK
    have mh : CaM P w K mg base CX0 1 cK "here" (spHere K cK) := ca_here B D.here D.iK
    have ar : CaI P w K mg base CX0 1 "Around" cA (spArI cA) := ca_arI D.ari D.iA
    have ex : Ca P w K mg base CX0 7 "_expression" (spEx K cK 6) := ca_ex B D.expr D.iK vm 6
    have gl := ca_goL D.goL D.iK vm
    have br := ca_bring D.bring D.iK vm mm mh gl
    have ot := ca_oth D.oth D.iK vm mm mh D.boxes
    have wy := ca_ways D.ways D.iK D.iA mm ar
    have he := ca_held B D.held D.iK m bl
    refine ca_bl1 D.block D.acts m (Hl := HlC K mg cK cA m) (fun x => ?_) (fun f sp h => ?_)
    · obtain ⟨f, h1, h2⟩ := D.tab x
      exact ⟨f, h1, x.ki, rfl, h2, ki_le x⟩
    · obtain ⟨i, rfl, hf, hi⟩ := h
      match i, hi, hf with
      | 0, _, hf => exact (ca_set D.set D.iK vm ex m).cf hf
      | 1, _, hf => exact (ca_sayR D.sayR D.iK vm ex m).cf hf
      | 2, _, hf => exact (ca_if D.iff D.iK vm mm mh ex m bl).cf hf
      | 3, _, hf => exact (ca_loopS D.loop D.iK D.iA vm mm mh ar ex m bl).cf hf
      | 4, _, hf => exact (ca_leave D.leave D.iK D.iA vm m).cf hf
      | 5, _, hf => exact (ca_nextS D.next D.iK D.iA vm m).cf hf
      | 6, _, hf => exact (ca_give D.give D.iK D.iA vm ex m).cf hf
      | 7, _, hf => exact (ca_catchS D.catch_ D.iK vm mm mh m bl he ot).cf hf
      | 8, _, hf => exact (ca_endS B D.endd D.iK D.iA D.boxes vm mm mh ar wy gl br m bl he).cf hf
      | n + 9, hi, _ => exact absurd hi (by omega)
def spFn (K : PySem.W.Frag) (cK : Addr) : Sp := fun vs H Q _ => ∃ (W : List Addr) (R0 B0 R : Hp) (L : List (Addr × HO)) (g : Gm) (s : Mk) (l : List Sm) (z : V), vs = [.ref g.t, z] ∧ okL l false 8 ∧ MSt K cK W R0 B0 R H L g s ∧ Dp K R z (.list (encL l)) ∧ s.tot + szL l + 3 ≤ 100000 ∧
  ∀ R' H', MSt K cK W R0 B0 R' H' L g (fnC l s) → Same R R' → Q .non H'
local macro_rules | `(tactic| walk_at "own1") => `(tactic| first
  | (with_reducible refine U.w_meV ?_)
  | walk_at "own2")
theorem ca_fn (D : Df K mg "_function" (top 27)) (iK : CI K cK fK) (V_make : CaV P w K mg base CX0 1 cK "make" (spMake K cK)) (M_mark : CaM P w K mg base CX0 1 cK "mark" (spMark K cK)) (M_here : CaM P w K mg base CX0 1 cK "here" (spHere K cK)) (c_Around : CaI P w K mg base CX0 1 "Around" cA (spArI cA))
    (c_block_making : Ca P w K mg base CX0 33 "block_making" (spBl K cK cA 8)) : Ca P w K mg base CX0 34 "_function" (spFn K cK) := by
  have cls_make := iK.cls
  have cls_mark := iK.cls
  have cls_here := iK.cls
  obtain ⟨f_mark, fd_mark, ps_mark, F_mark, hm_mark, b_mark⟩ := M_mark.ex
  obtain ⟨f_here, fd_here, ps_here, F_here, hm_here, b_here⟩ := M_here.ex
  have sc : FnScope ["maker", "block", "give"] ["maker", "block"] (defScope (top 27)) := ⟨rfl, rfl, rfl, by decide +kernel, rfl, by decide +kernel, by decide +kernel⟩
  have nd := sc.nd
  refine D.ca0 sc (fun _ _ _ _ _ _ us hl => match us, hl with | [_, _], _ => rfl) (fun vs H Q E h => by obtain ⟨_, _, _, _, _, _, _, _, _, rfl, _⟩ := h; rfl) (fun f cdv A outer s H vs Q E hr h => ?_)
  obtain ⟨W, R0, B0, R, L, g, s, l, z, rfl, hk, M, hz, ht, q⟩ := h
  refine ⟨_, (pss_cons (ps_set (i := 2) nd rfl (by first | exact Or.inl rfl | exact Or.inr rfl) (pe_meth0 (pv 0) cls_mark hm_mark F_mark (hr.mono (by omega)) b_mark .nil pass0))
    (pss_cons (ps_expr (pe_ca c_block_making hr (by omega) rfl pass0 (pa_cons (pv 0) (pa_cons (pv 1) (pa_cons (pe_mk c_Around hr (by omega) rfl pass0 (pa_cons (pv 2) (pa_cons pe_non (pa_cons pe_non (pa_cons pe_int pa_nil))))) pa_nil)))))
    (pss_cons (ps_expr (pe_meV (pv 0) cls_make V_make hr (by omega) pass0 (pa_cons pe_str (pa_cons pe_int pa_nil))))
    (pss_cons (ps_expr (pe_meth (pv 0) cls_here hm_here F_here (hr.mono (by omega)) b_here .nil pass0 (pa_cons (pv 2) pa_nil)))
    (pss_one (ps_expr (pe_meV (pv 0) cls_make V_make hr (by omega) pass0 (pa_cons pe_str pa_nil)))))))), ?_⟩
  refine U.w_start (σ' := [some _, some _, none]) rfl ?_
  walk_at "st"
  obtain ⟨rv, sv, S, _, _⟩ := M.ex
  unfold fnC at q
  walk_at "go"
  refine ⟨W, R0, B0, R, L, g, s, rfl, M, by omega, fun H1 M1 => ?_⟩
  have t1 : s.mark.tot = s.tot + 1 := tot_mark
  have p1 : s.mark.places.length = s.places.length + 1 := pn_mark
  generalize s.mark = s1 at *
  obtain ⟨rv1, sv1, S1, h1, h2⟩ := M1.ex
  walk_at "go"
  intro xa dxa nx nd ne
  refine w_arQ (Q := fun v H2 => v = .non ∧ _) S1 ⟨s.places.length, none, 0⟩ nx nd ne fun R2 H2 S2 s2 A2 => ⟨rfl, ?_⟩
  have M2 : MSt K cK W R0 B0 R2 H2 L g s1 := ⟨rv1, sv1, S2, h1.up s2, h2.up s2⟩
  walk_at "go"
  refine ⟨W, R0, B0, R2, L, g, s1, l, ⟨s.places.length, none, 0⟩, z, xa, rfl, hk, M2, hz.up s2, A2, by omega, fun R3 H3 M3 s3 => ?_⟩
  have t3 := tot_bl l ⟨s.places.length, none, 0⟩ s1
  have p3 := pn_bl l ⟨s.places.length, none, 0⟩ s1
  generalize blC l ⟨s.places.length, none, 0⟩ s1 = s4 at *
  obtain ⟨_, _, S3, _, _⟩ := M3.ex
  walk_at "go"
  refine w_mk M3 (by omega) rfl (.cons (.str "put") (.cons (.int 0) .nil)) (r := .put 0) rfl fun R4 H4 M4 s5 => ?_
  obtain ⟨_, _, S4, _, _⟩ := M4.ex
  walk_at "go"
  refine ⟨W, R0, B0, R4, L, g, _, s.places.length, rfl, M4, by rw [pn_make]; omega, fun H5 M5 => ?_⟩
  obtain ⟨_, _, S5, _, _⟩ := M5.ex
  walk_at "go"
  exact w_mk M5 (by rw [tot_here, tot_make]; omega) rfl (.cons (.str "back") .nil) (r := .back) rfl fun R6 H6 M6 s6 => q _ _ M6 (((s2.trans s3).trans s5).trans s6)
end
end CM

namespace CM
open PySem PySem.Spec PyProof.Rows L2 U MM TR M
local macro_rules | `(tactic| walk_at "own1") => `(tactic| first
  | (with_reducible refine U.w_meV ?_)
  | walk_at "own2")
section
variable {P : Program} {w : World} {K : PySem.W.Frag} {mg : Str → Option Value} {base : Heap} {cK cA aA : Addr}
def spMkI (K : PySem.W.Frag) (cK : Addr) : Sp := fun vs H Q _ => ∃ (W : List Addr) (R0 B0 R : Hp) (L : List (Addr × HO)) (t dx : Addr), vs = [.ref t] ∧ Sta W R0 B0 R H ((t, .ins cK dx []) :: L) ∧
  ∀ H' g, g.t = t → MSt K cK W R0 B0 R H' L g mk0 → Q .non H'
theorem ca_mkI (D : DfI K mg "Maker" cK "Maker.__init__" (inClass (top 23) 0)) (iK : CI K cK fK) (g_BOXES : ∃ t, mg "BOXES" = some (.int 4 t)) : CaI P w K mg base CX0 1 "Maker" cK (spMkI K cK) := by
  have sc : FnScope ["self"] ["self"] (defScope (inClass (top 23) 0)) := ⟨rfl, rfl, rfl, by decide +kernel, rfl, by decide +kernel, by decide +kernel⟩
  have nd := sc.nd
  refine D.ca0 sc (fun _ _ _ _ _ _ us hl => match us, hl with | [_], _ => rfl) (fun vs H Q E h => by obtain ⟨_, _, _, _, _, _, _, rfl, _⟩ := h; rfl) (fun f cdv A outer s H vs Q E hr h => ?_)
  obtain ⟨W, R0, B0, R, L, t, dx, rfl, S, q⟩ := h
  refine ⟨_, (pss_cons (ps_fld (pv 0) (pe_lst pa_nil) rfl)
    (pss_cons (ps_fld (pv 0) (pe_lst pa_nil) rfl)
    (pss_cons (ps_fld (pv 0) (pe_lst pa_nil) rfl)
    (pss_one (ps_fld (pv 0) (pe_op op_add (pe_gi rfl g_BOXES) pe_int) rfl))))), ?_⟩
  refine U.w_start (σ' := [some _]) rfl ?_
  walk_at "st"
  walk_at "go"
  intro a1 n1
  have S1 := (S.new n1 (.lst [])).set 1 rfl (.ins cK dx [("rows", .ref a1)])
  walk_at "go"
  intro a2 n2
  have S2 := (S1.new n2 (.lst [])).set 2 rfl (.ins cK dx [("rows", .ref a1), ("stretches", .ref a2)])
  walk_at "go"
  intro a3 n3
  have S3 := (S2.new n3 (.lst [])).set 3 rfl (.ins cK dx [("rows", .ref a1), ("stretches", .ref a2), ("places", .ref a3)])
  walk_at "go"
  have S4 := S3.set 3 rfl (.ins cK dx [("rows", .ref a1), ("stretches", .ref a2), ("places", .ref a3), ("boxes", .int 5)])
  refine q _ ⟨t, dx, a1, a2, a3⟩ rfl ⟨[], [], S4.perm ?_, .nil, .nil⟩
  exact (List.reverse_perm [((t, .ins cK dx [("rows", .ref a1), ("stretches", .ref a2), ("places", .ref a3), ("boxes", .int 5)]) : Addr × HO), (a1, .lst []), (a2, .lst []), (a3, .lst [])]).append_right L
def spPlc (K : PySem.W.Frag) : Sp := fun vs H Q _ => ∃ (W : List Addr) (R0 B0 R : Hp) (L : List (Addr × HO)) (Pl : List (Option Nat)) (r : Rr) (v : V) (aP : Addr), vs = [v, .ref aP] ∧ Sta W R0 B0 R H L ∧ SqL K H aP (Pl.map pV) ∧ Dp K R v r.enc ∧ rowOk Pl r ∧
  ∀ R' H' v', Sta W R0 B0 R' H' L → Same R R' → Dp K R' v' (plc Pl r).enc → Q v' H'
theorem at_pl {Pl : List (Option Nat)} {m : Nat} (h : markOk Pl m) : atI (Pl.map pV) ((m : Nat) : Int) = some (.int (atM Pl m : Nat)) := atI_nat (by rw [List.getElem?_map, h.at]; rfl)
theorem ca_plc (B : Bi mg) (D : Df K mg "_placed" (top 26)) : Ca P w K mg base CX0 1 "_placed" (spPlc K) := by
  have sc : FnScope ["row", "places", "word"] ["row", "places"] (defScope (top 26)) := ⟨rfl, rfl, rfl, by decide +kernel, rfl, by decide +kernel, by decide +kernel⟩
  have nd := sc.nd
  refine D.ca0 sc (fun _ _ _ _ _ _ us hl => match us, hl with | [_, _], _ => rfl) (fun vs H Q E h => by obtain ⟨_, _, _, _, _, _, _, _, _, rfl, _⟩ := h; rfl) (fun f cdv A outer s H vs Q E hr h => ?_)
  obtain ⟨W, R0, B0, R, L, Pl, r, v, aP, rfl, S, hP, hr', ok, q⟩ := h
  refine ⟨_, (pss_cons (ps_set (i := 2) nd rfl (by first | exact Or.inl rfl | exact Or.inr rfl) (pe_ix ix_lt (pv 0) pe_int (fun _ _ => rfl)))
    (pss_cons (ps_if (pt_cmpR op_eq (pv 2) pe_str (nomark _)) (pss_one (ps_ret (pe_tup (pa_cons pe_str (pa_cons (pe_ix ix_lt (pv 1) (pe_ix ix_lt (pv 0) pe_int (fun _ _ => rfl)) (fun _ _ => rfl)) pa_nil))))) pss_nil)
    (pss_cons (ps_if (pt_cmpR op_in_seq (pv 2) (pe_tup (pa_cons pe_str (pa_cons pe_str pa_nil))) rfl) (pss_one (ps_ret (pe_tup (pa_cons (pv 2) (pa_cons (pe_ix ix_lt (pv 1) (pe_ix ix_lt (pv 0) pe_int (fun _ _ => rfl)) (fun _ _ => rfl)) pa_nil))))) pss_nil)
    (pss_one (ps_ret (pv 0)))))), ?_⟩
  refine U.w_start (σ' := [some _, some _, none]) rfl ?_
  walk_at "st"
  cases r with
  | way m =>
    obtain ⟨p, v1, v2, rfl, hT, h1, h2⟩ := dp_tup2 hr'
    cases dp_str h1
    cases dp_int h2
    walk_at "go"
    walk_at "if"
    walk_at "go"
    refine w_ixLL hP (at_pl ok) ?_
    walk_at "go"
    intro T nT
    exact q _ _ _ (S.newR nT _) (same_new (S.nR nT) _) (dp_tupN (S.nR nT) (.cons (.str _) (.cons (.int _) .nil)))
  | go m =>
    obtain ⟨p, v1, v2, rfl, hT, h1, h2⟩ := dp_tup2 hr'
    cases dp_str h1
    cases dp_int h2
    walk_at "go"
    walk_at "if"
    walk_at "go"
    walk_at "if"
    intro zt nzt
    have S2 := S.newX nzt (.tup [.str "go", .str "nought"])
    have hT2 := Same.seqT S2.sub' hT
    refine w_inT (b := true) (SqT.of upd_same) rfl rfl (by decide +kernel) ?_
    walk_at "go"
    refine w_ixLL (Same.seqL (same_new nzt _) hP) (at_pl ok) ?_
    walk_at "go"
    intro T nT
    exact q _ _ _ (S2.newR nT _) (same_new (S2.nR nT) _) (dp_tupN (S2.nR nT) (.cons (.str _) (.cons (.int _) .nil)))
  | nought m =>
    obtain ⟨p, v1, v2, rfl, hT, h1, h2⟩ := dp_tup2 hr'
    cases dp_str h1
    cases dp_int h2
    walk_at "go"
    walk_at "if"
    walk_at "go"
    walk_at "if"
    intro zt nzt
    have S2 := S.newX nzt (.tup [.str "go", .str "nought"])
    have hT2 := Same.seqT S2.sub' hT
    refine w_inT (b := true) (SqT.of upd_same) rfl rfl (by decide +kernel) ?_
    walk_at "go"
    refine w_ixLL (Same.seqL (same_new nzt _) hP) (at_pl ok) ?_
    walk_at "go"
    intro T nT
    exact q _ _ _ (S2.newR nT _) (same_new (S2.nR nT) _) (dp_tupN (S2.nR nT) (.cons (.str _) (.cons (.int _) .nil)))
  | put n =>
    obtain ⟨p, v1, v2, rfl, hT, h1, h2⟩ := dp_tup2 hr'
    cases dp_str h1
    walk_at "go"
    walk_at "if"
    walk_at "go"
    walk_at "if"
    intro zt nzt
    refine w_inT (b := false) (SqT.of upd_same) rfl rfl (by decide +kernel) ?_
    walk_at "go"
    exact q _ _ _ (S.newX nzt _) (Same.refl _) hr'
  | get n =>
    obtain ⟨p, v1, v2, rfl, hT, h1, h2⟩ := dp_tup2 hr'
    cases dp_str h1
    walk_at "go"
    walk_at "if"
    walk_at "go"
    walk_at "if"
    intro zt nzt
    refine w_inT (b := false) (SqT.of upd_same) rfl rfl (by decide +kernel) ?_
    walk_at "go"
    exact q _ _ _ (S.newX nzt _) (Same.refl _) hr'
  | set n =>
    obtain ⟨p, v1, v2, rfl, hT, h1, h2⟩ := dp_tup2 hr'
    cases dp_str h1
    walk_at "go"
    walk_at "if"
    walk_at "go"
    walk_at "if"
    intro zt nzt
    refine w_inT (b := false) (SqT.of upd_same) rfl rfl (by decide +kernel) ?_
    walk_at "go"
    exact q _ _ _ (S.newX nzt _) (Same.refl _) hr'
  | on n =>
    obtain ⟨p, v1, v2, rfl, hT, h1, h2⟩ := dp_tup2 hr'
    cases dp_str h1
    walk_at "go"
    walk_at "if"
    walk_at "go"
    walk_at "if"
    intro zt nzt
    refine w_inT (b := false) (SqT.of upd_same) rfl rfl (by decide +kernel) ?_
    walk_at "go"
    exact q _ _ _ (S.newX nzt _) (Same.refl _) hr'
  | call n =>
    obtain ⟨p, v1, v2, rfl, hT, h1, h2⟩ := dp_tup2 hr'
    cases dp_str h1
    walk_at "go"
    walk_at "if"
    walk_at "go"
    walk_at "if"
    intro zt nzt
    refine w_inT (b := false) (SqT.of upd_same) rfl rfl (by decide +kernel) ?_
    walk_at "go"
    exact q _ _ _ (S.newX nzt _) (Same.refl _) hr'
  | say =>
    obtain ⟨p, v1, rfl, hT, h1⟩ := dp_tup1 hr'
    cases dp_str h1
    walk_at "go"
    walk_at "if"
    walk_at "go"
    walk_at "if"
    intro zt nzt
    refine w_inT (b := false) (SqT.of upd_same) rfl rfl (by decide +kernel) ?_
    walk_at "go"
    exact q _ _ _ (S.newX nzt _) (Same.refl _) hr'
  | turn =>
    obtain ⟨p, v1, rfl, hT, h1⟩ := dp_tup1 hr'
    cases dp_str h1
    walk_at "go"
    walk_at "if"
    walk_at "go"
    walk_at "if"
    intro zt nzt
    refine w_inT (b := false) (SqT.of upd_same) rfl rfl (by decide +kernel) ?_
    walk_at "go"
    exact q _ _ _ (S.newX nzt _) (Same.refl _) hr'
  | back =>
    obtain ⟨p, v1, rfl, hT, h1⟩ := dp_tup1 hr'
    cases dp_str h1
    walk_at "go"
    walk_at "if"
    walk_at "go"
    walk_at "if"
    intro zt nzt
    refine w_inT (b := false) (SqT.of upd_same) rfl rfl (by decide +kernel) ?_
    walk_at "go"
    exact q _ _ _ (S.newX nzt _) (Same.refl _) hr'
  | raise =>
    obtain ⟨p, v1, rfl, hT, h1⟩ := dp_tup1 hr'
    cases dp_str h1
    walk_at "go"
    walk_at "if"
    walk_at "go"
    walk_at "if"
    intro zt nzt
    refine w_inT (b := false) (SqT.of upd_same) rfl rfl (by decide +kernel) ?_
    walk_at "go"
    exact q _ _ _ (S.newX nzt _) (Same.refl _) hr'
  | rek o =>
    cases o <;> (
      obtain ⟨p, v1, rfl, hT, h1⟩ := dp_tup1 hr'
      cases dp_str h1
      simp only [Op4.word] at hT
      walk_at "go"
      walk_at "if"
      walk_at "go"
      walk_at "if"
      intro zt nzt
      refine w_inT (b := false) (SqT.of upd_same) rfl rfl (by decide +kernel) ?_
      walk_at "go"
      exact q _ _ _ (S.newX nzt _) (Same.refl _) hr')
end
end CM

namespace CM
open PySem PySem.Spec PyProof.Rows L2 U MM TR M
local macro_rules | `(tactic| walk_at "own1") => `(tactic| first
  | (with_reducible refine U.w_meV ?_)
  | walk_at "own2")
def spMade (K : PySem.W.Frag) (Gd : Pg → Prop) : Sp := fun vs H Q _ => ∃ (W : List Addr) (R0 B0 R : Hp) (L : List (Addr × HO)) (pg : Pg) (v : V), vs = [v] ∧ Gd pg ∧ Sta W R0 B0 R H L ∧ Dp K R v (encP pg) ∧ (∀ b ∈ pg, okL b false 8) ∧ szP pg < 100000 ∧ pg.length ≤ 100 ∧ MarksOk pg ∧
  ∀ R' H' p, Sta W R0 B0 R' H' L → Same R R' → Dp K R' (.ref p) ((codeC pg).enc) → Q (.ref p) H'
section
variable {P : Program} {w : World} {K : PySem.W.Frag} {mg : Str → Option Value} {base : Heap} {cK cA aA : Addr} {Gd : Pg → Prop}
theorem MSt.own {W : List Addr} {R0 B0 R H : Hp} {L : List (Addr × HO)} {g : Gm} {s : Mk} {z : Addr} (M : MSt K cK W R0 B0 R H L g s) (n : H z = none) (o : HO) : MSt K cK W R0 B0 R (upd H z o) ((z, o) :: L) g s := by
  obtain ⟨rv, sv, S, h1, h2⟩ := M.ex
  exact ⟨rv, sv, (S.new n o).perm (List.perm_middle (l₁ := [(g.t, mK cK g s.boxes), (g.aR, .lst rv), (g.aS, .lst sv), (g.aP, .lst (s.places.map pV))])).symm, h1, h2⟩
theorem MSt.setL {W : List Addr} {R0 B0 R H : Hp} {L : List (Addr × HO)} {g : Gm} {s : Mk} {z : Addr} {o : HO} (M : MSt K cK W R0 B0 R H ((z, o) :: L) g s) (u : HO) : MSt K cK W R0 B0 R (upd H z u) ((z, u) :: L) g s := by
  obtain ⟨rv, sv, S, h1, h2⟩ := M.ex
  exact ⟨rv, sv, S.set 4 rfl u, h1, h2⟩
@[reducible] def nV (l : List Nat) : List V := l.map fun n : Nat => V.int (n : Nat)
theorem take_get {pg : Pg} {i : Nat} {b : List Sm} (h : pg[i]? = some b) : szP (pg.take i) + (szL b + 3) ≤ szP pg := by
  have e := szP_app (pg.take (i + 1)) (pg.drop (i + 1))
  rw [List.take_append_drop, take_succ h, szP_app, szP, szP] at e
  omega
theorem fns_len : ∀ (l : Pg) (s : Mk), (fnsC l s).1.length = l.length
  | [], s => rfl
  | b :: l, s => congrArg (· + 1) (fns_len l (fnC b s))
theorem ca_made (B : Bi mg) (D : Df K mg "made" (top 25)) (iK : CI K cK fK) (c_Maker : CaI P w K mg base CX0 1 "Maker" cK (spMkI K cK)) (c_checked : Ca P w K mg base CX0 40 "checked" (spChk K Gd)) (c__function : Ca P w K mg base CX0 34 "_function" (spFn K cK)) (c__placed : Ca P w K mg base CX0 1 "_placed" (spPlc K)) : Ca P w K mg base CX0 41 "made" (spMade K Gd) := by
  have sc : FnScope ["program", "maker", "begins", "block", "places", "rows", "row", "stretches", "first", "behind", "goal"] ["program"] (defScope (top 25)) := ⟨rfl, rfl, rfl, by decide +kernel, rfl, by decide +kernel, by decide +kernel⟩
  have nd := sc.nd
  refine D.ca0 sc (fun _ _ _ _ _ _ us hl => match us, hl with | [_], _ => rfl) (fun vs H Q E h => by obtain ⟨_, _, _, _, _, _, _, rfl, _⟩ := h; rfl) (fun f cdv A outer s H vs Q E hr h => ?_)
  obtain ⟨W, R0, B0, R, L, pg, v, rfl, gd, S, hv, ok, ht, hl, mk, q⟩ := h
  refine ⟨_, (pss_cons (ps_expr (pe_ca c_checked hr (by omega) rfl pass0 (pa_cons (pv 0) pa_nil)))
    (pss_cons (ps_set (i := 1) nd rfl (by first | exact Or.inl rfl | exact Or.inr rfl) (pe_mk0 c_Maker hr (by omega) rfl pass0))
    (pss_cons (ps_set (i := 2) nd rfl (by first | exact Or.inl rfl | exact Or.inr rfl) (pe_lst pa_nil))
    (pss_cons (ps_for PassesOwn.never rfl (pi_list (pv 0)) (pg_name (i := 3) nd rfl (by first | exact Or.inl rfl | exact Or.inr rfl)) (pss_cons (ps_expr (pe_bm PySem.F.plainAttrs_list PySem.F.slot_list_append PySem.F.type_list_append mt_append (pv 2) (pa_cons (pe_callB call_lenA rfl B.len PySem.boot_len (pa_cons (pe_fld (pv 1) rfl) pa_nil)) pa_nil)))
    (pss_one (ps_expr (pe_ca c__function hr (by omega) rfl pass0 (pa_cons (pv 1) (pa_cons (pv 3) pa_nil)))))))
    (pss_cons (ps_set (i := 4) nd rfl (by first | exact Or.inl rfl | exact Or.inr rfl) (pe_fld (pv 1) rfl))
    (pss_cons (ps_setLc (i := 5) (own := [("row", 6)]) rfl nd rfl rfl (sw_true rfl rfl rfl (by decide +kernel)) (pi_list (pe_fld (pv 1) rfl)) (blkOk_by (N := ["program", "maker", "begins", "block", "places", "rows", "row", "stretches", "first", "behind", "goal"]) (sc := defScope (top 25)) (by decide +kernel)) (fun _ _ _ _ _ => (pg_name (i := 6) nd rfl (by first | exact Or.inl rfl | exact Or.inr rfl))) (fun _ _ _ _ _ => pts_nil) (fun _ _ _ _ _ => (pe_ca c__placed hr (by omega) rfl pass0 (pa_cons (pv 6) (pa_cons (pv 4) pa_nil)))))
    (pss_cons (ps_setLc (i := 7) (own := [("first", 8), ("behind", 9), ("goal", 10)]) rfl nd rfl rfl (sw_true rfl rfl rfl (by decide +kernel)) (pi_list (pe_fld (pv 1) rfl)) (blkOk_by (N := ["program", "maker", "begins", "block", "places", "rows", "row", "stretches", "first", "behind", "goal"]) (sc := defScope (top 25)) (by decide +kernel)) (fun _ _ _ _ _ => (pg_tupK (K := K) (n := 3) rfl rfl (pgs_cons (pg_name (i := 8) nd rfl (by first | exact Or.inl rfl | exact Or.inr rfl)) (pgs_cons (pg_name (i := 9) nd rfl (by first | exact Or.inl rfl | exact Or.inr rfl)) (pgs_cons (pg_name (i := 10) nd rfl (by first | exact Or.inl rfl | exact Or.inr rfl)) pgs_nil))))) (fun _ _ _ _ _ => pts_nil) (fun _ _ _ _ _ => (pe_tup (pa_cons (pv 8) (pa_cons (pv 9) (pa_cons (pe_ix (ix_ltK (K := K) rfl) (pv 4) (pv 10) (fun _ _ => rfl)) pa_nil))))))
    (pss_one (ps_ret (pe_tup (pa_cons (pv 5) (pa_cons (pv 7) (pa_cons (pv 2) (pa_cons (pe_fld (pv 1) rfl) pa_nil)))))))))))))), ?_⟩
  refine U.w_start (σ' := [some _, none, none, none, none, none, none, none, none, none, none]) rfl ?_
  walk_at "st"
  walk_at "go"
  refine ⟨W, R0, B0, R, L, pg, v, rfl, gd, S, hv, fun R1 H1 S1 s1 => ?_⟩
  walk_at "go"
  intro xm dxm nx nd ne
  refine ⟨W, R0, B0, R1, L, xm, dxm, rfl, (S1.newX nd (.own xm)).new ((upd_ne ne.symm).trans nx) _, fun H2 g eg M2 => ⟨rfl, ?_⟩⟩
  subst eg
  walk_at "go"
  intro zb nb
  have M3 := M2.own nb (.lst [])
  obtain ⟨pp, vs, rfl, hT, hD⟩ := dp_lst hv
  have hlen : vs.length = pg.length := by rw [hD.len, List.length_map]
  walk_at "go"
  walk_at "lp"
  obtain ⟨_, _, S3, _, _⟩ := M3.ex
  refine for_L (fun i σ' H' => ∃ R' v3, σ' = [some (.ref pp), some (.ref g.t), some (.ref zb), v3, none, none, none, none, none, none, none] ∧ MSt K cK W R0 B0 R' H' ((zb, .lst (nV (fnsC (pg.take i) mk0).1)) :: L) g (fnsC (pg.take i) mk0).2 ∧ Same R R') (Same.seqL (s1.trans S3.sub') hT) ⟨R1, none, rfl, M3, s1⟩ (fun i σ' H' _ hp => ?_) (fun i y σ' H' hy hp => ?_) (fun σ' H' hp => ?_)
  · obtain ⟨R', v3, rfl, M4, s4⟩ := hp
    obtain ⟨_, _, S4, _, _⟩ := M4.ex
    exact Same.seqL (s4.trans S4.sub') hT
  · obtain ⟨R', v3, rfl, M4, s4⟩ := hp
    obtain ⟨rv4, sv4, S4, h41, h42⟩ := M4.ex
    obtain ⟨d, hd, hdx⟩ := hD.get hy
    rw [List.getElem?_map] at hd
    obtain ⟨b, hb, rfl⟩ := Option.map_eq_some_iff.mp hd
    have tg := take_get hb
    have tf := tot_fns (pg.take i) mk0
    have hzl : (nV (fnsC (pg.take i) mk0).1).length < sizeLine := szlt (by rw [List.length_map, fns_len, List.length_take]; omega)
    have e2 : fnsC (pg.take (i + 1)) mk0 = ((fnsC (pg.take i) mk0).1 ++ [(fnsC (pg.take i) mk0).2.rows.length], fnC b (fnsC (pg.take i) mk0).2) := by rw [take_succ hb, fnsC_snoc]
    rw [e2]
    have e3 : rv4.length = (fnsC (pg.take i) mk0).2.rows.length := by rw [h41.len, List.length_map]
    generalize fnsC (pg.take i) mk0 = fs at *
    walk_at "go"
    rw [e3]
    have M5 := M4.setL (.lst (nV fs.1 ++ [.int (fs.2.rows.length : Nat)]))
    refine ⟨W, R0, B0, R', _, g, fs.2, b, y, rfl, ok b (List.mem_of_getElem? hb), M5, hdx.up s4, ?_, fun R6 H6 M6 s6 => ?_⟩
    · have : mk0.tot = 0 := rfl
      omega
    walk_at "go"
    refine ⟨R6, _, rfl, ?_, s4.trans s6⟩
    have e4 : nV (fs.1 ++ [fs.2.rows.length]) = nV fs.1 ++ [.int (fs.2.rows.length : Nat)] := by unfold nV; rw [List.map_append]; rfl
    simp only
    rw [e4]
    exact M6
  · obtain ⟨R', v3, rfl, M4, s4⟩ := hp
    rw [hlen, List.take_length] at M4
    obtain ⟨rv, sv, S4, h41, h42⟩ := M4.ex
    obtain ⟨mk1, mk2⟩ := mk
    have tl := tot_fns pg mk0
    have eC : codeC pg = { rows := (lastC pg).rows.map (plc (lastC pg).places), str := (lastC pg).str.map (stC (lastC pg).places), begins := (fnsC pg mk0).1.map fun n : Nat => ((n : Nat) : Int), boxes := ((lastC pg).boxes : Nat) } := rfl
    rw [eC] at q
    clear eC M4
    have hbl := fns_len pg mk0
    unfold lastC at *
    generalize fnsC pg mk0 = fs at *
    obtain ⟨bg, t⟩ := fs
    simp only at *
    have t0 : mk0.tot = 0 := rfl
    rw [t0] at tl
    have tl2 : t.rows.length + t.str.length + t.places.length ≤ 0 + szP pg := tl
    have l1 : t.rows.length ≤ 99999 := by omega
    have l2 : t.str.length ≤ 99999 := by omega
    walk_at "go"
    refine lc_L (xs := rv) (fun D i H1 => ∃ R5 vs5, Sta W R0 B0 R5 H1 ((D, .lst vs5) :: mO cK g rv sv (t.places.map pV) t.boxes ((zb, .lst (nV bg)) :: L)) ∧ Same R' R5 ∧ DpAll K R5 vs5 (((t.rows.take i).map (plc t.places)).map Rw.enc)) (SqL.of (S4.get 1 rfl)) (fun D n => ⟨R', [], S4.new n _, Same.refl _, .nil⟩) (fun D i H1 n hi p => by
      obtain ⟨R5, vs5, S5, _, _⟩ := p
      exact SqL.of (S5.get 2 rfl)) (fun D i x H1 n hx p => ?_) (fun D H1 n p => ?_)
    · obtain ⟨R5, vs5, S5, s5, k5⟩ := p
      obtain ⟨d, hd, hdx⟩ := h41.get hx
      rw [List.getElem?_map] at hd
      obtain ⟨r, hr1, rfl⟩ := Option.map_eq_some_iff.mp hd
      have hi := (List.getElem?_eq_some_iff.mp hr1).1
      walk_at "go"
      refine ⟨W, R0, B0, R5, _, t.places, r, x, g.aP, rfl, S5, SqL.of (S5.get 4 rfl), hdx.up s5, mk1 r (List.mem_of_getElem? hr1), fun R6 H6 v' S6 s6 k6 => ?_⟩
      walk_at "go"
      refine w_lcE (S6.get 0 rfl) (szlt (by rw [k5.len, List.length_map, List.length_map, List.length_take]; omega)) ?_
      refine ⟨R6, vs5 ++ [v'], S6.set 0 rfl _, s5.trans s6, ?_⟩
      rw [take_succ hr1, List.map_append, List.map_append]
      exact DpAll.app (k5.up s6) (.cons k6 .nil)
    · obtain ⟨R5, vs5, S5, s5, k5⟩ := p
      rw [h41.len, List.length_map, List.take_length] at k5
      obtain ⟨R6, e6, S6, s6, k6⟩ : ∃ R6, True ∧ Sta W R0 B0 R6 H1 (mO cK g rv sv (t.places.map pV) t.boxes ((zb, .lst (nV bg)) :: L)) ∧ Same R5 R6 ∧ Dp K R6 (.ref D) (.list ((t.rows.map (plc t.places)).map Rw.enc)) :=
        ⟨_, trivial, S5.frz, same_new (S5.noR 0 rfl) _, dp_lstN (S5.noR 0 rfl) k5⟩
      have s46 := s5.trans s6
      walk_at "go"
      refine lc_L (xs := sv) (fun D2 i H2 => ∃ R7 vs7, Sta W R0 B0 R7 H2 ((D2, .lst vs7) :: mO cK g rv sv (t.places.map pV) t.boxes ((zb, .lst (nV bg)) :: L)) ∧ Same R6 R7 ∧ DpAll K R7 vs7 (((t.str.take i).map (stC t.places)).map enc3)) (SqL.of (S6.get 2 rfl)) (fun D2 n2 => ⟨R6, [], S6.new n2 _, Same.refl _, .nil⟩) (fun D2 i H2 n2 hi p => by
        obtain ⟨R7, vs7, S7, _, _⟩ := p
        exact SqL.of (S7.get 3 rfl)) (fun D2 i x H2 n2 hx p => ?_) (fun D2 H2 n2 p => ?_)
      · obtain ⟨R7, vs7, S7, s7, k7⟩ := p
        obtain ⟨d, hd, hdx⟩ := h42.get hx
        rw [List.getElem?_map] at hd
        obtain ⟨y, hy1, rfl⟩ := Option.map_eq_some_iff.mp hd
        have hi := (List.getElem?_eq_some_iff.mp hy1).1
        obtain ⟨px, w1, w2, w3, rfl, hTx, q1, q2, q3⟩ := dp_tup3 hdx
        cases dp_int q1
        cases dp_int q2
        cases dp_int q3
        have hTx7 := Same.seqT ((s46.trans s7).trans S7.sub') hTx
        walk_at "go"
        refine w_ixLL (SqL.of (S7.get 4 rfl)) (at_pl (mk2 y (List.mem_of_getElem? hy1))) ?_
        walk_at "go"
        intro T nT
        have S8 := S7.newR nT (.tup [.int (y.1 : Nat), .int (y.2.1 : Nat), .int (atM t.places y.2.2 : Nat)])
        have k8 := S7.row nT k7 (.cons (.int (y.1 : Nat)) (.cons (.int (y.2.1 : Nat)) (.cons (.int (atM t.places y.2.2 : Nat)) .nil)))
        have hl7 : vs7.length < sizeLine := szlt (by rw [k7.len, List.length_map, List.length_map, List.length_take]; omega)
        walk_at "go"
        refine w_lcE (S8.get 0 rfl) hl7 ?_
        refine ⟨_, vs7 ++ [.ref T], S8.set 0 rfl _, s7.trans (same_new (S7.nR nT) _), ?_⟩
        rw [take_succ hy1, List.map_append, List.map_append]
        exact k8
      · obtain ⟨R7, vs7, S7, s7, k7⟩ := p
        rw [h42.len, List.length_map, List.take_length] at k7
        obtain ⟨R8, e8, S8, s8, k8⟩ : ∃ R8, True ∧ Sta W R0 B0 R8 H2 (mO cK g rv sv (t.places.map pV) t.boxes ((zb, .lst (nV bg)) :: L)) ∧ Same R7 R8 ∧ Dp K R8 (.ref D2) (.list ((t.str.map (stC t.places)).map enc3)) :=
          ⟨_, trivial, S7.frz, same_new (S7.noR 0 rfl) _, dp_lstN (S7.noR 0 rfl) k7⟩
        walk_at "go"
        intro T nT
        have S9 : Sta W R0 B0 R8 H2 ((zb, .lst (nV bg)) :: L) := S8.less (.cons _ (.cons _ (.cons _ (.cons _ (.refl _)))))
        have kb : DpAll K R8 (nV bg) (((bg.map fun n : Nat => ((n : Nat) : Int))).map PyData.int) := by
          have e : nV bg = (bg.map fun n : Nat => ((n : Nat) : Int)).map V.int := by unfold nV; rw [List.map_map]; rfl
          rw [e]
          exact .ints _
        obtain ⟨RA, eA, SA, sA, kA⟩ : ∃ RA, True ∧ Sta W R0 B0 RA H2 L ∧ Same R8 RA ∧ Dp K RA (.ref zb) (.list ((bg.map fun n : Nat => ((n : Nat) : Int)).map PyData.int)) :=
          ⟨_, trivial, S9.frz, same_new (S9.noR 0 rfl) _, dp_lstN (S9.noR 0 rfl) kb⟩
        refine q _ _ T (SA.newR nT _) (((((s4.trans s46).trans s7).trans s8).trans sA).trans (same_new (SA.nR nT) _)) ?_
        exact dp_tupN (SA.nR nT) (.cons (((k6.up s7).up s8).up sA) (.cons (k8.up sA) (.cons kA (.cons (.int _) .nil))))
end
end CM

namespace CM
open PySem PySem.Spec PyProof.Rows L2 U MM TR M He
/-! making, from what the head tells (own work) -/
section
variable {ws : List Wd} {ts : List Tab} {ex : PySem.W.Frag → Bool} {w : World} {K : PySem.W.Frag} {h : Heap} {mg : Str → Option Value}
theorem makD_of (X : K.In h) (G : h.Ns mainGlobals mg) (c : SaysU (faU ws) (fnU ws) ts ex w K) (hw : ∀ d ∈ cW, d ∈ ws) (i : Nat) (hi : ts[i]? = some acT) (hx : cX K = true) : MakD w K mg (ga K "Maker") (ga K "Around") (ga K "ACTS_making") := by
  have m : ∀ (i : Nat) (d : Wd), cW[i]? = some d → d ∈ ws := fun i d e => hw d (List.mem_of_getElem? e)
  have hs : ∀ (k : Nat) (q : Str × Dv), acN[k]? = some q → KDct K w (ga K "ACTS_making") q.1 (q.2.v K) := fun k q e => tab_u c i hi hx (List.mem_of_getElem? e)
  refine ⟨ci_m c (m 0 _ rfl), ci_m c (m 1 _ rfl), num_m X G c (m 2 _ rfl), me_m X G c (m 3 _ rfl), me_m X G c (m 4 _ rfl), me_m X G c (m 5 _ rfl), ini_m X G c (m 6 _ rfl), ini_m X G c (m 7 _ rfl), df_m X G c (m 8 _ rfl), df_m X G c (m 9 _ rfl), df_m X G c (m 10 _ rfl), df_m X G c (m 11 _ rfl), df_m X G c (m 12 _ rfl), df_m X G c (m 13 _ rfl), df_m X G c (m 14 _ rfl), df_m X G c (m 15 _ rfl), df_m X G c (m 16 _ rfl), df_m X G c (m 17 _ rfl), df_m X G c (m 18 _ rfl), df_m X G c (m 19 _ rfl), df_m X G c (m 20 _ rfl), df_m X G c (m 21 _ rfl), df_m X G c (m 22 _ rfl), df_m X G c (m 23 _ rfl), df_m X G c (m 24 _ rfl), df_m X G c (m 25 _ rfl), df_m X G c (m 26 _ rfl), any_m X G c (m 27 _ rfl), fun x => ?_⟩
  cases x with
  | set _ _ => exact ⟨_, hs 0 _ rfl, gl_m X G c (m 14 _ rfl)⟩
  | say _ => exact ⟨_, hs 1 _ rfl, gl_m X G c (m 15 _ rfl)⟩
  | raise _ => exact ⟨_, hs 7 _ rfl, gl_m X G c (m 15 _ rfl)⟩
  | iff _ _ _ => exact ⟨_, hs 2 _ rfl, gl_m X G c (m 16 _ rfl)⟩
  | loop _ _ => exact ⟨_, hs 3 _ rfl, gl_m X G c (m 17 _ rfl)⟩
  | leave => exact ⟨_, hs 4 _ rfl, gl_m X G c (m 18 _ rfl)⟩
  | next => exact ⟨_, hs 5 _ rfl, gl_m X G c (m 19 _ rfl)⟩
  | give _ => exact ⟨_, hs 6 _ rfl, gl_m X G c (m 20 _ rfl)⟩
  | «catch» _ _ _ _ => exact ⟨_, hs 8 _ rfl, gl_m X G c (m 21 _ rfl)⟩
  | endd _ _ => exact ⟨_, hs 9 _ rfl, gl_m X G c (m 22 _ rfl)⟩
end
section
variable {P : Program} {w : World} {K : PySem.W.Frag} {mg : Str → Option Value} {base : Heap} {cK cA aA : Addr} {Gd : Pg → Prop}
theorem ca_fnD (B : Bi mg) (D : MakD w K mg cK cA aA) : Ca P w K mg base CX0 34 "_function" (spFn K cK) :=
  ca_fn D.func D.iK (ca_make B D.make D.iK) (ca_mark B D.mark D.iK) (ca_here B D.here D.iK) (ca_arI D.ari D.iA) (ca_bl B D 8)
theorem ca_madeD (B : Bi mg) (D : MakD w K mg cK cA aA) (ck : Ca P w K mg base CX0 40 "checked" (spChk K Gd)) : Ca P w K mg base CX0 41 "made" (spMade K Gd) :=
  ca_made B D.made D.iK (ca_mkI D.mki D.iK D.boxes) ck (ca_fnD B D) (ca_plc B D.placed)
end
end CM

namespace TT
open PySem PySem.Spec PyProof.Rows L2 U MM TR M
/-! what is told, as the program's trees tell it: the state (own work) -/
structure Gt where
  r : Addr
  dx : Addr
  p : Addr
  s : Addr
  pg : Pg
  S : Nat
@[reducible] def rK (cR : Addr) (g : Gt) (ent : Int) (t : Nat) : HO := .ins cR g.dx [("program", .ref g.p), ("turns", .int (t : Nat)), ("entered", .int ent), ("said", .ref g.s)]
abbrev fR : List Str := ["program", "turns", "entered", "said"]
abbrev bO (aB : Addr) (b : Bx) (L : List (Addr × HO)) : List (Addr × HO) := (aB, .lst (b.map V.int)) :: L
structure TSt (K : PySem.W.Frag) (cR : Addr) (W : List Addr) (R0 B0 R H : Hp) (L : List (Addr × HO)) (g : Gt) (ent : Int) (q : Gs) : Prop where
  S : Sta W R0 B0 R H ((g.r, rK cR g ent q.t) :: (g.s, .lst (q.sd.map V.int)) :: L)
  P : Dp K R (.ref g.p) (encP g.pg)
def _root_.TR.Sm.tk : Sm → Nat
  | .set _ _ => 0
  | .say _ => 1
  | .iff _ _ _ => 2
  | .loop _ _ => 3
  | .leave => 4
  | .next => 5
  | .give _ => 6
  | .raise _ => 7
  | .catch _ _ _ _ => 8
  | .endd _ _ => 9
def Pok (g : Gt) : Prop := ∀ b ∈ g.pg, okL b false 8 ∧ rngL g.pg.length b ∧ szL b ≤ g.S
theorem Pok.grow {g : Gt} (h : Pok g) (d : Nat) : Grow g.S (callD g.pg d) := callD_pot (fun b hb => (h b hb).2.2) d
section
variable {K : PySem.W.Frag} {cR cF cT : Addr} {W : List Addr} {R0 B0 R H : Hp} {L L0 : List (Addr × HO)} {g : Gt} {ent : Int} {q : Gs} {z : Addr} {o u : HO}
theorem TSt.drop (M : TSt K cR W R0 B0 R H ((z, o) :: L) g ent q) : TSt K cR W R0 B0 R H L g ent q := ⟨M.S.less (((List.sublist_cons_self _ _).cons₂ _).cons₂ _), M.P⟩
theorem TSt.push (M : TSt K cR W R0 B0 R H L g ent q) (n : H z = none) (o : HO) : TSt K cR W R0 B0 R (upd H z o) ((z, o) :: L) g ent q :=
  ⟨(M.S.new n o).perm (List.perm_middle (l₁ := [(g.r, rK cR g ent q.t), (g.s, .lst (q.sd.map V.int))])).symm, M.P⟩
theorem TSt.newX (M : TSt K cR W R0 B0 R H L g ent q) (n : H z = none) (o : HO) : TSt K cR W R0 B0 R (upd H z o) L g ent q := ⟨M.S.newX n o, M.P⟩
theorem TSt.nR (M : TSt K cR W R0 B0 R H L g ent q) (n : H z = none) : R z = none := M.S.nR n
theorem TSt.newR (M : TSt K cR W R0 B0 R H L g ent q) (n : H z = none) (o : HO) : TSt K cR W R0 B0 (upd R z o) (upd H z o) L g ent q := ⟨M.S.newR n o, M.P.up (same_new (M.nR n) _)⟩
theorem bx_map {b : Bx} {k z : Int} : (b.map V.int).set k.toNat (.int z) = (bxP b k z).map V.int := by unfold bxP; rw [List.map_set]
theorem TSt.box {aB : Addr} {b : Bx} (M : TSt K cR W R0 B0 R H (bO aB b L) g ent q) (k z : Int) : TSt K cR W R0 B0 R (upd H aB (.lst ((b.map V.int).set k.toNat (.int z)))) (bO aB (bxP b k z) L) g ent q := by
  unfold bO
  rw [bx_map]
  exact ⟨M.S.set 2 rfl _, M.P⟩
theorem TSt.enter (M : TSt K cR W R0 B0 R H L g ent q) (e2 : Int) : TSt K cR W R0 B0 R (upd H g.r (rK cR g e2 q.t)) L g e2 q := ⟨M.S.set 0 rfl _, M.P⟩
theorem TSt.turn (M : TSt K cR W R0 B0 R H L g ent q) : TSt K cR W R0 B0 R (upd H g.r (rK cR g ent q.less.t)) L g ent q.less := ⟨M.S.set 0 rfl _, M.P⟩
theorem TSt.say (M : TSt K cR W R0 B0 R H L g ent q) (z : Int) : TSt K cR W R0 B0 R (upd H g.s (.lst (q.sd.map V.int ++ [.int z]))) L g ent (q.say z) := by
  have e : q.sd.map V.int ++ [V.int z] = (q.say z).sd.map V.int := by show _ = (q.sd ++ [z]).map V.int; rw [List.map_append]; rfl
  rw [e]
  exact ⟨M.S.set 1 rfl _, M.P⟩
theorem ix_bx {b : Bx} {k : Int} (hb : b.length = 4) (hk : boxR k) : ixN (b.map V.int).length k = some k.toNat := by
  unfold ixN
  rw [List.length_map, hb, if_pos hk.1, if_pos (by have := hk.2; omega)]
theorem at_bx {b : Bx} {k : Int} (hb : b.length = 4) (hk : boxR k) : atI (b.map V.int) k = some (.int (bxG b k)) := by
  unfold atI
  rw [ix_bx hb hk]
  show (b.map V.int)[k.toNat]? = _
  have h : k.toNat < b.length := by have := hk.1; have := hk.2; omega
  rw [List.getElem?_map, List.getElem?_eq_getElem h]
  unfold bxG
  rw [List.getElem?_eq_getElem h]
  rfl
/-- how a number is handed back, or what goes out instead -/
def NumR (K : PySem.W.Frag) (cR cF cT : Addr) (W : List Addr) (R0 B0 R : Hp) (L L0 : List (Addr × HO)) (g : Gt) (ent : Int) (r : RE × Gs) (Q : VK) (E : XK) : Prop := match r with
  | (.val z, q) => ∀ R' H', TSt K cR W R0 B0 R' H' L g ent q → Same R R' → Q (.int z) H'
  | (.fault z, q) => ∀ R' H' dd, TSt K cR W R0 B0 R' H' L g ent q → Same R R' → H' dd = some (.xd [("number", .int z)]) → E (.ref cF) (some dd) H'
  | (.tired, q) => ∀ R' H' ent', TSt K cR W R0 B0 R' H' L0 g ent' q → Same R R' → E (.ref cT) none H'
theorem NumR.up {R1 : Hp} {r : RE × Gs} {Q : VK} {E : XK} (s : Same R R1) (h : NumR K cR cF cT W R0 B0 R L L0 g ent r Q E) : NumR K cR cF cT W R0 B0 R1 L L0 g ent r Q E := by
  rcases r with ⟨z | z | _, q1⟩
  · exact fun R' H' M s1 => h R' H' M (s.trans s1)
  · exact fun R' H' dd M s1 hd => h R' H' dd M (s.trans s1) hd
  · exact fun R' H' e M s1 => h R' H' e M (s.trans s1)
theorem NumR.wk {r : RE × Gs} {Q : VK} {E : XK} (h : NumR K cR cF cT W R0 B0 R ((z, o) :: L) L g ent r Q E) : NumR K cR cF cT W R0 B0 R ((z, o) :: L) ((z, o) :: L) g ent r Q E := by
  rcases r with ⟨z | z | _, q1⟩
  · exact h
  · exact h
  · exact fun R' H' e M s1 => h R' H' e M.drop s1
/-- how a way lies in the heap -/
def WayV (K : PySem.W.Frag) (R : Hp) (w : Wy) (v : V) : Prop := match w with
  | .on => v = .non
  | .leave => ∃ p, v = .ref p ∧ SqT K R p [.str "leave", .int 0]
  | .next => ∃ p, v = .ref p ∧ SqT K R p [.str "next", .int 0]
  | .give z => ∃ p, v = .ref p ∧ SqT K R p [.str "give", .int z]
  | .fault z => ∃ p, v = .ref p ∧ SqT K R p [.str "fault", .int z]
  | .tired => False
theorem WayV.up {R1 : Hp} {w : Wy} {v : V} (s : Same R R1) (h : WayV K R w v) : WayV K R1 w v := by
  cases w with
  | on => exact h
  | tired => exact h
  | leave => obtain ⟨p, e, t⟩ := h; exact ⟨p, e, Same.seqT s t⟩
  | next => obtain ⟨p, e, t⟩ := h; exact ⟨p, e, Same.seqT s t⟩
  | give z => obtain ⟨p, e, t⟩ := h; exact ⟨p, e, Same.seqT s t⟩
  | fault z => obtain ⟨p, e, t⟩ := h; exact ⟨p, e, Same.seqT s t⟩
structure StR (K : PySem.W.Frag) (cR cF cT : Addr) (W : List Addr) (R0 B0 R : Hp) (L : List (Addr × HO)) (aB : Addr) (g : Gt) (ent : Int) (r : RS) (Q : VK) (E : XK) (ex : Bool) : Prop where
  ti : r.1 = .tired → ∀ R' H' ent', TSt K cR W R0 B0 R' H' L g ent' r.2.2 → Same R R' → E (.ref cT) none H'
  wa : r.1 ≠ .tired → ∀ R' H' v, TSt K cR W R0 B0 R' H' (bO aB r.2.1 L) g ent r.2.2 → Same R R' → WayV K R' r.1 v → Q v H'
  ft : ex = true → ∀ z, r.1 = .fault z → ∀ R' H' dd, TSt K cR W R0 B0 R' H' (bO aB r.2.1 L) g ent r.2.2 → Same R R' → H' dd = some (.xd [("number", .int z)]) → E (.ref cF) (some dd) H'
section
variable {R1 : Hp} {r : RS} {Q Q2 : VK} {E : XK} {ex : Bool} {aB : Addr} {b : Bx}
theorem StR.up (s : Same R R1) (h : StR K cR cF cT W R0 B0 R L aB g ent r Q E ex) : StR K cR cF cT W R0 B0 R1 L aB g ent r Q E ex :=
  ⟨fun e R' H' e2 M s1 => h.ti e R' H' e2 M (s.trans s1), fun e R' H' v M s1 => h.wa e R' H' v M (s.trans s1), fun e z f R' H' dd M s1 => h.ft e z f R' H' dd M (s.trans s1)⟩
theorem StR.blk (h : StR K cR cF cT W R0 B0 R L aB g ent r Q E ex) : StR K cR cF cT W R0 B0 R L aB g ent r Q E false := ⟨h.ti, h.wa, fun e => nomatch e⟩
theorem StR.out {q1 : Gs} (h : StR K cR cF cT W R0 B0 R L aB g ent (.tired, b, q1) Q E ex) {ex' : Bool} : StR K cR cF cT W R0 B0 R L aB g ent (.tired, b, q1) Q2 E ex' := ⟨h.ti, fun n => absurd rfl n, fun _ _ e => nomatch e⟩
theorem StR.of {w : Wy} {q1 : Gs} (n : w ≠ .tired) (h : ∀ R' H' v, TSt K cR W R0 B0 R' H' (bO aB b L) g ent q1 → Same R R' → WayV K R' w v → Q v H') : StR K cR cF cT W R0 B0 R L aB g ent (w, b, q1) Q E false := ⟨fun e => absurd e n, fun _ => h, fun e => nomatch e⟩
theorem num_as {re : RE × Gs} {k : Int → Gs → RS} (h : StR K cR cF cT W R0 B0 R L aB g ent (asW re b k) Q E true)
    (hv : ∀ z q1, re = (.val z, q1) → StR K cR cF cT W R0 B0 R L aB g ent (k z q1) Q E true → ∀ R' H', TSt K cR W R0 B0 R' H' (bO aB b L) g ent q1 → Same R R' → Q2 (.int z) H') : NumR K cR cF cT W R0 B0 R (bO aB b L) L g ent re Q2 E := by
  rcases re with ⟨z | z | _, q1⟩
  · exact fun R' H' M s => hv z q1 rfl h R' H' M s
  · exact fun R' H' dd M s hd => h.ft rfl z rfl R' H' dd M s hd
  · exact fun R' H' e M s => h.ti rfl R' H' e M s
end
end
/-! ### readings -/
section
variable {K : PySem.W.Frag} {σ : L2.St} {H : Hp} {Q : VK} {te : TE} {t ta : TA} {sp : Sp} {E : L2.St → XK} {i : Nat} {Hl : Addr → Sp → Prop} {f a C dd : Addr} {cls : Value} {d : Option Addr} {v : V} {Wx : WX} {D : Ends}
theorem w_callS (h : t σ H fun vs H1 => sp vs H1 Q (E σ)) : tCallS sp E t σ H Q := h
theorem w_callHS (e : σ[i]? = some (some (.ref f))) (hl : Hl f sp) (h : t σ H fun vs H1 => sp vs H1 Q (E σ)) : tCallHS i Hl E t σ H Q := ⟨f, sp, e, hl, h⟩
def XfE (a : Addr) (cls : Value) (d : Option Addr) (C : Addr) (f : Str) (Q : VK) (x : V) (H1 : Hp) : Prop := x = .ref a ∧ cls = .ref C ∧ ∃ (dd : Addr) (fs : List (Str × V)) (v : V), d = some dd ∧ H1 dd = some (.xd fs) ∧ fs.lookup f = some v ∧ Q v H1
theorem w_xf {n : Str} (h : te σ H fun x H1 => XfE a cls d C n Q x H1) : tXf a cls d C n te σ H Q := h
theorem w_xfE (h : H dd = some (.xd [("number", v)])) (q : Q v H) : XfE a (.ref C) (some dd) C "number" Q (.ref a) H := ⟨rfl, rfl, dd, _, v, rfl, h, by simp [List.lookup], q⟩
def MkE (C : Addr) (Wx : WX) (σ : L2.St) (vs : List V) (H1 : Hp) : Prop := ∃ v, vs = [v] ∧ ∀ d, H1 d = none → Wx (.ref C) (some d) σ (upd H1 d (.xd [(("number" : Str), v)]))
theorem w_raise (h : ta σ H fun vs H1 => MkE C Wx σ vs H1) : tRaiseFlt C Wx ta D σ H := h
theorem w_mkE (h : ∀ d, H d = none → Wx (.ref C) (some d) σ (upd H d (.xd [(("number" : Str), v)]))) : MkE C Wx σ [v] H := ⟨v, rfl, h⟩
end
end TT
namespace TT
open PySem PySem.Spec PyProof.Rows L2 U MM TR M
section
variable {P : Program} {w : World} {K : PySem.W.Frag} {mg : Str → Option Value} {base : Heap}
def spReck : Sp := fun vs H Q _ => ∃ (o : Op4) (a b : Int), vs = [.str o.word, .int a, .int b] ∧ Q (optV (reck o a b)) H
theorem ca_reckoned (hS : seerB K = true) (hP : P.given.tree = none) (D : Df K mg "reckoned" (top 21)) : Ca P w K mg base CX0 40 "reckoned" spReck := by
  have sc : FnScope ["word", "one", "other"] ["word", "one", "other"] (defScope (top 21)) := ⟨rfl, rfl, rfl, by decide +kernel, rfl, by decide +kernel, by decide +kernel⟩
  have nd := sc.nd
  refine D.ca0 sc (fun _ _ _ _ _ _ us hl => match us, hl with | [_, _, _], _ => rfl) (fun vs H Q E h => by obtain ⟨_, _, _, rfl, _⟩ := h; rfl) (fun f cdv A outer s H vs Q E hr h => ?_)
  obtain ⟨o, a, b, rfl, q⟩ := h
  refine ⟨_, (pss_cons (ps_if (pt_cmpR op_eq (pv 0) pe_str (nomark _)) (pss_one (ps_ret (pe_op op_add (pv 1) (pv 2)))) pss_nil)
    (pss_cons (ps_if (pt_cmpR op_eq (pv 0) pe_str (nomark _)) (pss_one (ps_ret (pe_op op_sub (pv 1) (pv 2)))) pss_nil)
    (pss_cons (ps_if (pt_cmpR op_eq (pv 0) pe_str (nomark _)) (pss_one (ps_ret (pe_ifExp (pt_cmpR op_lt (pv 1) (pv 2) (nomark _)) pe_int pe_int))) pss_nil)
    (pss_cons (ps_if (pt_cmpR op_eq (pv 2) pe_int (nomark _)) (pss_one (ps_ret pe_non)) pss_nil)
    (pss_one (ps_ret (pe_op (op_fdivA hS hP rfl sc.gen sc.co (room_deep hr (by omega))) (pv 1) (pv 2)))))))), ?_⟩
  refine U.w_start (σ' := [some _, some _, some _]) rfl ?_
  walk_at "st"
  cases o with
  | add => walk_at "if"; exact q
  | sub =>
    walk_at "if"
    walk_at "if"
    exact q
  | less =>
    walk_at "if"
    walk_at "if"
    walk_at "if"
    refine it_cases (fun c => ?_) fun c => ?_
    · walk_at "go"
      simp only [reck, if_pos c] at q
      exact q
    · walk_at "go"
      simp only [reck, if_neg c] at q
      exact q
  | share =>
    walk_at "if"
    walk_at "if"
    walk_at "if"
    walk_at "if"
    refine it_cases (fun c => ?_) fun c => ?_
    · walk_at "go"
      simp only [reck, if_pos c] at q
      exact q
    · walk_at "go"
      simp only [reck, if_neg c] at q
      exact q
end
end TT

namespace TT
open PySem PySem.Spec PyProof.Rows L2 U MM TR M
local macro_rules | `(tactic| walk_at "own1") => `(tactic| first
  | (with_reducible refine TT.w_raise ?_)
  | (with_reducible refine TT.w_mkE ?_)
  | (with_reducible refine TT.w_callS ?_)
  | walk_at "own2")
section
variable {P : Program} {w : World} {K : PySem.W.Frag} {mg : Str → Option Value} {base : Heap} {cR cF fI cT : Addr}
def spTurn (K : PySem.W.Frag) (cR cT : Addr) : Sp := fun vs H Q E => ∃ (W : List Addr) (R0 B0 R : Hp) (L : List (Addr × HO)) (g : Gt) (ent : Int) (q : Gs), vs = [.ref g.r] ∧ TSt K cR W R0 B0 R H L g ent q ∧ (q.t = 0 → E (.ref cT) none H) ∧
  (q.t ≠ 0 → ∀ H', TSt K cR W R0 B0 R H' L g ent q.less → Q .non H')
theorem ca_turn (D : Df K mg "_take_turn" (top 60)) (iR : CI K cR fR) (tT : PySem.FltX.Trd K mg cT cF) : Ca P w K mg base (L2.CX P w) 1 "_take_turn" (spTurn K cR cT) := by
  have sc : FnScope ["run"] ["run"] (defScope (top 60)) := ⟨rfl, rfl, rfl, by decide +kernel, rfl, by decide +kernel, by decide +kernel⟩
  have nd := sc.nd
  refine D.caX sc (fun _ _ _ _ _ _ us hl => match us, hl with | [_], _ => rfl) (fun vs H Q E h => by obtain ⟨_, _, _, _, _, _, _, _, rfl, _⟩ := h; rfl) (fun f cdv A outer s H vs Q E hr h => ?_)
  obtain ⟨W, R0, B0, R, L, g, ent, q, rfl, M, q0, q1⟩ := h
  refine ⟨_, (pss_cons (ps_if (pt_cmpR op_lt (pe_fld (pv 0) rfl) pe_int (nomark _)) (pss_one (ps_raise rfl (takes_of rfl rfl rfl rfl) (pmk_own PySem.F.excBase_Exception tT.ex tT.gl tT.kp (raises_own tT.sb tT.ty) (by exact rfl)))) pss_nil)
    (pss_one (ps_fldaug (pv 0) pe_int in_sub))), ?_⟩
  refine U.w_start (σ' := [some _]) rfl ?_
  walk_at "st"
  have S := M.S
  walk_at "if"
  refine it_cases (fun c => ?_) fun c => ?_
  · exact q0 (by omega)
  · walk_at "go"
    rw [show ((q.t : Nat) : Int) - 1 = ((q.less.t : Nat) : Int) from by rw [less_t]; omega]
    exact q1 (by omega) _ M.turn
def spRunI (cR : Addr) : Sp := fun vs H Q _ => ∃ (W : List Addr) (R0 B0 R : Hp) (L : List (Addr × HO)) (t dx : Addr) (v : V) (n : Nat), vs = [.ref t, v, .int (n : Nat)] ∧ Sta W R0 B0 R H ((t, .ins cR dx []) :: L) ∧
  ∀ H' s, Sta W R0 B0 R H' ((t, .ins cR dx [("program", v), ("turns", .int (n : Nat)), ("entered", .int 0), ("said", .ref s)]) :: (s, .lst []) :: L) → Q .non H'
theorem ca_runI (D : DfI K mg "Run" cR "Run.__init__" (inClass (top 57) 0)) (iR : CI K cR fR) : CaI P w K mg base CX0 1 "Run" cR (spRunI cR) := by
  have sc : FnScope ["self", "program", "turns"] ["self", "program", "turns"] (defScope (inClass (top 57) 0)) := ⟨rfl, rfl, rfl, by decide +kernel, rfl, by decide +kernel, by decide +kernel⟩
  have nd := sc.nd
  refine D.ca0 sc (fun _ _ _ _ _ _ us hl => match us, hl with | [_, _, _], _ => rfl) (fun vs H Q E h => by obtain ⟨_, _, _, _, _, _, _, _, _, rfl, _⟩ := h; rfl) (fun f cdv A outer s H vs Q E hr h => ?_)
  obtain ⟨W, R0, B0, R, L, t, dx, v, n, rfl, S, q⟩ := h
  refine ⟨_, (pss_cons (ps_fld (pv 0) (pv 1) rfl)
    (pss_cons (ps_fld (pv 0) (pv 2) rfl)
    (pss_cons (ps_fld (pv 0) pe_int rfl)
    (pss_one (ps_fld (pv 0) (pe_lst pa_nil) rfl))))), ?_⟩
  refine U.w_start (σ' := [some _, some _, some _]) rfl ?_
  walk_at "st"
  walk_at "go"
  intro a1 n1
  have S1 := (((S.set 0 rfl (.ins cR dx [("program", v)])).set 0 rfl (.ins cR dx [("program", v), ("turns", .int (n : Nat))])).set 0 rfl (.ins cR dx [("program", v), ("turns", .int (n : Nat)), ("entered", .int 0)])).new n1 (.lst [])
  walk_at "go"
  exact q _ a1 ((S1.set 1 rfl (.ins cR dx [("program", v), ("turns", .int (n : Nat)), ("entered", .int 0), ("said", .ref a1)])).perm (List.Perm.swap _ _ _))
/-! ### numbers -/
def spGb (K : PySem.W.Frag) (cR cF cT : Addr) (d : Nat) : Sp := fun vs H Q E => ∃ (W : List Addr) (R0 B0 R : Hp) (L : List (Addr × HO)) (g : Gt) (q : Gs) (k z : Int), vs = [.ref g.r, .int k, .int z] ∧ 0 ≤ k ∧ k < (g.pg.length : Int) ∧ Pok g ∧ TSt K cR W R0 B0 R H L g (8 - (d : Int)) q ∧ pot g.S q + g.S ≤ 16000000 ∧
  NumR K cR cF cT W R0 B0 R L L g (8 - (d : Int)) (callD g.pg d k z q) Q E
def spNum (K : PySem.W.Frag) (cR cF cT : Addr) (d m : Nat) : Sp := fun vs H Q E => ∃ (W : List Addr) (R0 B0 R : Hp) (L : List (Addr × HO)) (g : Gt) (q : Gs) (e : Ex) (v : V) (aB : Addr) (b : Bx), vs = [.ref g.r, v, .ref aB] ∧ e.dep ≤ m ∧ e.rng g.pg.length ∧ Pok g ∧
  TSt K cR W R0 B0 R H (bO aB b L) g (8 - (d : Int)) q ∧ b.length = 4 ∧ Dp K R v e.enc ∧ pot g.S q ≤ 16000000 ∧ NumR K cR cF cT W R0 B0 R (bO aB b L) L g (8 - (d : Int)) (evE (callD g.pg d) e b q) Q E
theorem ca_num_no (D : Df K mg "_number" (top 61)) (d : Nat) : Ca P w K mg base (L2.CX P w) (23 * d + 41) "_number" (spNum K cR cF cT d 0) := by
  have hd : ∀ e : Ex, ¬ e.dep ≤ 0 := fun e => by cases e <;> simp [Ex.dep]
  have sc : FnScope ["run", "expression", "boxes", "word", "handed", "one", "other", "both"] ["run", "expression", "boxes"] (defScope (top 61)) := ⟨rfl, rfl, rfl, by decide +kernel, rfl, by decide +kernel, by decide +kernel⟩
  exact D.caX sc (fun _ _ _ _ _ _ us hl => match us, hl with | [_, _, _], _ => rfl) (fun _ _ _ _ h => by obtain ⟨_, _, _, _, _, _, _, _, _, _, _, _, h, _⟩ := h; exact absurd h (hd _)) (fun _ _ _ _ _ _ _ _ _ _ h => by obtain ⟨_, _, _, _, _, _, _, _, _, _, _, _, h, _⟩ := h; exact absurd h (hd _))
theorem ca_num1 (D : Df K mg "_number" (top 61)) (tF : PySem.FltX.Flt K mg cF fI) (g_NOUGHT : ∃ t, mg "NOUGHT" = some (.int 101 t)) (d m : Nat) (c_reckoned : Ca P w K mg base CX0 40 "reckoned" spReck) (c__take_turn : Ca P w K mg base (L2.CX P w) 1 "_take_turn" (spTurn K cR cT))
    (c__given_back : Ca P w K mg base (L2.CX P w) (23 * d + 41) "_given_back" (spGb K cR cF cT d)) (c__number : Ca P w K mg base (L2.CX P w) (23 * d + 41 + m) "_number" (spNum K cR cF cT d m)) : Ca P w K mg base (L2.CX P w) (23 * d + 42 + m) "_number" (spNum K cR cF cT d (m + 1)) := by
  refine Ca.mono (j := 23 * d + 41 + m + 1) ?_ (by omega)
  have sc : FnScope ["run", "expression", "boxes", "word", "handed", "one", "other", "both"] ["run", "expression", "boxes"] (defScope (top 61)) := ⟨rfl, rfl, rfl, by decide +kernel, rfl, by decide +kernel, by decide +kernel⟩
  have nd := sc.nd
  refine D.caX sc (fun _ _ _ _ _ _ us hl => match us, hl with | [_, _, _], _ => rfl) (fun vs H Q E h => by obtain ⟨_, _, _, _, _, _, _, _, _, _, _, rfl, _⟩ := h; rfl) (fun f cdv A outer s H vs Q E hr h => ?_)
  obtain ⟨W, R0, B0, R, L, g, q, e, v, aB, b, rfl, he, hg, pk, M, hb, hz, hp, sr⟩ := h
  refine ⟨_, (pss_cons (ps_set (i := 3) nd rfl (by first | exact Or.inl rfl | exact Or.inr rfl) (pe_ix ix_lt (pv 1) pe_int (fun _ _ => rfl)))
    (pss_cons (ps_if (pt_cmpR op_eq (pv 3) pe_str (nomark _)) (pss_one (ps_ret (pe_ix ix_lt (pv 1) pe_int (fun _ _ => rfl)))) pss_nil)
    (pss_cons (ps_if (pt_cmpR op_eq (pv 3) pe_str (nomark _)) (pss_one (ps_ret (pe_ix ix_lt (pv 2) (pe_ix ix_lt (pv 1) pe_int (fun _ _ => rfl)) (fun _ _ => rfl)))) pss_nil)
    (pss_cons (ps_if (pt_cmpR op_eq (pv 3) pe_str (nomark _)) (pss_cons (ps_set (i := 4) nd rfl (by first | exact Or.inl rfl | exact Or.inr rfl) (pe_ca c__number hr (by omega) rfl (passes_call (takes_of rfl rfl rfl rfl) (fun _ _ _ _ h => h)) (pa_cons (pv 0) (pa_cons (pe_ix ix_lt (pv 1) pe_int (fun _ _ => rfl)) (pa_cons (pv 2) pa_nil)))))
    (pss_cons (ps_expr (pe_ca c__take_turn hr (by omega) rfl (passes_call (takes_of rfl rfl rfl rfl) (fun _ _ _ _ h => h)) (pa_cons (pv 0) pa_nil)))
    (pss_one (ps_ret (pe_ca c__given_back hr (by omega) rfl (passes_call (takes_of rfl rfl rfl rfl) (fun _ _ _ _ h => h)) (pa_cons (pv 0) (pa_cons (pe_ix ix_lt (pv 1) pe_int (fun _ _ => rfl)) (pa_cons (pv 4) pa_nil)))))))) pss_nil)
    (pss_cons (ps_set (i := 5) nd rfl (by first | exact Or.inl rfl | exact Or.inr rfl) (pe_ca c__number hr (by omega) rfl (passes_call (takes_of rfl rfl rfl rfl) (fun _ _ _ _ h => h)) (pa_cons (pv 0) (pa_cons (pe_ix ix_lt (pv 1) pe_int (fun _ _ => rfl)) (pa_cons (pv 2) pa_nil)))))
    (pss_cons (ps_set (i := 6) nd rfl (by first | exact Or.inl rfl | exact Or.inr rfl) (pe_ca c__number hr (by omega) rfl (passes_call (takes_of rfl rfl rfl rfl) (fun _ _ _ _ h => h)) (pa_cons (pv 0) (pa_cons (pe_ix ix_lt (pv 1) pe_int (fun _ _ => rfl)) (pa_cons (pv 2) pa_nil)))))
    (pss_cons (ps_set (i := 7) nd rfl (by first | exact Or.inl rfl | exact Or.inr rfl) (pe_ca c_reckoned hr (by omega) rfl pass0 (pa_cons (pv 3) (pa_cons (pv 5) (pa_cons (pv 6) pa_nil)))))
    (pss_cons (ps_if (pt_cmpR op_isNo (pv 7) pe_non (nomark _)) (pss_one (ps_raiseFlt rfl tF hr (takes_of rfl rfl rfl rfl) (pa_cons (pe_gi rfl g_NOUGHT) pa_nil))) pss_nil)
    (pss_one (ps_ret (pv 7))))))))))), ?_⟩
  refine U.w_start (σ' := [some _, some _, some _, none, none, none, none, none]) rfl ?_
  walk_at "st"
  have S := M.S
  have gr := pk.grow d
  cases e with
  | num n =>
    obtain ⟨p, v1, v2, rfl, hT, h1, h2⟩ := dp_tup2 hz
    cases dp_str h1
    cases dp_int h2
    walk_at "go"
    walk_at "if"
    exact sr _ _ M (Same.refl _)
  | box k =>
    obtain ⟨p, v1, v2, rfl, hT, h1, h2⟩ := dp_tup2 hz
    cases dp_str h1
    cases dp_int h2
    walk_at "go"
    walk_at "if"
    walk_at "if"
    refine w_ixLL (SqL.of (S.get 2 rfl)) (at_bx hb hg) ?_
    walk_at "go"
    exact sr _ _ M (Same.refl _)
  | call k e =>
    obtain ⟨p, v1, v2, v3, rfl, hT, h1, h2, h3⟩ := dp_tup3 hz
    cases dp_str h1
    cases dp_int h2
    rw [Ex.dep] at he
    rw [Ex.rng] at hg
    walk_at "go"
    walk_at "if"
    walk_at "if"
    walk_at "if"
    refine ⟨W, R0, B0, R, L, g, q, e, v3, aB, b, rfl, by omega, hg.2.2, pk, M, hb, h3, hp, ?_⟩
    have p1 := evE_pot gr e b q
    rcases e1 : evE (callD g.pg d) e b q with ⟨z | z | _, q1⟩
    · rw [e1] at p1
      simp only [evE, e1] at sr
      intro R1 H1 M1 s1
      have S1 := M1.S
      have hT1 := Same.seqT (s1.trans S1.sub') hT
      walk_at "go"
      refine ⟨W, R0, B0, R1, _, g, _, q1, rfl, M1, fun c => ?_, fun c H2 M2 => ?_⟩
      · rw [callE, if_pos c] at sr
        exact sr _ _ _ M1.drop s1
      · rw [callE, if_neg c] at sr
        have S2 := M2.S
        have hT2 := Same.seqT (s1.trans S2.sub') hT
        have pl := pot_less (S := g.S) c
        simp only at p1
        walk_at "go"
        exact ⟨W, R0, B0, R1, _, g, q1.less, k, z, rfl, by have := hg.1; omega, by have := hg.1; omega, pk, M2, by omega, (sr.up s1).wk⟩
    · simp only [evE, e1] at sr
      exact sr
    · simp only [evE, e1] at sr
      exact sr
  | op o x y =>
    obtain ⟨p, v1, v2, v3, rfl, hT, h1, h2, h3⟩ := dp_tup3 hz
    cases dp_str h1
    rw [Ex.dep] at he
    rw [Ex.rng] at hg
    have p1 := evE_pot gr x b q
    cases o <;> (
      simp only [Op4.word] at hT
      walk_at "go"
      walk_at "if"
      walk_at "if"
      walk_at "if"
      refine ⟨W, R0, B0, R, L, g, q, x, v2, aB, b, rfl, by omega, hg.1, pk, M, hb, h2, hp, ?_⟩
      rcases e1 : evE (callD g.pg d) x b q with ⟨i | i | _, q1⟩
      · rw [e1] at p1
        simp only at p1
        intro R1 H1 M1 s1
        have S1 := M1.S
        have hT1 := Same.seqT (s1.trans S1.sub') hT
        walk_at "go"
        refine ⟨W, R0, B0, R1, L, g, q1, y, v3, aB, b, rfl, by omega, hg.2, pk, M1, hb, h3.up s1, by omega, ?_⟩
        rcases e2 : evE (callD g.pg d) y b q1 with ⟨j | j | _, q2⟩
        · intro R2 H2 M2 s2
          have S2 := M2.S
          walk_at "go"
          simp only [evE, e1, e2, two] at sr
          first
            | (refine ⟨.add, i, j, rfl, ?_⟩; generalize reck .add i j = rr at sr ⊢)
            | (refine ⟨.sub, i, j, rfl, ?_⟩; generalize reck .sub i j = rr at sr ⊢)
            | (refine ⟨.less, i, j, rfl, ?_⟩; generalize reck .less i j = rr at sr ⊢)
            | (refine ⟨.share, i, j, rfl, ?_⟩; generalize reck .share i j = rr at sr ⊢)
          cases rr with
          | none =>
            simp only [optV] at *
            walk_at "go"
            walk_at "if"
            intro dd nd
            exact sr _ _ dd (M2.newX nd _) (s1.trans s2) L2.upd_same
          | some z =>
            simp only [optV] at *
            walk_at "go"
            walk_at "if"
            exact sr _ _ M2 (s1.trans s2)
        · simp only [evE, e1, e2] at sr
          exact sr.up s1
        · simp only [evE, e1, e2] at sr
          exact sr.up s1
      · simp only [evE, e1] at sr
        exact sr
      · simp only [evE, e1] at sr
        exact sr)
end
end TT

namespace TT
open PySem PySem.Spec PyProof.Rows L2 U MM TR M
local macro_rules | `(tactic| walk_at "own1") => `(tactic| first
  | (with_reducible refine TT.w_raise ?_)
  | (with_reducible refine TT.w_mkE ?_)
  | (with_reducible refine TT.w_callS ?_)
  | walk_at "own2")
section
variable {P : Program} {w : World} {K : PySem.W.Frag} {mg : Str → Option Value} {base : Heap} {cR cF fI cT : Addr}
def spBl (K : PySem.W.Frag) (cR cF cT : Addr) (d m : Nat) : Sp := fun vs H Q E => ∃ (W : List Addr) (R0 B0 R : Hp) (L : List (Addr × HO)) (g : Gt) (q : Gs) (l : List Sm) (lp : Bool) (v : V) (aB : Addr) (b : Bx), vs = [.ref g.r, v, .ref aB] ∧ okL l lp m ∧ rngL g.pg.length l ∧ szL l ≤ g.S ∧ Pok g ∧
  TSt K cR W R0 B0 R H (bO aB b L) g (8 - (d : Int)) q ∧ b.length = 4 ∧ Dp K R v (.list (encL l)) ∧ pot g.S q + szL l ≤ 16000000 ∧ StR K cR cF cT W R0 B0 R L aB g (8 - (d : Int)) (evB (callD g.pg d) l b q) Q E false
def spSt (K : PySem.W.Frag) (cR cF cT : Addr) (d m i : Nat) : Sp := fun vs H Q E => ∃ (W : List Addr) (R0 B0 R : Hp) (L : List (Addr × HO)) (g : Gt) (q : Gs) (x : Sm) (lp : Bool) (v : V) (aB : Addr) (b : Bx), vs = [.ref g.r, v, .ref aB] ∧ Sm.tk x = i ∧ x.ok lp m ∧ x.rng g.pg.length ∧ x.sz ≤ g.S ∧ Pok g ∧
  TSt K cR W R0 B0 R H (bO aB b L) g (8 - (d : Int)) q ∧ b.length = 4 ∧ Dp K R v x.enc ∧ pot g.S q + x.sz ≤ 16000000 ∧ StR K cR cF cT W R0 B0 R L aB g (8 - (d : Int)) (evS (callD g.pg d) x b q) Q E true
theorem ca_gb0 (D : Df K mg "_given_back" (top 59)) (iR : CI K cR fR) (tF : PySem.FltX.Flt K mg cF fI) (g_DEEP : ∃ t, mg "DEEP" = some (.int 102 t)) (g_DEEPEST : ∃ t, mg "DEEPEST" = some (.int 8 t)) (g_BOXES : ∃ t, mg "BOXES" = some (.int 4 t))
    (c_block_trees : Ca P w K mg base (L2.CX P w) 40 "block_trees" (spBl K cR cF cT 0 0)) : Ca P w K mg base (L2.CX P w) 41 "_given_back" (spGb K cR cF cT 0) := by
  have sc : FnScope ["run", "function", "number", "way", "word", "worth"] ["run", "function", "number"] (defScope (top 59)) := ⟨rfl, rfl, rfl, by decide +kernel, rfl, by decide +kernel, by decide +kernel⟩
  have nd := sc.nd
  refine D.caX sc (fun _ _ _ _ _ _ us hl => match us, hl with | [_, _, _], _ => rfl) (fun vs H Q E h => by obtain ⟨_, _, _, _, _, _, _, _, _, rfl, _⟩ := h; rfl) (fun f cdv A outer s H vs Q E hr h => ?_)
  obtain ⟨W, R0, B0, R, L, g, q, k, z, rfl, h0, h1, pk, M, hp, sr⟩ := h
  refine ⟨_, (pss_cons (ps_if (pt_cmpR op_eq (pe_fld (pv 0) rfl) (pe_gi rfl g_DEEPEST) (nomark _)) (pss_one (ps_raiseFlt rfl tF hr (takes_of rfl rfl rfl rfl) (pa_cons (pe_gi rfl g_DEEP) pa_nil))) pss_nil)
    (pss_cons (ps_fldaug (pv 0) pe_int in_add)
    (pss_cons (ps_set (i := 3) nd rfl (by first | exact Or.inl rfl | exact Or.inr rfl) (pe_ca c_block_trees hr (by omega) rfl (passes_call (takes_of rfl rfl rfl rfl) (fun _ _ _ _ h => h)) (pa_cons (pv 0) (pa_cons (pe_ix ix_lt (pe_fld (pv 0) rfl) (pv 1) (fun _ _ => rfl)) (pa_cons (pe_op op_cat (pe_lst (pa_cons (pv 2) pa_nil)) (pe_op op_rep (pe_lst (pa_cons pe_int pa_nil)) (pe_op op_sub (pe_gi rfl g_BOXES) pe_int))) pa_nil)))))
    (pss_cons (ps_fldaug (pv 0) pe_int in_sub)
    (pss_cons (ps_if (pt_cmpR op_isNo (pv 3) pe_non (nomark _)) (pss_one (ps_ret pe_int)) pss_nil)
    (pss_cons (ps_asg (pv 3) (pg_tup rfl (pgs_cons (pg_name (i := 4) nd rfl (by first | exact Or.inl rfl | exact Or.inr rfl)) (pgs_cons (pg_name (i := 5) nd rfl (by first | exact Or.inl rfl | exact Or.inr rfl)) pgs_nil))))
    (pss_cons (ps_if (pt_cmpR op_eq (pv 4) pe_str (nomark _)) (pss_one (ps_raiseFlt rfl tF hr (takes_of rfl rfl rfl rfl) (pa_cons (pv 5) pa_nil))) pss_nil)
    (pss_one (ps_ret (pv 5)))))))))), ?_⟩
  refine U.w_start (σ' := [some _, some _, some _, none, none, none]) rfl ?_
  walk_at "st"
  have S := M.S
  walk_at "if"
  refine it_pos (by simp) ?_
  walk_at "go"
  intro dd nd
  exact sr _ _ dd (M.newX nd _) (Same.refl _) L2.upd_same
theorem ca_gb1 (D : Df K mg "_given_back" (top 59)) (iR : CI K cR fR) (tF : PySem.FltX.Flt K mg cF fI) (g_DEEP : ∃ t, mg "DEEP" = some (.int 102 t)) (g_DEEPEST : ∃ t, mg "DEEPEST" = some (.int 8 t)) (g_BOXES : ∃ t, mg "BOXES" = some (.int 4 t)) (d : Nat)
    (c_block_trees : Ca P w K mg base (L2.CX P w) (23 * d + 63) "block_trees" (spBl K cR cF cT d 8)) : Ca P w K mg base (L2.CX P w) (23 * (d + 1) + 41) "_given_back" (spGb K cR cF cT (d + 1)) := by
  refine Ca.mono (j := 23 * d + 63 + 1) ?_ (by omega)
  have sc : FnScope ["run", "function", "number", "way", "word", "worth"] ["run", "function", "number"] (defScope (top 59)) := ⟨rfl, rfl, rfl, by decide +kernel, rfl, by decide +kernel, by decide +kernel⟩
  have nd := sc.nd
  refine D.caX sc (fun _ _ _ _ _ _ us hl => match us, hl with | [_, _, _], _ => rfl) (fun vs H Q E h => by obtain ⟨_, _, _, _, _, _, _, _, _, rfl, _⟩ := h; rfl) (fun f cdv A outer s H vs Q E hr h => ?_)
  obtain ⟨W, R0, B0, R, L, g, q, k, z, rfl, h0, h1, pk, M, hp, sr⟩ := h
  refine ⟨_, (pss_cons (ps_if (pt_cmpR op_eq (pe_fld (pv 0) rfl) (pe_gi rfl g_DEEPEST) (nomark _)) (pss_one (ps_raiseFlt rfl tF hr (takes_of rfl rfl rfl rfl) (pa_cons (pe_gi rfl g_DEEP) pa_nil))) pss_nil)
    (pss_cons (ps_fldaug (pv 0) pe_int in_add)
    (pss_cons (ps_set (i := 3) nd rfl (by first | exact Or.inl rfl | exact Or.inr rfl) (pe_ca c_block_trees hr (by omega) rfl (passes_call (takes_of rfl rfl rfl rfl) (fun _ _ _ _ h => h)) (pa_cons (pv 0) (pa_cons (pe_ix ix_lt (pe_fld (pv 0) rfl) (pv 1) (fun _ _ => rfl)) (pa_cons (pe_op op_cat (pe_lst (pa_cons (pv 2) pa_nil)) (pe_op op_rep (pe_lst (pa_cons pe_int pa_nil)) (pe_op op_sub (pe_gi rfl g_BOXES) pe_int))) pa_nil)))))
    (pss_cons (ps_fldaug (pv 0) pe_int in_sub)
    (pss_cons (ps_if (pt_cmpR op_isNo (pv 3) pe_non (nomark _)) (pss_one (ps_ret pe_int)) pss_nil)
    (pss_cons (ps_asg (pv 3) (pg_tup rfl (pgs_cons (pg_name (i := 4) nd rfl (by first | exact Or.inl rfl | exact Or.inr rfl)) (pgs_cons (pg_name (i := 5) nd rfl (by first | exact Or.inl rfl | exact Or.inr rfl)) pgs_nil))))
    (pss_cons (ps_if (pt_cmpR op_eq (pv 4) pe_str (nomark _)) (pss_one (ps_raiseFlt rfl tF hr (takes_of rfl rfl rfl rfl) (pa_cons (pv 5) pa_nil))) pss_nil)
    (pss_one (ps_ret (pv 5)))))))))), ?_⟩
  refine U.w_start (σ' := [some _, some _, some _, none, none, none]) rfl ?_
  walk_at "st"
  have S := M.S
  walk_at "if"
  refine it_neg (by omega) ?_
  walk_at "go"
  rw [show (8 : Int) - ((d + 1 : Nat) : Int) + 1 = 8 - (d : Int) from by omega]
  have M1 := M.enter (8 - (d : Int))
  obtain ⟨p0, vs, ep, hT, hD⟩ := dp_lst M1.P
  cases ep
  have hk : ((k.toNat : Nat) : Int) = k := by omega
  have hkl : k.toNat < g.pg.length := by omega
  obtain ⟨l, hl⟩ : ∃ l, g.pg[k.toNat]? = some l := ⟨_, List.getElem?_eq_getElem hkl⟩
  have hlm := List.mem_of_getElem? hl
  obtain ⟨v, hv, hvd⟩ := hD.getD (i := k.toNat) (d := encB l) (by rw [List.getElem?_map, hl]; rfl)
  refine w_ixLL (Same.seqL M1.S.sub' hT) (by rw [← hk]; exact atI_nat hv) ?_
  walk_at "go"
  intro a1 n1
  walk_at "go"
  intro a2 n2
  walk_at "go"
  refine w_rep (xs := [.int 0]) L2.upd_same (by decide) (by decide) (by decide) fun a3 n3 => ?_
  walk_at "go"
  have e3 : (List.replicate ((4 : Int) - 1).toNat [V.int 0]).flatten = [.int 0, .int 0, .int 0] := rfl
  rw [e3]
  refine w_cat (xs := [.int z]) (ys := [.int 0, .int 0, .int 0]) (by walk_at "hp") L2.upd_same (by show 1 + 3 ≤ 100000; decide) fun a4 n4 => ?_
  walk_at "go"
  have M5 := (((M1.newX n1 _).newX n2 _).newX n3 _).push n4 (.lst [.int z, .int 0, .int 0, .int 0])
  obtain ⟨ok1, ok2, ok3⟩ := pk l hlm
  rw [callD, hl] at sr
  have ev : evB (callD g.pg d) ((some l).getD []) [z, 0, 0, 0] q = evB (callD g.pg d) l [z, 0, 0, 0] q := rfl
  rw [ev] at sr
  refine ⟨W, R0, B0, R, L, g, q, l, false, v, a4, [z, 0, 0, 0], rfl, ok1, ok2, ok3, pk, M5, rfl, hvd, by omega, ?_⟩
  rcases er : evB (callD g.pg d) l [z, 0, 0, 0] q with ⟨wy, b1, q1⟩
  rw [er] at sr
  cases wy with
  | tired => exact ⟨fun _ R2 H2 e2 M2 s2 => sr _ _ _ M2 s2, fun n => absurd rfl n, fun e => nomatch e⟩
  | on =>
    refine StR.of (fun e => nomatch e) fun R2 H2 v2 M2 s2 hw => ?_
    have S2 := M2.S
    cases hw
    walk_at "go"
    rw [show (8 : Int) - (d : Int) - 1 = 8 - ((d + 1 : Nat) : Int) from by omega]
    walk_at "if"
    exact sr _ _ (M2.drop.enter _) s2
  | leave =>
    refine StR.of (fun e => nomatch e) fun R2 H2 v2 M2 s2 hw => ?_
    have S2 := M2.S
    obtain ⟨pw, rfl, hw⟩ := hw
    have M3 := M2.drop.enter (8 - ((d + 1 : Nat) : Int))
    have hw3 := Same.seqT M3.S.sub' hw
    walk_at "go"
    rw [show (8 : Int) - (d : Int) - 1 = 8 - ((d + 1 : Nat) : Int) from by omega]
    walk_at "if"
    walk_at "if"
    exact sr _ _ M3 s2
  | next =>
    refine StR.of (fun e => nomatch e) fun R2 H2 v2 M2 s2 hw => ?_
    have S2 := M2.S
    obtain ⟨pw, rfl, hw⟩ := hw
    have M3 := M2.drop.enter (8 - ((d + 1 : Nat) : Int))
    have hw3 := Same.seqT M3.S.sub' hw
    walk_at "go"
    rw [show (8 : Int) - (d : Int) - 1 = 8 - ((d + 1 : Nat) : Int) from by omega]
    walk_at "if"
    walk_at "if"
    exact sr _ _ M3 s2
  | give y =>
    refine StR.of (fun e => nomatch e) fun R2 H2 v2 M2 s2 hw => ?_
    have S2 := M2.S
    obtain ⟨pw, rfl, hw⟩ := hw
    have M3 := M2.drop.enter (8 - ((d + 1 : Nat) : Int))
    have hw3 := Same.seqT M3.S.sub' hw
    walk_at "go"
    rw [show (8 : Int) - (d : Int) - 1 = 8 - ((d + 1 : Nat) : Int) from by omega]
    walk_at "if"
    walk_at "if"
    exact sr _ _ M3 s2
  | fault y =>
    refine StR.of (fun e => nomatch e) fun R2 H2 v2 M2 s2 hw => ?_
    have S2 := M2.S
    obtain ⟨pw, rfl, hw⟩ := hw
    have M3 := M2.drop.enter (8 - ((d + 1 : Nat) : Int))
    have hw3 := Same.seqT M3.S.sub' hw
    walk_at "go"
    rw [show (8 : Int) - (d : Int) - 1 = 8 - ((d + 1 : Nat) : Int) from by omega]
    walk_at "if"
    walk_at "if"
    intro dd nd
    exact sr _ _ dd (M3.newX nd _) s2 L2.upd_same
end
end TT

namespace TT
open PySem PySem.Spec PyProof.Rows L2 U MM TR M
section
variable {P : Program} {w : World} {K : PySem.W.Frag} {mg : Str → Option Value} {base : Heap} {cR cF fI cT : Addr}
theorem szl' {n : Nat} (h : n ≤ 16000000) : n < sizeLine := by rw [sizeLine_eq]; omega
theorem ca_set (D : Df K mg "set_trees" (top 64)) (d m : Nat) (c__number : Ca P w K mg base (L2.CX P w) (23 * d + 47) "_number" (spNum K cR cF cT d 6)) : Ca P w K mg base (L2.CX P w) (23 * d + 48) "set_trees" (spSt K cR cF cT d m 0) := by
  have sc : FnScope ["run", "statement", "boxes"] ["run", "statement", "boxes"] (defScope (top 64)) := ⟨rfl, rfl, rfl, by decide +kernel, rfl, by decide +kernel, by decide +kernel⟩
  have nd := sc.nd
  refine D.caX sc (fun _ _ _ _ _ _ us hl => match us, hl with | [_, _, _], _ => rfl) (fun vs H Q E h => by obtain ⟨_, _, _, _, _, _, _, _, _, _, _, _, rfl, _⟩ := h; rfl) (fun f cdv A outer s H vs Q E hr h => ?_)
  obtain ⟨W, R0, B0, R, L, g, q, x, lp, v, aB, b, rfl, hx, ho, hg, hs, pk, M, hb, hz, hp, sr⟩ := h
  refine ⟨_, (pss_one (ps_asg (pe_ca c__number hr (by omega) rfl (passes_call (takes_of rfl rfl rfl rfl) (fun _ _ _ _ h => h)) (pa_cons (pv 0) (pa_cons (pe_ix ix_lt (pv 1) pe_int (fun _ _ => rfl)) (pa_cons (pv 2) pa_nil)))) (pg_sub (pv 2) (pe_ix ix_lt (pv 1) pe_int (fun _ _ => rfl)) set_list))), ?_⟩
  refine U.w_start (σ' := [some _, some _, some _]) rfl ?_
  walk_at "st"
  cases x <;> try (exact absurd hx (by simp only [Sm.tk]; decide))
  rename_i k e
  rw [Sm.ok] at ho
  rw [Sm.rng] at hg
  rw [Sm.enc] at hz
  rw [evS] at sr
  obtain ⟨p, v1, v2, v3, rfl, hT, h1, h2, h3⟩ := dp_tup3 hz
  cases dp_str h1
  cases dp_int h2
  have S := M.S
  walk_at "go"
  refine ⟨W, R0, B0, R, L, g, q, e, v3, aB, b, rfl, ho, hg.2, pk, M, hb, h3, by omega, num_as sr fun z q1 e1 sr1 R1 H1 M1 s1 => ?_⟩
  have S1 := M1.S
  have hT1 := Same.seqT (s1.trans S1.sub') hT
  walk_at "go"
  refine w_setL (S1.get 2 rfl) (ix_bx hb hg.1) ?_
  exact sr1.wa (fun e => nomatch e) _ _ .non (M1.box _ _) s1 rfl
theorem ca_say (D : Df K mg "_say" (top 66)) (iR : CI K cR fR) (d m : Nat) (c__number : Ca P w K mg base (L2.CX P w) (23 * d + 47) "_number" (spNum K cR cF cT d 6)) : Ca P w K mg base (L2.CX P w) (23 * d + 48) "_say" (spSt K cR cF cT d m 1) := by
  have sc : FnScope ["run", "statement", "boxes"] ["run", "statement", "boxes"] (defScope (top 66)) := ⟨rfl, rfl, rfl, by decide +kernel, rfl, by decide +kernel, by decide +kernel⟩
  have nd := sc.nd
  refine D.caX sc (fun _ _ _ _ _ _ us hl => match us, hl with | [_, _, _], _ => rfl) (fun vs H Q E h => by obtain ⟨_, _, _, _, _, _, _, _, _, _, _, _, rfl, _⟩ := h; rfl) (fun f cdv A outer s H vs Q E hr h => ?_)
  obtain ⟨W, R0, B0, R, L, g, q, x, lp, v, aB, b, rfl, hx, ho, hg, hs, pk, M, hb, hz, hp, sr⟩ := h
  refine ⟨_, (pss_one (ps_expr (pe_bm PySem.F.plainAttrs_list PySem.F.slot_list_append PySem.F.type_list_append mt_append (pe_fld (pv 0) rfl) (pa_cons (pe_ca c__number hr (by omega) rfl (passes_call (takes_of rfl rfl rfl rfl) (fun _ _ _ _ h => h)) (pa_cons (pv 0) (pa_cons (pe_ix ix_lt (pv 1) pe_int (fun _ _ => rfl)) (pa_cons (pv 2) pa_nil)))) pa_nil)))), ?_⟩
  refine U.w_start (σ' := [some _, some _, some _]) rfl ?_
  walk_at "st"
  cases x <;> try (exact absurd hx (by simp only [Sm.tk]; decide))
  rename_i e
  rw [Sm.ok] at ho
  rw [Sm.rng] at hg
  rw [Sm.enc] at hz
  rw [evS] at sr
  obtain ⟨p, v1, v3, rfl, hT, h1, h3⟩ := dp_tup2 hz
  cases dp_str h1
  have S := M.S
  walk_at "go"
  have p1 := evE_pot (pk.grow d) e b q
  refine ⟨W, R0, B0, R, L, g, q, e, v3, aB, b, rfl, ho, hg, pk, M, hb, h3, by omega, num_as sr fun z q1 e1 sr1 R1 H1 M1 s1 => ?_⟩
  have S1 := M1.S
  rw [e1] at p1
  simp only at p1
  have hl : (q1.sd.map V.int).length < sizeLine := by
    rw [List.length_map]
    exact szl' (pot_len (S := g.S) (by omega))
  walk_at "go"
  exact sr1.wa (fun e => nomatch e) _ _ .non (M1.say z) s1 rfl
theorem ca_if (D : Df K mg "if_trees" (top 67)) (d m : Nat) (c__number : Ca P w K mg base (L2.CX P w) (23 * d + 47) "_number" (spNum K cR cF cT d 6)) (c_block_trees : Ca P w K mg base (L2.CX P w) (23 * d + 47 + 2 * m) "block_trees" (spBl K cR cF cT d m)) : Ca P w K mg base (L2.CX P w) (23 * d + 48 + 2 * m) "if_trees" (spSt K cR cF cT d m 2) := by
  refine Ca.mono (j := 23 * d + 47 + 2 * m + 1) ?_ (by omega)
  have sc : FnScope ["run", "statement", "boxes", "_", "asked", "ones", "others"] ["run", "statement", "boxes"] (defScope (top 67)) := ⟨rfl, rfl, rfl, by decide +kernel, rfl, by decide +kernel, by decide +kernel⟩
  have nd := sc.nd
  refine D.caX sc (fun _ _ _ _ _ _ us hl => match us, hl with | [_, _, _], _ => rfl) (fun vs H Q E h => by obtain ⟨_, _, _, _, _, _, _, _, _, _, _, _, rfl, _⟩ := h; rfl) (fun f cdv A outer s H vs Q E hr h => ?_)
  obtain ⟨W, R0, B0, R, L, g, q, x, lp, v, aB, b, rfl, hx, ho, hg, hs, pk, M, hb, hz, hp, sr⟩ := h
  refine ⟨_, (pss_cons (ps_asg (pv 1) (pg_tup rfl (pgs_cons (pg_name (i := 3) nd rfl (by first | exact Or.inl rfl | exact Or.inr rfl)) (pgs_cons (pg_name (i := 4) nd rfl (by first | exact Or.inl rfl | exact Or.inr rfl)) (pgs_cons (pg_name (i := 5) nd rfl (by first | exact Or.inl rfl | exact Or.inr rfl)) (pgs_cons (pg_name (i := 6) nd rfl (by first | exact Or.inl rfl | exact Or.inr rfl)) pgs_nil))))))
    (pss_cons (ps_if (pt_cmpR op_ne (pe_ca c__number hr (by omega) rfl (passes_call (takes_of rfl rfl rfl rfl) (fun _ _ _ _ h => h)) (pa_cons (pv 0) (pa_cons (pv 4) (pa_cons (pv 2) pa_nil)))) pe_int (nomark _)) (pss_one (ps_ret (pe_ca c_block_trees hr (by omega) rfl (passes_call (takes_of rfl rfl rfl rfl) (fun _ _ _ _ h => h)) (pa_cons (pv 0) (pa_cons (pv 5) (pa_cons (pv 2) pa_nil)))))) pss_nil)
    (pss_one (ps_ret (pe_ca c_block_trees hr (by omega) rfl (passes_call (takes_of rfl rfl rfl rfl) (fun _ _ _ _ h => h)) (pa_cons (pv 0) (pa_cons (pv 6) (pa_cons (pv 2) pa_nil)))))))), ?_⟩
  refine U.w_start (σ' := [some _, some _, some _, none, none, none, none]) rfl ?_
  walk_at "st"
  cases x <;> try (exact absurd hx (by simp only [Sm.tk]; decide))
  rename_i e x y
  rw [Sm.ok] at ho
  rw [Sm.rng] at hg
  rw [Sm.enc] at hz
  rw [Sm.sz] at hs hp
  rw [evS] at sr
  obtain ⟨p, v1, v2, v3, v4, rfl, hT, h1, h2, h3, h4⟩ := dp_tup4 hz
  cases dp_str h1
  have S := M.S
  have hT0 := Same.seqT S.sub' hT
  walk_at "go"
  walk_at "if"
  have p1 := evE_pot (pk.grow d) e b q
  refine ⟨W, R0, B0, R, L, g, q, e, v2, aB, b, rfl, ho.1, hg.1, pk, M, hb, h2, by omega, num_as sr fun z q1 e1 sr1 R1 H1 M1 s1 => ?_⟩
  have S1 := M1.S
  rw [e1] at p1
  simp only at p1
  walk_at "go"
  refine itn_cases (fun c => ?_) fun c => ?_
  · rw [if_pos c] at sr1
    walk_at "go"
    exact ⟨W, R0, B0, R1, L, g, q1, y, lp, v4, aB, b, rfl, ho.2.2, hg.2.2, by omega, pk, M1, hb, h4.up s1, by omega, (sr1.up s1).blk⟩
  · rw [if_neg c] at sr1
    walk_at "go"
    exact ⟨W, R0, B0, R1, L, g, q1, x, lp, v3, aB, b, rfl, ho.2.1, hg.2.1, by omega, pk, M1, hb, h3.up s1, by omega, (sr1.up s1).blk⟩
theorem ca_leave (D : Df K mg "leave_trees" (top 71)) (d m : Nat) : Ca P w K mg base (L2.CX P w) 1 "leave_trees" (spSt K cR cF cT d m 4) := by
  have sc : FnScope ["run", "statement", "boxes"] ["run", "statement", "boxes"] (defScope (top 71)) := ⟨rfl, rfl, rfl, by decide +kernel, rfl, by decide +kernel, by decide +kernel⟩
  have nd := sc.nd
  refine D.caX sc (fun _ _ _ _ _ _ us hl => match us, hl with | [_, _, _], _ => rfl) (fun vs H Q E h => by obtain ⟨_, _, _, _, _, _, _, _, _, _, _, _, rfl, _⟩ := h; rfl) (fun f cdv A outer s H vs Q E hr h => ?_)
  obtain ⟨W, R0, B0, R, L, g, q, x, lp, v, aB, b, rfl, hx, ho, hg, hs, pk, M, hb, hz, hp, sr⟩ := h
  refine ⟨_, (pss_one (ps_ret (pe_tup (pa_cons pe_str (pa_cons pe_int pa_nil))))), ?_⟩
  refine U.w_start (σ' := [some _, some _, some _]) rfl ?_
  walk_at "st"
  cases x <;> try (exact absurd hx (by simp only [Sm.tk]; decide))
  rw [evS] at sr
  walk_at "go"
  intro pw nw
  exact sr.wa (fun e => nomatch e) _ _ _ (M.newR nw _) (same_new (M.nR nw) _) ⟨pw, rfl, SqT.of L2.upd_same⟩
theorem ca_next (D : Df K mg "next_trees" (top 73)) (d m : Nat) : Ca P w K mg base (L2.CX P w) 1 "next_trees" (spSt K cR cF cT d m 5) := by
  have sc : FnScope ["run", "statement", "boxes"] ["run", "statement", "boxes"] (defScope (top 73)) := ⟨rfl, rfl, rfl, by decide +kernel, rfl, by decide +kernel, by decide +kernel⟩
  have nd := sc.nd
  refine D.caX sc (fun _ _ _ _ _ _ us hl => match us, hl with | [_, _, _], _ => rfl) (fun vs H Q E h => by obtain ⟨_, _, _, _, _, _, _, _, _, _, _, _, rfl, _⟩ := h; rfl) (fun f cdv A outer s H vs Q E hr h => ?_)
  obtain ⟨W, R0, B0, R, L, g, q, x, lp, v, aB, b, rfl, hx, ho, hg, hs, pk, M, hb, hz, hp, sr⟩ := h
  refine ⟨_, (pss_one (ps_ret (pe_tup (pa_cons pe_str (pa_cons pe_int pa_nil))))), ?_⟩
  refine U.w_start (σ' := [some _, some _, some _]) rfl ?_
  walk_at "st"
  cases x <;> try (exact absurd hx (by simp only [Sm.tk]; decide))
  rw [evS] at sr
  walk_at "go"
  intro pw nw
  exact sr.wa (fun e => nomatch e) _ _ _ (M.newR nw _) (same_new (M.nR nw) _) ⟨pw, rfl, SqT.of L2.upd_same⟩
theorem ca_give (D : Df K mg "give_trees" (top 75)) (d m : Nat) (c__number : Ca P w K mg base (L2.CX P w) (23 * d + 47) "_number" (spNum K cR cF cT d 6)) : Ca P w K mg base (L2.CX P w) (23 * d + 48) "give_trees" (spSt K cR cF cT d m 6) := by
  have sc : FnScope ["run", "statement", "boxes"] ["run", "statement", "boxes"] (defScope (top 75)) := ⟨rfl, rfl, rfl, by decide +kernel, rfl, by decide +kernel, by decide +kernel⟩
  have nd := sc.nd
  refine D.caX sc (fun _ _ _ _ _ _ us hl => match us, hl with | [_, _, _], _ => rfl) (fun vs H Q E h => by obtain ⟨_, _, _, _, _, _, _, _, _, _, _, _, rfl, _⟩ := h; rfl) (fun f cdv A outer s H vs Q E hr h => ?_)
  obtain ⟨W, R0, B0, R, L, g, q, x, lp, v, aB, b, rfl, hx, ho, hg, hs, pk, M, hb, hz, hp, sr⟩ := h
  refine ⟨_, (pss_one (ps_ret (pe_tup (pa_cons pe_str (pa_cons (pe_ca c__number hr (by omega) rfl (passes_call (takes_of rfl rfl rfl rfl) (fun _ _ _ _ h => h)) (pa_cons (pv 0) (pa_cons (pe_ix ix_lt (pv 1) pe_int (fun _ _ => rfl)) (pa_cons (pv 2) pa_nil)))) pa_nil))))), ?_⟩
  refine U.w_start (σ' := [some _, some _, some _]) rfl ?_
  walk_at "st"
  cases x <;> try (exact absurd hx (by simp only [Sm.tk]; decide))
  rename_i e
  rw [Sm.ok] at ho
  rw [Sm.rng] at hg
  rw [Sm.enc] at hz
  rw [evS] at sr
  obtain ⟨p, v1, v3, rfl, hT, h1, h3⟩ := dp_tup2 hz
  cases dp_str h1
  have S := M.S
  walk_at "go"
  refine ⟨W, R0, B0, R, L, g, q, e, v3, aB, b, rfl, ho, hg, pk, M, hb, h3, by omega, num_as sr fun z q1 e1 sr1 R1 H1 M1 s1 => ?_⟩
  walk_at "go"
  intro pw nw
  exact sr1.wa (fun e => nomatch e) _ _ _ (M1.newR nw _) (s1.trans (same_new (M1.nR nw) _)) ⟨pw, rfl, SqT.of L2.upd_same⟩
theorem ca_raise (D : Df K mg "_raise" (top 77)) (d m : Nat) (c__number : Ca P w K mg base (L2.CX P w) (23 * d + 47) "_number" (spNum K cR cF cT d 6)) : Ca P w K mg base (L2.CX P w) (23 * d + 48) "_raise" (spSt K cR cF cT d m 7) := by
  have sc : FnScope ["run", "statement", "boxes"] ["run", "statement", "boxes"] (defScope (top 77)) := ⟨rfl, rfl, rfl, by decide +kernel, rfl, by decide +kernel, by decide +kernel⟩
  have nd := sc.nd
  refine D.caX sc (fun _ _ _ _ _ _ us hl => match us, hl with | [_, _, _], _ => rfl) (fun vs H Q E h => by obtain ⟨_, _, _, _, _, _, _, _, _, _, _, _, rfl, _⟩ := h; rfl) (fun f cdv A outer s H vs Q E hr h => ?_)
  obtain ⟨W, R0, B0, R, L, g, q, x, lp, v, aB, b, rfl, hx, ho, hg, hs, pk, M, hb, hz, hp, sr⟩ := h
  refine ⟨_, (pss_one (ps_ret (pe_tup (pa_cons pe_str (pa_cons (pe_ca c__number hr (by omega) rfl (passes_call (takes_of rfl rfl rfl rfl) (fun _ _ _ _ h => h)) (pa_cons (pv 0) (pa_cons (pe_ix ix_lt (pv 1) pe_int (fun _ _ => rfl)) (pa_cons (pv 2) pa_nil)))) pa_nil))))), ?_⟩
  refine U.w_start (σ' := [some _, some _, some _]) rfl ?_
  walk_at "st"
  cases x <;> try (exact absurd hx (by simp only [Sm.tk]; decide))
  rename_i e
  rw [Sm.ok] at ho
  rw [Sm.rng] at hg
  rw [Sm.enc] at hz
  rw [evS] at sr
  obtain ⟨p, v1, v3, rfl, hT, h1, h3⟩ := dp_tup2 hz
  cases dp_str h1
  have S := M.S
  walk_at "go"
  refine ⟨W, R0, B0, R, L, g, q, e, v3, aB, b, rfl, ho, hg, pk, M, hb, h3, by omega, num_as sr fun z q1 e1 sr1 R1 H1 M1 s1 => ?_⟩
  walk_at "go"
  intro pw nw
  exact sr1.wa (fun e => nomatch e) _ _ _ (M1.newR nw _) (s1.trans (same_new (M1.nR nw) _)) ⟨pw, rfl, SqT.of L2.upd_same⟩
theorem ca_catch (D : Df K mg "catch_trees" (top 78)) (d m : Nat) (c_block_trees : Ca P w K mg base (L2.CX P w) (23 * d + 47 + 2 * m) "block_trees" (spBl K cR cF cT d m)) : Ca P w K mg base (L2.CX P w) (23 * d + 48 + 2 * m) "catch_trees" (spSt K cR cF cT d m 8) := by
  refine Ca.mono (j := 23 * d + 47 + 2 * m + 1) ?_ (by omega)
  have sc : FnScope ["run", "statement", "boxes", "_", "body", "wanted", "box", "hand", "way", "word", "worth"] ["run", "statement", "boxes"] (defScope (top 78)) := ⟨rfl, rfl, rfl, by decide +kernel, rfl, by decide +kernel, by decide +kernel⟩
  have nd := sc.nd
  refine D.caX sc (fun _ _ _ _ _ _ us hl => match us, hl with | [_, _, _], _ => rfl) (fun vs H Q E h => by obtain ⟨_, _, _, _, _, _, _, _, _, _, _, _, rfl, _⟩ := h; rfl) (fun f cdv A outer s H vs Q E hr h => ?_)
  obtain ⟨W, R0, B0, R, L, g, q, x, lp, v, aB, b, rfl, hx, ho, hg, hs, pk, M, hb, hz, hp, sr⟩ := h
  refine ⟨_, (pss_cons (ps_asg (pv 1) (pg_tup rfl (pgs_cons (pg_name (i := 3) nd rfl (by first | exact Or.inl rfl | exact Or.inr rfl)) (pgs_cons (pg_name (i := 4) nd rfl (by first | exact Or.inl rfl | exact Or.inr rfl)) (pgs_cons (pg_name (i := 5) nd rfl (by first | exact Or.inl rfl | exact Or.inr rfl)) (pgs_cons (pg_name (i := 6) nd rfl (by first | exact Or.inl rfl | exact Or.inr rfl)) (pgs_cons (pg_name (i := 7) nd rfl (by first | exact Or.inl rfl | exact Or.inr rfl)) pgs_nil)))))))
    (pss_cons (ps_set (i := 8) nd rfl (by first | exact Or.inl rfl | exact Or.inr rfl) (pe_ca c_block_trees hr (by omega) rfl (passes_call (takes_of rfl rfl rfl rfl) (fun _ _ _ _ h => h)) (pa_cons (pv 0) (pa_cons (pv 4) (pa_cons (pv 2) pa_nil)))))
    (pss_cons (ps_if (pt_cmpR op_isNo (pv 8) pe_non (nomark _)) (pss_one (ps_ret pe_non)) pss_nil)
    (pss_cons (ps_asg (pv 8) (pg_tup rfl (pgs_cons (pg_name (i := 9) nd rfl (by first | exact Or.inl rfl | exact Or.inr rfl)) (pgs_cons (pg_name (i := 10) nd rfl (by first | exact Or.inl rfl | exact Or.inr rfl)) pgs_nil))))
    (pss_cons (ps_if (PW.pt (pw_or (pt_cmpR op_ne (pv 9) pe_str (nomark _)) (pw_or1 (PW.pt (pw_and (pt_cmpR op_notNo (pv 5) pe_non (nomark _)) (pw_and1 (pt_cmpR op_ne (pv 5) (pv 10) (nomark _)))))))) (pss_one (ps_ret (pv 8))) pss_nil)
    (pss_cons (ps_asg (pv 10) (pg_sub (pv 2) (pv 6) set_list))
    (pss_one (ps_ret (pe_ca c_block_trees hr (by omega) rfl (passes_call (takes_of rfl rfl rfl rfl) (fun _ _ _ _ h => h)) (pa_cons (pv 0) (pa_cons (pv 7) (pa_cons (pv 2) pa_nil)))))))))))), ?_⟩
  refine U.w_start (σ' := [some _, some _, some _, none, none, none, none, none, none, none, none]) rfl ?_
  walk_at "st"
  cases x <;> try (exact absurd hx (by simp only [Sm.tk]; decide))
  rename_i x n k y
  rw [Sm.ok] at ho
  rw [Sm.rng] at hg
  rw [Sm.enc] at hz
  rw [Sm.sz] at hs hp
  obtain ⟨p, v1, v2, v3, v4, v5, rfl, hT, h1, h2, h3, h4, h5⟩ := dp_tup5 hz
  cases dp_str h1
  cases dp_int h4
  have S := M.S
  have hT0 := Same.seqT S.sub' hT
  walk_at "go"
  have p1 := evB_pot (pk.grow d) x b q (by omega)
  have bl := evB_len (cl := callD g.pg d) x b q
  refine ⟨W, R0, B0, R, L, g, q, x, lp, v2, aB, b, rfl, ho.1, hg.1, by omega, pk, M, hb, h2, by omega, ?_⟩
  rcases er : evB (callD g.pg d) x b q with ⟨wy, b1, q1⟩
  rw [er] at p1 bl
  simp only at p1 bl
  simp only [evS, er] at sr
  cases wy with
  | tired => exact sr.out
  | on =>
    refine StR.of (fun e => nomatch e) fun R1 H1 v6 M1 s1 hw => ?_
    cases hw
    walk_at "go"
    walk_at "if"
    exact sr.wa (fun e => nomatch e) _ _ _ M1 s1 rfl
  | leave =>
    refine StR.of (fun e => nomatch e) fun R1 H1 v6 M1 s1 hw => ?_
    have hw0 := hw
    obtain ⟨pw, rfl, hw⟩ := hw
    have hw1 := Same.seqT M1.S.sub' hw
    walk_at "go"
    walk_at "if"
    walk_at "if"
    exact sr.wa (fun e => nomatch e) _ _ _ M1 s1 hw0
  | next =>
    refine StR.of (fun e => nomatch e) fun R1 H1 v6 M1 s1 hw => ?_
    have hw0 := hw
    obtain ⟨pw, rfl, hw⟩ := hw
    have hw1 := Same.seqT M1.S.sub' hw
    walk_at "go"
    walk_at "if"
    walk_at "if"
    exact sr.wa (fun e => nomatch e) _ _ _ M1 s1 hw0
  | give z =>
    refine StR.of (fun e => nomatch e) fun R1 H1 v6 M1 s1 hw => ?_
    have hw0 := hw
    obtain ⟨pw, rfl, hw⟩ := hw
    have hw1 := Same.seqT M1.S.sub' hw
    walk_at "go"
    walk_at "if"
    walk_at "if"
    exact sr.wa (fun e => nomatch e) _ _ _ M1 s1 hw0
  | fault z =>
    refine StR.of (fun e => nomatch e) fun R1 H1 v6 M1 s1 hw => ?_
    have hw0 := hw
    obtain ⟨pw, rfl, hw⟩ := hw
    have S1 := M1.S
    have hw1 := Same.seqT S1.sub' hw
    have hb1 : b1.length = 4 := bl.trans hb
    cases n with
    | none =>
      cases dp_non h3
      simp only [TR.wants, if_pos] at sr
      walk_at "go"
      walk_at "if"
      walk_at "if"
      refine w_setL (S1.get 2 rfl) (ix_bx hb1 hg.2.1) ?_
      walk_at "go"
      exact ⟨W, R0, B0, R1, L, g, q1, y, lp, v5, aB, _, rfl, ho.2, hg.2.2, by omega, pk, M1.box k z, bxP_len.trans hb1, h5.up s1, by omega, (sr.up s1).blk⟩
    | some n =>
      cases dp_int h3
      simp only [TR.wants, decide_eq_true_eq] at sr
      walk_at "go"
      walk_at "if"
      walk_at "if"
      refine itn_cases (fun c => ?_) fun c => ?_
      · rw [if_pos c] at sr
        walk_at "go"
        refine w_setL (S1.get 2 rfl) (ix_bx hb1 hg.2.1) ?_
        walk_at "go"
        exact ⟨W, R0, B0, R1, L, g, q1, y, lp, v5, aB, _, rfl, ho.2, hg.2.2, by omega, pk, M1.box k z, bxP_len.trans hb1, h5.up s1, by omega, (sr.up s1).blk⟩
      · rw [if_neg c] at sr
        walk_at "go"
        exact sr.wa (fun e => nomatch e) _ _ _ M1 s1 hw0
theorem ca_end (D : Df K mg "end_trees" (top 80)) (d m : Nat) (c_block_trees : Ca P w K mg base (L2.CX P w) (23 * d + 47 + 2 * m) "block_trees" (spBl K cR cF cT d m)) : Ca P w K mg base (L2.CX P w) (23 * d + 48 + 2 * m) "end_trees" (spSt K cR cF cT d m 9) := by
  refine Ca.mono (j := 23 * d + 47 + 2 * m + 1) ?_ (by omega)
  have sc : FnScope ["run", "statement", "boxes", "_", "body", "last", "way", "other"] ["run", "statement", "boxes"] (defScope (top 80)) := ⟨rfl, rfl, rfl, by decide +kernel, rfl, by decide +kernel, by decide +kernel⟩
  have nd := sc.nd
  refine D.caX sc (fun _ _ _ _ _ _ us hl => match us, hl with | [_, _, _], _ => rfl) (fun vs H Q E h => by obtain ⟨_, _, _, _, _, _, _, _, _, _, _, _, rfl, _⟩ := h; rfl) (fun f cdv A outer s H vs Q E hr h => ?_)
  obtain ⟨W, R0, B0, R, L, g, q, x, lp, v, aB, b, rfl, hx, ho, hg, hs, pk, M, hb, hz, hp, sr⟩ := h
  refine ⟨_, (pss_cons (ps_asg (pv 1) (pg_tup rfl (pgs_cons (pg_name (i := 3) nd rfl (by first | exact Or.inl rfl | exact Or.inr rfl)) (pgs_cons (pg_name (i := 4) nd rfl (by first | exact Or.inl rfl | exact Or.inr rfl)) (pgs_cons (pg_name (i := 5) nd rfl (by first | exact Or.inl rfl | exact Or.inr rfl)) pgs_nil)))))
    (pss_cons (ps_set (i := 6) nd rfl (by first | exact Or.inl rfl | exact Or.inr rfl) (pe_ca c_block_trees hr (by omega) rfl (passes_call (takes_of rfl rfl rfl rfl) (fun _ _ _ _ h => h)) (pa_cons (pv 0) (pa_cons (pv 4) (pa_cons (pv 2) pa_nil)))))
    (pss_cons (ps_set (i := 7) nd rfl (by first | exact Or.inl rfl | exact Or.inr rfl) (pe_ca c_block_trees hr (by omega) rfl (passes_call (takes_of rfl rfl rfl rfl) (fun _ _ _ _ h => h)) (pa_cons (pv 0) (pa_cons (pv 5) (pa_cons (pv 2) pa_nil)))))
    (pss_one (ps_ret (pe_ifExp (pt_cmpR op_isNo (pv 7) pe_non (nomark _)) (pv 6) (pv 7))))))), ?_⟩
  refine U.w_start (σ' := [some _, some _, some _, none, none, none, none, none]) rfl ?_
  walk_at "st"
  cases x <;> try (exact absurd hx (by simp only [Sm.tk]; decide))
  rename_i x y
  rw [Sm.ok] at ho
  rw [Sm.rng] at hg
  rw [Sm.enc] at hz
  rw [Sm.sz] at hs hp
  obtain ⟨p, v1, v2, v3, rfl, hT, h1, h2, h3⟩ := dp_tup3 hz
  cases dp_str h1
  have S := M.S
  have hT0 := Same.seqT S.sub' hT
  walk_at "go"
  have p1 := evB_pot (pk.grow d) x b q (by omega)
  have bl := evB_len (cl := callD g.pg d) x b q
  refine ⟨W, R0, B0, R, L, g, q, x, lp, v2, aB, b, rfl, ho.1, hg.1, by omega, pk, M, hb, h2, by omega, ?_⟩
  rcases er : evB (callD g.pg d) x b q with ⟨wy, b1, q1⟩
  rw [er] at p1 bl
  simp only at p1 bl
  by_cases nw : wy = .tired
  · subst nw
    simp only [evS, er] at sr
    exact sr.out
  · rw [ev_end er nw] at sr
    refine StR.of nw fun R1 H1 v6 M1 s1 hw => ?_
    walk_at "go"
    refine ⟨W, R0, B0, R1, L, g, q1, y, lp, v3, aB, b1, rfl, ho.2, hg.2, by omega, pk, M1, bl.trans hb, h3.up s1, by omega, ?_⟩
    rcases es : evB (callD g.pg d) y b1 q1 with ⟨wz, b2, q2⟩
    rw [es] at sr
    cases wz with
    | tired => exact StR.out (sr.up s1)
    | on =>
      refine StR.of (fun e => nomatch e) fun R2 H2 v7 M2 s2 hv => ?_
      cases hv
      walk_at "go"
      exact sr.wa nw _ _ _ M2 (s1.trans s2) (hw.up s2)
    | leave =>
      refine StR.of (fun e => nomatch e) fun R2 H2 v7 M2 s2 hv => ?_
      have hv0 := hv
      obtain ⟨pw, rfl, hv⟩ := hv
      walk_at "go"
      exact sr.wa (fun e => nomatch e) _ _ _ M2 (s1.trans s2) hv0
    | next =>
      refine StR.of (fun e => nomatch e) fun R2 H2 v7 M2 s2 hv => ?_
      have hv0 := hv
      obtain ⟨pw, rfl, hv⟩ := hv
      walk_at "go"
      exact sr.wa (fun e => nomatch e) _ _ _ M2 (s1.trans s2) hv0
    | give z =>
      refine StR.of (fun e => nomatch e) fun R2 H2 v7 M2 s2 hv => ?_
      have hv0 := hv
      obtain ⟨pw, rfl, hv⟩ := hv
      walk_at "go"
      exact sr.wa (fun e => nomatch e) _ _ _ M2 (s1.trans s2) hv0
    | fault z =>
      refine StR.of (fun e => nomatch e) fun R2 H2 v7 M2 s2 hv => ?_
      have hv0 := hv
      obtain ⟨pw, rfl, hv⟩ := hv
      walk_at "go"
      exact sr.wa (fun e => nomatch e) _ _ _ M2 (s1.trans s2) hv0
end
end TT

namespace TT
open PySem PySem.Spec PyProof.Rows L2 U MM TR M
local macro_rules | `(tactic| walk_at "own1") => `(tactic| first
  | (with_reducible refine TT.w_xf ?_)
  | ((with_reducible refine TT.w_xfE ?wxe ?_); (case wxe => walk_at "hp"))
  | walk_at "own2")
section
variable {P : Program} {w : World} {K : PySem.W.Frag} {mg : Str → Option Value} {base : Heap} {cR cF fI cT aA : Addr}
theorem ca_loop (D : Df K mg "loop_trees" (top 69)) (d m : Nat) (c__take_turn : Ca P w K mg base (L2.CX P w) 1 "_take_turn" (spTurn K cR cT)) (c__number : Ca P w K mg base (L2.CX P w) (23 * d + 47) "_number" (spNum K cR cF cT d 6)) (c_block_trees : Ca P w K mg base (L2.CX P w) (23 * d + 47 + 2 * m) "block_trees" (spBl K cR cF cT d m)) : Ca P w K mg base (L2.CX P w) (23 * d + 48 + 2 * m) "loop_trees" (spSt K cR cF cT d m 3) := by
  refine Ca.mono (j := 23 * d + 47 + 2 * m + 1) ?_ (by omega)
  have sc : FnScope ["run", "statement", "boxes", "_", "asked", "body", "way", "word"] ["run", "statement", "boxes"] (defScope (top 69)) := ⟨rfl, rfl, rfl, by decide +kernel, rfl, by decide +kernel, by decide +kernel⟩
  have nd := sc.nd
  refine D.caX sc (fun _ _ _ _ _ _ us hl => match us, hl with | [_, _, _], _ => rfl) (fun vs H Q E h => by obtain ⟨_, _, _, _, _, _, _, _, _, _, _, _, rfl, _⟩ := h; rfl) (fun f cdv A outer s H vs Q E hr h => ?_)
  obtain ⟨W, R0, B0, R, L, g, q, x, lp, v, aB, b, rfl, hx, ho, hg, hs, pk, M, hb, hz, hp, sr⟩ := h
  refine ⟨_, (pss_cons (ps_asg (pv 1) (pg_tup rfl (pgs_cons (pg_name (i := 3) nd rfl (by first | exact Or.inl rfl | exact Or.inr rfl)) (pgs_cons (pg_name (i := 4) nd rfl (by first | exact Or.inl rfl | exact Or.inr rfl)) (pgs_cons (pg_name (i := 5) nd rfl (by first | exact Or.inl rfl | exact Or.inr rfl)) pgs_nil)))))
    (pss_cons (ps_expr (pe_ca c__take_turn hr (by omega) rfl (passes_call (takes_of rfl rfl rfl rfl) (fun _ _ _ _ h => h)) (pa_cons (pv 0) pa_nil)))
    (pss_cons (ps_while (passes_of rfl) (pt_cmpR op_ne (pe_ca c__number hr (by omega) rfl (passes_call (takes_of rfl rfl rfl rfl) (fun _ _ _ _ h => h)) (pa_cons (pv 0) (pa_cons (pv 4) (pa_cons (pv 2) pa_nil)))) pe_int (nomark _)) (pss_cons (ps_set (i := 6) nd rfl (by first | exact Or.inl rfl | exact Or.inr rfl) (pe_ca c_block_trees hr (by omega) rfl (passes_call (takes_of rfl rfl rfl rfl) (fun _ _ _ _ h => h)) (pa_cons (pv 0) (pa_cons (pv 5) (pa_cons (pv 2) pa_nil)))))
    (pss_cons (ps_if (pt_cmpR op_notNo (pv 6) pe_non (nomark _)) (pss_cons (ps_set (i := 7) nd rfl (by first | exact Or.inl rfl | exact Or.inr rfl) (pe_ix ix_lt (pv 6) pe_int (fun _ _ => rfl)))
    (pss_cons (ps_if (pt_cmpR op_eq (pv 7) pe_str (nomark _)) (pss_one (ps_ret pe_non)) pss_nil)
    (pss_one (ps_if (pt_cmpR op_ne (pv 7) pe_str (nomark _)) (pss_one (ps_ret (pv 6))) pss_nil)))) pss_nil)
    (pss_one (ps_expr (pe_ca c__take_turn hr (by omega) rfl (passes_call (takes_of rfl rfl rfl rfl) (fun _ _ _ _ h => h)) (pa_cons (pv 0) pa_nil)))))))
    (pss_one (ps_ret pe_non))))), ?_⟩
  refine U.w_start (σ' := [some _, some _, some _, none, none, none, none, none]) rfl ?_
  walk_at "st"
  cases x <;> try (exact absurd hx (by simp only [Sm.tk]; decide))
  rename_i e x
  rw [Sm.ok] at ho
  rw [Sm.rng] at hg
  rw [Sm.enc] at hz
  rw [Sm.sz] at hs hp
  rw [evS] at sr
  obtain ⟨p, v1, v2, v3, rfl, hT, h1, h2, h3⟩ := dp_tup3 hz
  cases dp_str h1
  have S := M.S
  have hT0 := Same.seqT S.sub' hT
  have gr := pk.grow d
  have ls := callD_t g.pg d
  walk_at "go"
  refine ⟨W, R0, B0, R, _, g, _, q, rfl, M, fun c => ?_, fun c H1 M1 => ?_⟩
  · rw [loop_0 c] at sr
    exact sr.ti rfl _ _ _ M.drop (Same.refl _)
  · have pl := pot_less (S := g.S) c
    obtain ⟨n0, en, el⟩ := loop_1 (ask := evE (callD g.pg d) e) (body := evB (callD g.pg d) x) (b := b) c (Nat.lt_succ_self q.t)
    rw [el] at sr
    walk_at "go"
    walk_at "lp"
    refine w_while (fun k σ' H' => ∃ R' v6 v7 b' q' n, σ' = [some (.ref g.r), some (.ref p), some (.ref aB), some (.str "loop"), some v2, some v3, v6, v7] ∧ TSt K cR W R0 B0 R' H' (bO aB b' L) g (8 - (d : Int)) q' ∧ Same R R' ∧ b'.length = 4 ∧ pot g.S q' + g.S ≤ 16000000 ∧
      StR K cR cF cT W R0 B0 R' L aB g (8 - (d : Int)) (loopA (evE (callD g.pg d) e) (evB (callD g.pg d) x) n b' q') Q E true ∧ q'.t < n ∧ k = q'.t) q.less.t ⟨R, none, none, b, q.less, n0, rfl, M1, Same.refl _, hb, by omega, sr, by rw [less_t]; omega, rfl⟩ fun k σ' H' hk => ?_
    obtain ⟨R2, v6, v7, b', q', n, rfl, M2, s2, hb2, hp2, sr2, hn, rfl⟩ := hk
    have p2 := evE_pot gr e b' q'
    have t2 := evE_t ls e b' q'
    walk_at "go"
    refine ⟨W, R0, B0, R2, L, g, q', e, v2, aB, b', rfl, ho.1, hg.1, pk, M2, hb2, h2.up s2, by omega, num_as sr2 fun z q3 e3 sr3 R3 H3 M3 s3 => ?_⟩
    rw [e3] at p2 t2
    simp only at p2 t2
    walk_at "go"
    by_cases cz : z = 0
    · rw [if_pos cz] at sr3
      rw [decide_eq_true cz]
      refine w_whF ?_
      walk_at "go"
      exact sr3.wa (fun e => nomatch e) _ _ _ M3 s3 rfl
    · rw [if_neg cz] at sr3
      rw [decide_eq_false cz]
      refine w_whT ?_
      have p4 := evB_pot gr x b' q3 (by omega)
      have t4 := evB_t ls x b' q3
      have bl := evB_len (cl := callD g.pg d) x b' q3
      walk_at "go"
      refine ⟨W, R0, B0, R3, L, g, q3, x, true, v3, aB, b', rfl, ho.2, hg.2, by omega, pk, M3, hb2, h3.up (s2.trans s3), by omega, ?_⟩
      rcases er : evB (callD g.pg d) x b' q3 with ⟨wy, b4, q4⟩
      rw [er] at p4 t4 bl
      simp only at p4 t4 bl
      simp only [er] at sr3
      have go : ∀ (R4 : Hp) (H4 : Hp) (u6 u7 : Option V), StR K cR cF cT W R0 B0 R2 L aB g (8 - (d : Int)) (loopW (evE (callD g.pg d) e) (evB (callD g.pg d) x) n b4 q4) Q E true → TSt K cR W R0 B0 R4 H4 (bO aB b4 L) g (8 - (d : Int)) q4 → Same R3 R4 →
          spTurn K cR cT [.ref g.r] H4 (fun _ H5 => ∃ m', m' < q'.t ∧ ∃ R' v6 v7 b' q' n, [some (V.ref g.r), some (.ref p), some (.ref aB), some (.str "loop"), some v2, some v3, u6, u7] = [some (.ref g.r), some (.ref p), some (.ref aB), some (.str "loop"), some v2, some v3, v6, v7] ∧ TSt K cR W R0 B0 R' H5 (bO aB b' L) g (8 - (d : Int)) q' ∧ Same R R' ∧ b'.length = 4 ∧ pot g.S q' + g.S ≤ 16000000 ∧
            StR K cR cF cT W R0 B0 R' L aB g (8 - (d : Int)) (loopA (evE (callD g.pg d) e) (evB (callD g.pg d) x) n b' q') Q E true ∧ q'.t < n ∧ m' = q'.t) E := by
        intro R4 H4 u6 u7 sw M4 s4
        refine ⟨W, R0, B0, R4, _, g, _, q4, rfl, M4, fun c4 => ?_, fun c4 H5 M5 => ?_⟩
        · rw [loop_0 c4] at sw
          exact sw.ti rfl _ _ _ M4.drop (s3.trans s4)
        · obtain ⟨n5, en5, el5⟩ := loop_1 (ask := evE (callD g.pg d) e) (body := evB (callD g.pg d) x) (b := b4) (n := n) c4 (by omega)
          rw [el5] at sw
          have pl4 := pot_less (S := g.S) c4
          exact ⟨q4.less.t, by rw [less_t]; omega, R4, u6, u7, b4, q4.less, n5, rfl, M5, (s2.trans s3).trans s4, bl.trans hb2, by omega, sw.up (s3.trans s4), by rw [less_t]; omega, rfl⟩
      cases wy with
      | tired => exact StR.out (sr3.up s3)
      | on =>
        refine StR.of (fun e => nomatch e) fun R4 H4 v8 M4 s4 hw => ?_
        cases hw
        walk_at "go"
        walk_at "if"
        walk_at "go"
        exact go R4 H4 _ _ sr3 M4 s4
      | next =>
        refine StR.of (fun e => nomatch e) fun R4 H4 v8 M4 s4 hw => ?_
        obtain ⟨pw, rfl, hw⟩ := hw
        have hw1 := Same.seqT M4.S.sub' hw
        walk_at "go"
        walk_at "if"
        walk_at "if"
        walk_at "go"
        exact go R4 H4 _ _ sr3 M4 s4
      | leave =>
        refine StR.of (fun e => nomatch e) fun R4 H4 v8 M4 s4 hw => ?_
        obtain ⟨pw, rfl, hw⟩ := hw
        have hw1 := Same.seqT M4.S.sub' hw
        walk_at "go"
        walk_at "if"
        walk_at "if"
        exact sr3.wa (fun e => nomatch e) _ _ _ M4 (s3.trans s4) rfl
      | give z =>
        refine StR.of (fun e => nomatch e) fun R4 H4 v8 M4 s4 hw => ?_
        have hw0 := hw
        obtain ⟨pw, rfl, hw⟩ := hw
        have hw1 := Same.seqT M4.S.sub' hw
        walk_at "go"
        walk_at "if"
        walk_at "if"
        exact sr3.wa (fun e => nomatch e) _ _ _ M4 (s3.trans s4) hw0
      | fault z =>
        refine StR.of (fun e => nomatch e) fun R4 H4 v8 M4 s4 hw => ?_
        have hw0 := hw
        obtain ⟨pw, rfl, hw⟩ := hw
        have hw1 := Same.seqT M4.S.sub' hw
        walk_at "go"
        walk_at "if"
        walk_at "if"
        exact sr3.wa (fun e => nomatch e) _ _ _ M4 (s3.trans s4) hw0
end
end TT

namespace TT
open PySem PySem.Spec PyProof.Rows L2 U MM TR M
local macro_rules | `(tactic| walk_at "own1") => `(tactic| first
  | (with_reducible refine TT.w_xf ?_)
  | ((with_reducible refine TT.w_xfE ?wxe ?_); (case wxe => assumption))
  | (with_reducible refine TT.w_callS ?_)
  | walk_at "own2")
section
variable {P : Program} {w : World} {K : PySem.W.Frag} {mg : Str → Option Value} {base : Heap} {cR cF fI cT aA : Addr}
theorem sm_head {R : Hp} {v : V} {x : Sm} (h : Dp K R v x.enc) : ∃ p vs, v = .ref p ∧ SqT K R p (.str x.word :: vs) := by
  cases x <;> (
    rw [Sm.enc] at h
    obtain ⟨p, vs, rfl, hs, ha⟩ := dp_tup h
    obtain ⟨v1, w1, rfl, h1, _⟩ := dpa_cons ha
    cases dp_str h1
    exact ⟨p, w1, rfl, hs⟩)
theorem rngL_get {n : Nat} : ∀ {l : List Sm} {i : Nat} {x : Sm}, rngL n l → l[i]? = some x → x.rng n
  | [], _, _, _, e => by cases e
  | y :: r, 0, x, h, e => by
    cases e
    rw [rngL] at h
    exact h.1
  | y :: r, i + 1, x, h, e => by
    rw [rngL] at h
    exact rngL_get h.2 (by simpa using e)
theorem ca_bl_no (D : Df K mg "block_trees" (top 62)) (d k : Nat) : Ca P w K mg base (L2.CX P w) (k + 1) "block_trees" (spBl K cR cF cT d 0) := by
  have sc : FnScope ["run", "block", "boxes", "statement", "act", "way", "fault"] ["run", "block", "boxes"] (defScope (top 62)) := ⟨rfl, rfl, rfl, by decide +kernel, rfl, by decide +kernel, by decide +kernel⟩
  exact D.caX sc (fun _ _ _ _ _ _ us hl => match us, hl with | [_, _, _], _ => rfl) (fun _ _ _ _ h => by obtain ⟨_, _, _, _, _, _, _, _, _, _, _, _, _, h, _⟩ := h; exact absurd (okL_pos h) (Nat.lt_irrefl _)) (fun _ _ _ _ _ _ _ _ _ _ h => by obtain ⟨_, _, _, _, _, _, _, _, _, _, _, _, _, h, _⟩ := h; exact absurd (okL_pos h) (Nat.lt_irrefl _))
theorem ca_bl1 (D : Df K mg "block_trees" (top 62)) (tF : PySem.FltX.Flt K mg cF fI) (tT : PySem.FltX.Trd K mg cT cF) {Hl : Addr → Sp → Prop} (g_ACTS_trees : mg "ACTS_trees" = some (.ref aA)) (d m : Nat) (tab : ∀ x : Sm, ∃ f, KDct K w aA (Sm.word x) (.ref f) ∧ Hl f (spSt K cR cF cT d m x.tk))
    (hA : ∀ f sp, Hl f sp → Cf P w K mg base (L2.CX P w) (23 * d + 48 + 2 * m) f sp) : Ca P w K mg base (L2.CX P w) (23 * d + 47 + 2 * (m + 1)) "block_trees" (spBl K cR cF cT d (m + 1)) := by
  refine Ca.mono (j := 23 * d + 48 + 2 * m + 1) ?_ (by omega)
  have sc : FnScope ["run", "block", "boxes", "statement", "act", "way", "fault"] ["run", "block", "boxes"] (defScope (top 62)) := ⟨rfl, rfl, rfl, by decide +kernel, rfl, by decide +kernel, by decide +kernel⟩
  have nd := sc.nd
  refine D.caX sc (fun _ _ _ _ _ _ us hl => match us, hl with | [_, _, _], _ => rfl) (fun vs H Q E h => by obtain ⟨_, _, _, _, _, _, _, _, _, _, _, _, rfl, _⟩ := h; rfl) (fun f cdv A outer s H vs Q E hr h => ?_)
  obtain ⟨W, R0, B0, R, L, g, q, l, lp, v, aB, b, rfl, ho, hg, hs, pk, M, hb, hz, hp, sr⟩ := h
  refine ⟨_, (pss_cons (ps_for (passes_of rfl) rfl (pi_list (pv 1)) (pg_name (i := 3) nd rfl (by first | exact Or.inl rfl | exact Or.inr rfl)) (pss_cons (ps_set (i := 4) nd rfl (by first | exact Or.inl rfl | exact Or.inr rfl) (pe_ix ix_kdict (pe_gr rfl g_ACTS_trees) (pe_ix ix_lt (pv 3) pe_int (fun _ _ => rfl)) (fun _ _ => rfl)))
    (pss_cons (ps_try_as (i := 6) rfl rfl nd rfl rfl ⟨rfl, by decide, Or.inl tF.gl⟩ (takes_of rfl rfl rfl rfl) (fun W pn xe tk _ => (pss_one (ps_set (i := 5) nd rfl (by first | exact Or.inl rfl | exact Or.inr rfl) (pe_callHS hA hr (by omega) (fun σ => passAt tk σ) (i := 4) rfl (by first | exact Or.inl rfl | exact Or.inr (Or.inl rfl)) (pa_cons (pv 0) (pa_cons (pv 3) (pa_cons (pv 2) pa_nil))))))) (fun a oe cls d pn hz hf => (pss_one (ps_set (i := 5) nd rfl (by first | exact Or.inl rfl | exact Or.inr rfl) (pe_tup (pa_cons pe_str (pa_cons (pe_xf tF.xf tF.no hz hf (pv 6)) pa_nil)))))))
    (pss_one (ps_if (pt_cmpR op_notNo (pv 5) pe_non (nomark _)) (pss_one (ps_ret (pv 5))) pss_nil)))))
    (pss_one (ps_ret pe_non))), ?_⟩
  refine U.w_start (σ' := [some _, some _, some _, none, none, none, none]) rfl ?_
  walk_at "st"
  obtain ⟨p, vs, rfl, hT, hD⟩ := dp_lst hz
  have hlen : vs.length = l.length := by rw [hD.len, encL_len]
  have gr := pk.grow d
  have S := M.S
  walk_at "lp"
  refine for_L (fun i σ' H' => ∃ R' v3 v4 v5 v6 b' q', σ' = [some (.ref g.r), some (.ref p), some (.ref aB), v3, v4, v5, v6] ∧ TSt K cR W R0 B0 R' H' (bO aB b' L) g (8 - (d : Int)) q' ∧ Same R R' ∧ b'.length = 4 ∧ pot g.S q' + szL (l.drop i) ≤ 16000000 ∧
    StR K cR cF cT W R0 B0 R' L aB g (8 - (d : Int)) (evB (callD g.pg d) (l.drop i) b' q') Q E false) (Same.seqL S.sub' hT) ⟨R, none, none, none, none, b, q, rfl, M, Same.refl _, hb, hp, sr⟩ (fun i σ' H' _ hk => ?_) (fun i y σ' H' hy hk => ?_) (fun σ' H' hk => ?_)
  · obtain ⟨R', v3, v4, v5, v6, b', q', rfl, M1, s1, _⟩ := hk
    exact Same.seqL (s1.trans M1.S.sub') hT
  · obtain ⟨R', v3, v4, v5, v6, b', q', rfl, M1, s1, hb1, hp1, sr1⟩ := hk
    have S1 := M1.S
    obtain ⟨dd, hd, hdx⟩ := hD.get hy
    rw [encL_map, List.getElem?_map] at hd
    obtain ⟨x, hx, rfl⟩ := Option.map_eq_some_iff.mp hd
    obtain ⟨px, vx, rfl, hTx⟩ := sm_head hdx
    have hTx1 := Same.seqT (s1.trans S1.sub') hTx
    have e2 : l.drop i = x :: l.drop (i + 1) := by
      have := List.drop_eq_getElem_cons (List.getElem?_eq_some_iff.mp hx).1
      rw [(List.getElem?_eq_some_iff.mp hx).2] at this
      exact this
    have sz1 : szL (l.drop i) ≤ szL l := by
      have h : ∀ (a c : List Sm), szL c ≤ szL (a ++ c) := fun a c => by
        induction a with
        | nil => exact Nat.le_refl _
        | cons z a ih => rw [List.cons_append, szL]; omega
      have := h (l.take i) (l.drop i)
      rw [List.take_append_drop] at this
      exact this
    rw [e2, szL] at sz1 hp1
    rw [e2, evB] at sr1
    walk_at "go"
    obtain ⟨fa, hkd, hHl⟩ := tab x
    refine w_ixD hkd ?_
    walk_at "go"
    refine TT.w_callHS (f := fa) rfl hHl ?_
    walk_at "go"
    have p2 := evS_pot gr x b' q' (by omega)
    have bl := evS_len (cl := callD g.pg d) x b' q'
    refine ⟨W, R0, B0, R', L, g, q', x, lp, .ref px, aB, b', rfl, rfl, okL_get ho hx, rngL_get hg hx, by omega, pk, M1, hb1, hdx.up s1, by omega, ?_⟩
    rcases es : evS (callD g.pg d) x b' q' with ⟨wy, b1, q1⟩
    rw [es] at p2 bl
    simp only at p2 bl
    simp only [es] at sr1
    cases wy with
    | tired => exact ⟨fun _ R2 H2 e M2 s2 => ⟨false, tT.nf, (fun z => nomatch z), fun _ => sr1.ti rfl R2 H2 e M2 s2⟩, fun n => absurd rfl n, fun _ _ e => nomatch e⟩
    | on =>
      refine ⟨(fun e => nomatch e), fun _ R2 H2 v7 M2 s2 hw => ?_, fun _ _ e => nomatch e⟩
      cases hw
      walk_at "go"
      first | walk_at "if" | walk_at "go"
      exact ⟨R2, _, _, _, _, b1, q1, rfl, M2, s1.trans s2, bl.trans hb1, by omega, sr1.up s2⟩
    | leave =>
      refine ⟨(fun e => nomatch e), fun _ R2 H2 v7 M2 s2 hw => ?_, fun _ _ e => nomatch e⟩
      have hw0 := hw
      obtain ⟨pw, rfl, hw⟩ := hw
      walk_at "go"
      first | walk_at "if" | walk_at "go"
      exact sr1.wa (fun e => nomatch e) _ _ _ M2 s2 hw0
    | next =>
      refine ⟨(fun e => nomatch e), fun _ R2 H2 v7 M2 s2 hw => ?_, fun _ _ e => nomatch e⟩
      have hw0 := hw
      obtain ⟨pw, rfl, hw⟩ := hw
      walk_at "go"
      first | walk_at "if" | walk_at "go"
      exact sr1.wa (fun e => nomatch e) _ _ _ M2 s2 hw0
    | give z =>
      refine ⟨(fun e => nomatch e), fun _ R2 H2 v7 M2 s2 hw => ?_, fun _ _ e => nomatch e⟩
      have hw0 := hw
      obtain ⟨pw, rfl, hw⟩ := hw
      walk_at "go"
      first | walk_at "if" | walk_at "go"
      exact sr1.wa (fun e => nomatch e) _ _ _ M2 s2 hw0
    | fault z =>
      refine ⟨(fun e => nomatch e), fun _ R2 H2 v7 M2 s2 hw => ?_, fun _ zz ez R2 H2 dx M2 s2 hdx => ?_⟩
      · have hw0 := hw
        obtain ⟨pw, rfl, hw⟩ := hw
        walk_at "go"
        first | walk_at "if" | walk_at "go"
        exact sr1.wa (fun e => nomatch e) _ _ _ M2 s2 hw0
      · cases ez
        refine ⟨true, tF.te, fun _ a na => ?_, fun z => nomatch z⟩
        dsimp only
        walk_at "go"
        refine TT.w_xfE hdx ?_
        walk_at "go"
        intro pw nw
        dsimp only [List.set_cons_zero, List.set_cons_succ]
        walk_at "go"
        first | walk_at "if" | walk_at "go"
        exact sr1.wa (fun e => nomatch e) _ _ _ (M2.newR nw _) (s2.trans (same_new (M2.nR nw) _)) ⟨pw, rfl, SqT.of L2.upd_same⟩
  · obtain ⟨R', v3, v4, v5, v6, b', q', rfl, M1, s1, hb1, hp1, sr1⟩ := hk
    rw [hlen, List.drop_length, evB] at sr1
    walk_at "go"
    exact sr1.wa (fun e => nomatch e) _ _ _ M1 (Same.refl _) rfl
end
end TT

namespace TT
open PySem PySem.Spec PyProof.Rows L2 U MM TR M
local macro_rules | `(tactic| walk_at "own1") => `(tactic| first
  | (with_reducible refine TT.w_xf ?_)
  | (with_reducible refine TT.w_callS ?_)
  | walk_at "own2")
def actN : Nat → Str
  | 0 => "set_trees"
  | 1 => "_say"
  | 2 => "if_trees"
  | 3 => "loop_trees"
  | 4 => "leave_trees"
  | 5 => "next_trees"
  | 6 => "give_trees"
  | 7 => "_raise"
  | 8 => "catch_trees"
  | _ => "end_trees"
structure TelD (w : World) (K : PySem.W.Frag) (mg : Str → Option Value) (cR cF fI cT aA : Addr) : Prop where
  iR : CI K cR fR
  flt : PySem.FltX.Flt K mg cF fI
  trd : PySem.FltX.Trd K mg cT cF
  nought : ∃ t, mg "NOUGHT" = some (.int 101 t)
  deep : ∃ t, mg "DEEP" = some (.int 102 t)
  deepest : ∃ t, mg "DEEPEST" = some (.int 8 t)
  boxes : ∃ t, mg "BOXES" = some (.int 4 t)
  ini : DfI K mg "Run" cR "Run.__init__" (inClass (top 57) 0)
  reck : Df K mg "reckoned" (top 21)
  told : Df K mg "told" (top 58)
  gb : Df K mg "_given_back" (top 59)
  turn : Df K mg "_take_turn" (top 60)
  num : Df K mg "_number" (top 61)
  blk : Df K mg "block_trees" (top 62)
  set : Df K mg "set_trees" (top 64)
  say : Df K mg "_say" (top 66)
  iff : Df K mg "if_trees" (top 67)
  loop : Df K mg "loop_trees" (top 69)
  leave : Df K mg "leave_trees" (top 71)
  next : Df K mg "next_trees" (top 73)
  give : Df K mg "give_trees" (top 75)
  raise : Df K mg "_raise" (top 77)
  catch_ : Df K mg "catch_trees" (top 78)
  endd : Df K mg "end_trees" (top 80)
  acts : mg "ACTS_trees" = some (.ref aA)
  tab : ∀ x : Sm, ∃ f, KDct K w aA (Sm.word x) (.ref f) ∧ mg (actN x.tk) = some (.ref f)
section
variable {P : Program} {w : World} {K : PySem.W.Frag} {mg : Str → Option Value} {base : Heap} {cR cF fI cT aA : Addr}
theorem tk_le (x : Sm) : x.tk ≤ 9 := by cases x <;> simp [Sm.tk]
theorem ca_num (hS : seerB K = true) (hP : P.given.tree = none) (D : TelD w K mg cR cF fI cT aA) (d : Nat) (gb : Ca P w K mg base (L2.CX P w) (23 * d + 41) "_given_back" (spGb K cR cF cT d)) : ∀ m : Nat, Ca P w K mg base (L2.CX P w) (23 * d + 41 + m) "_number" (spNum K cR cF cT d m)
  | 0 => ca_num_no D.num d
  | m + 1 => (ca_num1 D.num D.flt D.nought d m (ca_reckoned hS hP D.reck) (ca_turn D.turn D.iR D.trd) gb (ca_num hS hP D d gb m)).mono (by omega)
def HlT (K : PySem.W.Frag) (mg : Str → Option Value) (cR cF cT : Addr) (d m : Nat) (f : Addr) (sp : Sp) : Prop := ∃ i, sp = spSt K cR cF cT d m i ∧ mg (actN i) = some (.ref f) ∧ i ≤ 9
theorem ca_blk (hS : seerB K = true) (hP : P.given.tree = none) (D : TelD w K mg cR cF fI cT aA) (d : Nat) (gb : Ca P w K mg base (L2.CX P w) (23 * d + 41) "_given_back" (spGb K cR cF cT d)) : ∀ m : Nat, Ca P w K mg base (L2.CX P w) (23 * d + 47 + 2 * m) "block_trees" (spBl K cR cF cT d m)
  | 0 => ca_bl_no D.blk d _
  | m + 1 => by
    have bl := ca_blk hS hP D d gb m
    have nu : Ca P w K mg base (L2.CX P w) (23 * d + 47) "_number" (spNum K cR cF cT d 6) := (ca_num hS hP D d gb 6).mono (by omega)
    have tu : Ca P w K mg base (L2.CX P w) 1 "_take_turn" (spTurn K cR cT) := ca_turn D.turn D.iR D.trd
    refine ca_bl1 D.blk D.flt D.trd (Hl := HlT K mg cR cF cT d m) D.acts d m (fun x => ?_) fun f sp h => ?_
    · obtain ⟨f, h1, h2⟩ := D.tab x
      exact ⟨f, h1, x.tk, rfl, h2, tk_le x⟩
    · obtain ⟨i, rfl, h, hi⟩ := h
      match i, hi, h with
      | 0, _, h => exact ((ca_set D.set d m nu).mono (by omega)).cf h
      | 1, _, h => exact ((ca_say D.say D.iR d m nu).mono (by omega)).cf h
      | 2, _, h => exact ((ca_if D.iff d m nu bl).mono (by omega)).cf h
      | 3, _, h => exact ((ca_loop D.loop d m tu nu bl).mono (by omega)).cf h
      | 4, _, h => exact ((ca_leave D.leave d m).mono (by omega)).cf h
      | 5, _, h => exact ((ca_next D.next d m).mono (by omega)).cf h
      | 6, _, h => exact ((ca_give D.give d m nu).mono (by omega)).cf h
      | 7, _, h => exact ((ca_raise D.raise d m nu).mono (by omega)).cf h
      | 8, _, h => exact ((ca_catch D.catch_ d m bl).mono (by omega)).cf h
      | 9, _, h => exact ((ca_end D.endd d m bl).mono (by omega)).cf h
      | n + 10, hi, _ => omega
theorem ca_gb (hS : seerB K = true) (hP : P.given.tree = none) (D : TelD w K mg cR cF fI cT aA) : ∀ d : Nat, Ca P w K mg base (L2.CX P w) (23 * d + 41) "_given_back" (spGb K cR cF cT d)
  | 0 => ca_gb0 D.gb D.iR D.flt D.deep D.deepest D.boxes (ca_bl_no D.blk 0 39)
  | d + 1 => ca_gb1 D.gb D.iR D.flt D.deep D.deepest D.boxes d ((ca_blk hS hP D d (ca_gb hS hP D d) 8).mono (by omega))
/-! ### told -/
def tellD (r : List Int × Ou) : PyData := .tuple [.list (r.1.map PyData.int), .str r.2.word, .int r.2.num]
def spTold (K : PySem.W.Frag) : Sp := fun vs H Q _ => ∃ (W : List Addr) (R0 B0 R : Hp) (L : List (Addr × HO)) (pg : Pg) (S : Nat) (v : V) (z : Int) (t : Nat), vs = [v, .int z, .int (t : Nat)] ∧ CK.GdP pg ∧ (∀ b ∈ pg, szL b ≤ S) ∧ S * t + S ≤ 16000000 ∧ Sta W R0 B0 R H L ∧ Dp K R v (encP pg) ∧
  ∀ R' H' p, Sta W R0 B0 R' H' L → Same R R' → Dp K R' (.ref p) (tellD (tell pg z t)) → Q (.ref p) H'
theorem told_end {W : List Addr} {R0 B0 R H : Hp} {L : List (Addr × HO)} {g : Gt} {ent : Int} {q : Gs} {pw : Addr} (M : TSt K cR W R0 B0 R H L g ent q) (n : H pw = none) (wd : Str) (y : Int) :
    ∃ R', Sta W R0 B0 R' (upd H pw (.tup [.ref g.s, .str wd, .int y])) L ∧ Same R R' ∧ Dp K R' (.ref pw) (.tuple [.list (q.sd.map PyData.int), .str wd, .int y]) := by
  have S1 := M.S.less (List.sublist_cons_self _ _)
  have hn := S1.noR 0 rfl
  have S2 := S1.frz
  exact ⟨_, S2.newR n _, (same_new hn _).trans (same_new (S2.nR n) _), dp_tupN (S2.nR n) (.cons (dp_newL L2.upd_same (DpAll.ints _)) (.cons (.str _) (.cons (.int _) .nil)))⟩
theorem ca_told0 (D : Df K mg "told" (top 58)) (iR : CI K cR fR) (tF : PySem.FltX.Flt K mg cF fI) (tT : PySem.FltX.Trd K mg cT cF) (c_Run : CaI P w K mg base CX0 1 "Run" cR (spRunI cR)) (c_checked : Ca P w K mg base CX0 40 "checked" (CM.spChk K CK.GdP)) (c__given_back : Ca P w K mg base (L2.CX P w) 225 "_given_back" (spGb K cR cF cT 8)) :
    Ca P w K mg base CX0 226 "told" (spTold K) := by
  have sc : FnScope ["program", "number", "turns", "run", "answer", "fault"] ["program", "number", "turns"] (defScope (top 58)) := ⟨rfl, rfl, rfl, by decide +kernel, rfl, by decide +kernel, by decide +kernel⟩
  have nd := sc.nd
  refine D.ca0 sc (fun _ _ _ _ _ _ us hl => match us, hl with | [_, _, _], _ => rfl) (fun vs H Q E h => by obtain ⟨_, _, _, _, _, _, _, _, _, _, rfl, _⟩ := h; rfl) (fun f cdv A outer s H vs Q E hr h => ?_)
  obtain ⟨W, R0, B0, R, L, pg, S, v, z, t, rfl, gd, hs, hp, St, hz, q⟩ := h
  refine ⟨_, (pss_cons (ps_expr (pe_ca c_checked hr (by omega) rfl pass0 (pa_cons (pv 0) pa_nil)))
    (pss_cons (ps_set (i := 3) nd rfl (by first | exact Or.inl rfl | exact Or.inr rfl) (pe_mk c_Run hr (by omega) rfl pass0 (pa_cons (pv 0) (pa_cons (pv 2) pa_nil))))
    (pss_cons (ps_try_2 (i := 5) (tb := fun Wx => tAsg (tCallS (spGb K cR cF cT 8) (WE Wx) (tCons (tVar 3) (tCons (tC (.int 0)) (tCons (tVar 1) tNil)))) (gName 4)) (t1 := fun a cls d => tRet (tTup (tCons (tFld K (tVar 3) "said") (tCons (tC (.str "fault")) (tCons (tXf a cls d cF "number" (tVar 5)) tNil))))) (t2 := fun _ _ _ => tRet (tTup (tCons (tFld K (tVar 3) "said") (tCons (tC (.str "tired")) (tCons (tC (.int 0)) tNil))))) (Wo := fun _ _ _ _ => False) rfl rfl nd rfl rfl ⟨rfl, by decide, Or.inl tF.gl⟩ ⟨rfl, by decide, Or.inl tT.gl⟩ takes0 (fun W pn xe tk _ => (pss_one (ps_set (i := 4) nd rfl (by first | exact Or.inl rfl | exact Or.inr rfl) (pe_caS c__given_back hr (by omega) rfl (fun σ => passAt tk σ) (pa_cons (pv 3) (pa_cons pe_int (pa_cons (pv 1) pa_nil))))))) (fun a oe cls d pn hz hf => (pss_one (ps_ret (pe_tup (pa_cons (pe_fld (pv 3) rfl) (pa_cons pe_str (pa_cons (pe_xf tF.xf tF.no hz hf (pv 5)) pa_nil))))))) (fun a oe cls d pn hz hf => (pss_one (ps_ret (pe_tup (pa_cons (pe_fld (pv 3) rfl) (pa_cons pe_str (pa_cons pe_int pa_nil))))))))
    (pss_one (ps_ret (pe_tup (pa_cons (pe_fld (pv 3) rfl) (pa_cons pe_str (pa_cons (pv 4) pa_nil))))))))), ?_⟩
  refine U.w_start (σ' := [some _, some _, some _, none, none, none]) rfl ?_
  walk_at "st"
  obtain ⟨p0, vs, rfl, _, _⟩ := dp_lst hz
  refine ⟨W, R0, B0, R, L, pg, _, rfl, gd, St, hz, fun R1 H1 S1 s1 => ?_⟩
  walk_at "go"
  intro x dx nx nd ne
  have S2 := (S1.newX nd (.own x)).new (by rw [upd_ne (Ne.symm ne)]; exact nx) (.ins cR dx [])
  refine ⟨W, R0, B0, R1, L, x, dx, .ref p0, t, rfl, S2, fun H2 a S3 => ⟨rfl, ?_⟩⟩
  have M : TSt K cR W R0 B0 R1 H2 L ⟨x, dx, p0, a, pg, S⟩ 0 ⟨t, []⟩ := ⟨S3, hz.up s1⟩
  have e8 : (8 : Int) - ((8 : Nat) : Int) = 0 := by decide
  have hl : 0 < pg.length := by
    cases pg with
    | nil => exact absurd rfl gd.1
    | cons _ _ => exact Nat.succ_pos _
  walk_at "go"
  refine ⟨W, R0, B0, R1, L, ⟨x, dx, p0, a, pg, S⟩, ⟨t, []⟩, 0, z, rfl, by decide, by simpa using hl, fun b hb => ⟨(gd.2 b hb).1, (gd.2 b hb).2, hs b hb⟩, by rw [e8]; exact M, by show ([] : List Int).length + S * t + S ≤ _; rw [List.length_nil, Nat.zero_add]; exact hp, ?_⟩
  rcases er : callD pg 8 0 z ⟨t, []⟩ with ⟨y | y | _, q1⟩
  · have et : tell pg z t = (q1.sd, .answer y) := by unfold tell; rw [er]
    intro R2 H3 M2 s2
    have S4 := M2.S
    walk_at "go"
    intro pw nw
    obtain ⟨R5, S5, s5, d5⟩ := told_end M2 nw "answer" y
    exact q _ _ _ S5 ((s1.trans s2).trans s5) (by rw [et]; exact d5)
  · have et : tell pg z t = (q1.sd, .fault y) := by unfold tell; rw [er]
    intro R2 H3 dd M2 s2 hd
    have S4 := M2.S
    refine ⟨true, tF.te, fun _ a na => ?_, (fun z => nomatch z)⟩
    dsimp only
    walk_at "go"
    refine TT.w_xfE hd ?_
    walk_at "go"
    intro pw nw
    obtain ⟨R5, S5, s5, d5⟩ := told_end M2 nw "fault" y
    exact q _ _ _ S5 ((s1.trans s2).trans s5) (by rw [et]; exact d5)
  · have et : tell pg z t = (q1.sd, .tired) := by unfold tell; rw [er]
    intro R2 H3 e2 M2 s2
    have S4 := M2.S
    refine ⟨false, tT.nf, (fun z => nomatch z), fun _ => ⟨true, tT.te, fun _ a na => ?_, (fun z => nomatch z)⟩⟩
    dsimp only
    walk_at "go"
    intro pw nw
    obtain ⟨R5, S5, s5, d5⟩ := told_end M2 nw "tired" 0
    exact q _ _ _ S5 ((s1.trans s2).trans s5) (by rw [et]; exact d5)
theorem ca_told (hS : seerB K = true) (hP : P.given.tree = none) (D : TelD w K mg cR cF fI cT aA) (ck : Ca P w K mg base CX0 40 "checked" (CM.spChk K CK.GdP)) : Ca P w K mg base CX0 226 "told" (spTold K) :=
  ca_told0 D.told D.iR D.flt D.trd (ca_runI D.ini D.iR) ck ((ca_gb hS hP D 8).mono (by omega))
end
end TT

namespace TT
open PySem PySem.Spec PyProof.Rows L2 U MM TR M He
section
variable {ws : List Wd} {ts : List Tab} {ex : PySem.W.Frag → Bool} {w : World} {K : PySem.W.Frag} {h : Heap} {mg : Str → Option Value}
theorem telD_of (X : K.In h) (G : h.Ns mainGlobals mg) (c : SaysU (faU ws) (fnU ws) ts ex w K) (hw : ∀ d ∈ tW, d ∈ ws) (i : Nat) (hi : ts[i]? = some tcT) (hx : tX K = true) : ∃ fI, TelD w K mg (ga K "Run") (ga K "Fault") fI (ga K "Tired") (ga K "ACTS_trees") ∧ seerB K = true := by
  obtain ⟨x1, hx⟩ := ba hx
  obtain ⟨x2, hx⟩ := ba hx
  obtain ⟨x3, x4⟩ := ba hx
  have m : ∀ (i : Nat) (d : Wd), tW[i]? = some d → d ∈ ws := fun i d e => hw d (List.mem_of_getElem? e)
  have hs : ∀ (k : Nat) (q : Str × Dv), tcN[k]? = some q → KDct K w (ga K "ACTS_trees") q.1 (q.2.v K) := fun k q e => tab_u c i hi x1 (List.mem_of_getElem? e)
  obtain ⟨fI, F⟩ := PySem.FltX.flt_of (me_m X G c (m 23 _ rfl)) x2 rfl rfl rfl
  refine ⟨fI, ⟨ci_m c (m 0 _ rfl), F, PySem.FltX.trd_of (any_m X G c (m 24 _ rfl)) x3, num_m X G c (m 1 _ rfl), num_m X G c (m 2 _ rfl), num_m X G c (m 3 _ rfl), num_m X G c (m 4 _ rfl), ini_m X G c (m 5 _ rfl), df_m X G c (m 6 _ rfl), df_m X G c (m 7 _ rfl), df_m X G c (m 8 _ rfl), df_m X G c (m 9 _ rfl), df_m X G c (m 10 _ rfl), df_m X G c (m 11 _ rfl), df_m X G c (m 12 _ rfl), df_m X G c (m 13 _ rfl), df_m X G c (m 14 _ rfl), df_m X G c (m 15 _ rfl), df_m X G c (m 16 _ rfl), df_m X G c (m 17 _ rfl), df_m X G c (m 18 _ rfl), df_m X G c (m 19 _ rfl), df_m X G c (m 20 _ rfl), df_m X G c (m 21 _ rfl), any_m X G c (m 22 _ rfl), fun x => ?_⟩, x4⟩
  cases x with
  | set _ _ => exact ⟨_, hs 0 _ rfl, gl_m X G c (m 12 _ rfl)⟩
  | say _ => exact ⟨_, hs 1 _ rfl, gl_m X G c (m 13 _ rfl)⟩
  | iff _ _ _ => exact ⟨_, hs 2 _ rfl, gl_m X G c (m 14 _ rfl)⟩
  | loop _ _ => exact ⟨_, hs 3 _ rfl, gl_m X G c (m 15 _ rfl)⟩
  | leave => exact ⟨_, hs 4 _ rfl, gl_m X G c (m 16 _ rfl)⟩
  | next => exact ⟨_, hs 5 _ rfl, gl_m X G c (m 17 _ rfl)⟩
  | give _ => exact ⟨_, hs 6 _ rfl, gl_m X G c (m 18 _ rfl)⟩
  | raise _ => exact ⟨_, hs 7 _ rfl, gl_m X G c (m 19 _ rfl)⟩
  | «catch» _ _ _ _ => exact ⟨_, hs 8 _ rfl, gl_m X G c (m 20 _ rfl)⟩
  | endd _ _ => exact ⟨_, hs 9 _ rfl, gl_m X G c (m 21 _ rfl)⟩
end
end TT

namespace CX6
open PySem PySem.Spec PyProof.Rows L2 U MM TR M
local macro_rules | `(tactic| walk_at "own1") => `(tactic| first
  | (with_reducible refine U.w_fmt ?_)
  | ((with_reducible refine U.w_fmtI ?wfa ?_); (case wfa => decide +kernel))
  | ((with_reducible refine U.w_fmtS ?wfa ?_); (case wfa => decide +kernel))
  | (with_reducible refine U.w_js ?_)
  | ((with_reducible refine U.w_jsE ?wfa ?_); (case wfa => decide +kernel))
  | (with_reducible refine U.w_js0 ?_)
  | walk_at "own2")
section
variable {P : Program} {w : World} {K : PySem.W.Frag} {mg : Str → Option Value} {base : Heap} {cl : Kl → Addr}
/-- what comes of a look: on it goes, or out goes the class -/
def OutX (W : List Addr) (R0 B0 R : Hp) (L : List (Addr × HO)) (cl : Kl → Addr) (r : Option Kl) (Q : VK) (E : XK) : Prop := match r with
  | none => ∀ R' H', Sta W R0 B0 R' H' L → Same R R' → Q .non H'
  | some k => ∀ R' H', Sta W R0 B0 R' H' L → Same R R' → E (.ref (cl k)) none H'
def spXB (cl : Kl → Addr) : Sp := fun vs H Q E => ∃ k : Int, vs = [.int k] ∧ (match chBox k with | none => Q .non H | some c => E (.ref (cl c)) none H)
def spXF (cl : Kl → Addr) : Sp := fun vs H Q E => ∃ (f : Int) (n : Nat), vs = [.int f, .int (n : Nat)] ∧ (match chFn n f with | none => Q .non H | some c => E (.ref (cl c)) none H)
theorem ca_xb (RC : Rfc K mg cl) (D : Df K mg "_check_box" (top 19)) (g_BOXES : ∃ t, mg "BOXES" = some (.int 4 t)) : Ca P w K mg base (L2.CX P w) 1 "_check_box" (spXB cl) := by
  have sc : FnScope ["box"] ["box"] (defScope (top 19)) := ⟨rfl, rfl, rfl, by decide +kernel, rfl, by decide +kernel, by decide +kernel⟩
  have nd := sc.nd
  refine D.caX sc (fun _ _ _ _ _ _ us hl => match us, hl with | [_], _ => rfl) (fun vs H Q E h => by obtain ⟨_, rfl, _⟩ := h; rfl) (fun f cdv A outer s H vs Q E hr h => ?_)
  obtain ⟨k, rfl, q⟩ := h
  refine ⟨_, (pss_one (ps_if (pt_not (pt_chain op_le op_lt pe_int (pv 0) (pe_gi rfl g_BOXES))) (pss_one (ps_ref rfl (RC .box) (takes_of rfl rfl rfl rfl) (pe_joined (.cons pe_str (.cons (pe_fmt (pe_op op_sub (pe_gi rfl g_BOXES) pe_int)) .nil))) rfl)) pss_nil)), ?_⟩
  refine U.w_start (σ' := [some _]) rfl ?_
  walk_at "st"
  unfold chBox at q
  walk_at "go"
  by_cases h1 : 0 ≤ k
  · refine it_pos h1 ?_
    walk_at "go"
    by_cases h2 : k < 4
    · rw [if_pos ⟨h1, h2⟩] at q
      refine itn_pos h2 ?_
      walk_at "go"
      exact q
    · rw [if_neg (fun z => h2 z.2)] at q
      refine itn_neg h2 ?_
      walk_at "go"
      exact q
  · rw [if_neg (fun z => h1 z.1)] at q
    refine it_neg h1 ?_
    walk_at "go"
    exact q
theorem ca_xf (RC : Rfc K mg cl) (D : Df K mg "_check_function" (top 20)) : Ca P w K mg base (L2.CX P w) 1 "_check_function" (spXF cl) := by
  have sc : FnScope ["function", "functions"] ["function", "functions"] (defScope (top 20)) := ⟨rfl, rfl, rfl, by decide +kernel, rfl, by decide +kernel, by decide +kernel⟩
  have nd := sc.nd
  refine D.caX sc (fun _ _ _ _ _ _ us hl => match us, hl with | [_, _], _ => rfl) (fun vs H Q E h => by obtain ⟨_, _, rfl, _⟩ := h; rfl) (fun f cdv A outer s H vs Q E hr h => ?_)
  obtain ⟨f, n, rfl, q⟩ := h
  refine ⟨_, (pss_one (ps_if (pt_not (pt_chain op_le op_lt pe_int (pv 0) (pv 1))) (pss_one (ps_ref rfl (RC .fn) (takes_of rfl rfl rfl rfl) pe_str rfl)) pss_nil)), ?_⟩
  refine U.w_start (σ' := [some _, some _]) rfl ?_
  walk_at "st"
  unfold chFn at q
  walk_at "go"
  by_cases h1 : 0 ≤ f
  · refine it_pos h1 ?_
    walk_at "go"
    by_cases h2 : f < (n : Int)
    · rw [if_pos ⟨h1, h2⟩] at q
      refine itn_pos h2 ?_
      walk_at "go"
      exact q
    · rw [if_neg (fun z => h2 z.2)] at q
      refine itn_neg h2 ?_
      walk_at "go"
      exact q
  · rw [if_neg (fun z => h1 z.1)] at q
    refine it_neg h1 ?_
    walk_at "go"
    exact q
end
end CX6

namespace CX6
open PySem PySem.Spec PyProof.Rows L2 U MM TR M RZ
open CK (exWord exKinds smKinds smLoop smWay inV_way eq_loop w_slT w_eqS TabE TabS)
local macro_rules | `(tactic| walk_at "own1") => `(tactic| first
  | (with_reducible refine U.w_fmt ?_)
  | ((with_reducible refine U.w_fmtI ?wfa ?_); (case wfa => decide +kernel))
  | ((with_reducible refine U.w_fmtS ?wfa ?_); (case wfa => decide +kernel))
  | (with_reducible refine U.w_js ?_)
  | ((with_reducible refine U.w_jsE ?wfa ?_); (case wfa => decide +kernel))
  | (with_reducible refine U.w_js0 ?_)
  | walk_at "own2")
inductive Pt where
  | num | box (k : Int) | fn (f : Int) | ex (e : Ex) | blk (l : List Sm)
def Pt.kind : Pt → Str
  | .num => "number"
  | .box _ => "box"
  | .fn _ => "function"
  | .ex _ => "expression"
  | .blk _ => "block"
def chPt (n d db : Nat) (lp : Bool) : Pt → Option Kl
  | .num => none
  | .box k => chBox k
  | .fn f => chFn n f
  | .ex e => chE n e d
  | .blk l => chB n l db lp
theorem fst1_nn (a : Option Kl) : fst1 none a = a := rfl
def chPts (n d db : Nat) (lp : Bool) : List Pt → Option Kl
  | [] => none
  | p :: r => fst1 (chPt n d db lp p) (chPts n d db lp r)
def exPts : Ex → List Pt
  | .num _ => [.num]
  | .box k => [.box k]
  | .op _ a b => [.ex a, .ex b]
  | .call f e => [.fn f, .ex e]
def smPts : Sm → List Pt
  | .set k e => [.box k, .ex e]
  | .say e => [.ex e]
  | .give e => [.ex e]
  | .raise e => [.ex e]
  | .leave => []
  | .next => []
  | .iff e a b => [.ex e, .blk a, .blk b]
  | .loop e b => [.ex e, .blk b]
  | .catch b _ k h => [.blk b, .num, .box k, .blk h]
  | .endd b l => [.blk b, .blk l]
theorem fn1 (a : Option Kl) : fst1 a none = a := by cases a <;> rfl
theorem chE_pts (n d : Nat) (e : Ex) : chE n e d = if 6 < d then some .deep else chPts n (d + 1) 0 false (exPts e) := by
  cases e with
  | num _ => rw [chE]; rfl
  | box k => rw [chE]; simp only [exPts, chPts, chPt, fn1]
  | op o a b => rw [chE]; simp only [exPts, chPts, chPt, fn1]
  | call f e => rw [chE]; simp only [exPts, chPts, chPt, fn1]
theorem way0 {x : Sm} {lp : Bool} {A B : Option Kl} (h : smWay x = false) : (if smWay x = true ∧ lp = false then A else B) = B := if_neg (fun z => by rw [h] at z; cases z.1)
theorem chS_pts (n d : Nat) (lp : Bool) (x : Sm) : chS n x d lp = if smWay x = true ∧ lp = false then some .loop else chPts n 1 (d + 1) (lp || smLoop x) (smPts x) := by
  cases x with
  | leave => rw [chS]; cases lp <;> rfl
  | next => rw [chS]; cases lp <;> rfl
  | set _ _ => rw [way0 rfl, chS]; simp only [smPts, chPts, chPt, fn1]
  | say _ => rw [way0 rfl, chS]; simp only [smPts, chPts, chPt, fn1]
  | give _ => rw [way0 rfl, chS]; simp only [smPts, chPts, chPt, fn1]
  | raise _ => rw [way0 rfl, chS]; simp only [smPts, chPts, chPt, fn1]
  | iff _ _ _ => rw [way0 rfl, chS]; simp only [smPts, chPts, chPt, fn1, chB, smLoop, Bool.or_false]
  | loop _ _ => rw [way0 rfl, chS]; simp only [smPts, chPts, chPt, fn1, chB, smLoop, Bool.or_true]
  | «catch» _ _ _ _ => rw [way0 rfl, chS]; simp only [smPts, chPts, chPt, fn1, fst1_nn, chB, smLoop, Bool.or_false]
  | endd _ _ => rw [way0 rfl, chS]; simp only [smPts, chPts, chPt, fn1, chB, smLoop, Bool.or_false]
section
variable {K : PySem.W.Frag} {R : Hp}
def PtV (K : PySem.W.Frag) (R : Hp) (p : Pt) (v : V) : Prop := match p with
  | .num => True
  | .box k => v = .int k
  | .fn f => v = .int f
  | .ex e => Dp K R v e.enc
  | .blk l => Dp K R v (.list (encL l))
inductive All2 (K : PySem.W.Frag) (R : Hp) : List Pt → List V → Prop where
  | nil : All2 K R [] []
  | cons {p v ps vs} : PtV K R p v → All2 K R ps vs → All2 K R (p :: ps) (v :: vs)
theorem All2.len : ∀ {ps : List Pt} {vs : List V}, All2 K R ps vs → vs.length = ps.length
  | _, _, .nil => rfl
  | _, _, .cons _ h => congrArg (· + 1) h.len
theorem All2.get : ∀ {ps : List Pt} {vs : List V} {i : Nat} {v : V}, All2 K R ps vs → vs[i]? = some v → ∃ p, ps[i]? = some p ∧ PtV K R p v
  | _, _, 0, v, .cons h _, e => by cases e; exact ⟨_, rfl, h⟩
  | _, _, i + 1, v, .cons _ h, e => h.get e
theorem ex_pts {v : V} {e : Ex} (h : Dp K R v e.enc) : ∃ p vs, v = .ref p ∧ SqT K R p (.str (exWord e) :: vs) ∧ All2 K R (exPts e) vs ∧ exKinds e = (exPts e).map Pt.kind := by
  cases e with
  | num z =>
    obtain ⟨p, v1, v2, rfl, hT, h1, h2⟩ := dp_tup2 h
    cases dp_str h1
    exact ⟨p, _, rfl, hT, .cons trivial .nil, rfl⟩
  | box z =>
    obtain ⟨p, v1, v2, rfl, hT, h1, h2⟩ := dp_tup2 h
    cases dp_str h1
    cases dp_int h2
    exact ⟨p, _, rfl, hT, .cons rfl .nil, rfl⟩
  | op o a b =>
    obtain ⟨p, v1, v2, v3, rfl, hT, h1, h2, h3⟩ := dp_tup3 h
    cases dp_str h1
    exact ⟨p, _, rfl, hT, .cons h2 (.cons h3 .nil), rfl⟩
  | call f a =>
    obtain ⟨p, v1, v2, v3, rfl, hT, h1, h2, h3⟩ := dp_tup3 h
    cases dp_str h1
    cases dp_int h2
    exact ⟨p, _, rfl, hT, .cons rfl (.cons h3 .nil), rfl⟩
theorem sm_pts {v : V} {x : Sm} (h : Dp K R v x.enc) : ∃ p vs, v = .ref p ∧ SqT K R p (.str (Sm.word x) :: vs) ∧ All2 K R (smPts x) vs ∧ smKinds x = (smPts x).map Pt.kind := by
  cases x with
  | set k e =>
    rw [Sm.enc] at h
    obtain ⟨p, v1, v2, v3, rfl, hT, h1, h2, h3⟩ := dp_tup3 h
    cases dp_str h1
    cases dp_int h2
    exact ⟨p, _, rfl, hT, .cons rfl (.cons h3 .nil), rfl⟩
  | say e =>
    rw [Sm.enc] at h
    obtain ⟨p, v1, v2, rfl, hT, h1, h2⟩ := dp_tup2 h
    cases dp_str h1
    exact ⟨p, _, rfl, hT, .cons h2 .nil, rfl⟩
  | give e =>
    rw [Sm.enc] at h
    obtain ⟨p, v1, v2, rfl, hT, h1, h2⟩ := dp_tup2 h
    cases dp_str h1
    exact ⟨p, _, rfl, hT, .cons h2 .nil, rfl⟩
  | raise e =>
    rw [Sm.enc] at h
    obtain ⟨p, v1, v2, rfl, hT, h1, h2⟩ := dp_tup2 h
    cases dp_str h1
    exact ⟨p, _, rfl, hT, .cons h2 .nil, rfl⟩
  | iff e a b =>
    rw [Sm.enc] at h
    obtain ⟨p, v1, v2, v3, v4, rfl, hT, h1, h2, h3, h4⟩ := dp_tup4 h
    cases dp_str h1
    exact ⟨p, _, rfl, hT, .cons h2 (.cons h3 (.cons h4 .nil)), rfl⟩
  | loop e b =>
    rw [Sm.enc] at h
    obtain ⟨p, v1, v2, v3, rfl, hT, h1, h2, h3⟩ := dp_tup3 h
    cases dp_str h1
    exact ⟨p, _, rfl, hT, .cons h2 (.cons h3 .nil), rfl⟩
  | leave =>
    rw [Sm.enc] at h
    obtain ⟨p, v1, rfl, hT, h1⟩ := dp_tup1 h
    cases dp_str h1
    exact ⟨p, _, rfl, hT, .nil, rfl⟩
  | next =>
    rw [Sm.enc] at h
    obtain ⟨p, v1, rfl, hT, h1⟩ := dp_tup1 h
    cases dp_str h1
    exact ⟨p, _, rfl, hT, .nil, rfl⟩
  | «catch» b z k l =>
    rw [Sm.enc] at h
    obtain ⟨p, v1, v2, v3, v4, v5, rfl, hT, h1, h2, h3, h4, h5⟩ := dp_tup5 h
    cases dp_str h1
    cases dp_int h4
    exact ⟨p, _, rfl, hT, .cons h2 (.cons trivial (.cons rfl (.cons h5 .nil))), rfl⟩
  | endd b l =>
    rw [Sm.enc] at h
    obtain ⟨p, v1, v2, v3, rfl, hT, h1, h2, h3⟩ := dp_tup3 h
    cases dp_str h1
    exact ⟨p, _, rfl, hT, .cons h2 (.cons h3 .nil), rfl⟩
theorem PtV.up {R1 : Hp} {p : Pt} {v : V} (s : Same R R1) (h : PtV K R p v) : PtV K R1 p v := by
  cases p with
  | num => exact h
  | box k => exact h
  | fn f => exact h
  | ex e => exact Dp.up s h
  | blk l => exact Dp.up s h
theorem pts_drop {n d db : Nat} {lp : Bool} : ∀ {ps : List Pt} {i : Nat} {p : Pt}, ps[i]? = some p → chPts n d db lp (ps.drop i) = fst1 (chPt n d db lp p) (chPts n d db lp (ps.drop (i + 1)))
  | q :: r, 0, p, e => by cases e; rfl
  | q :: r, i + 1, p, e => pts_drop (ps := r) (i := i) e
end
section
variable {P : Program} {w : World} {K : PySem.W.Frag} {mg : Str → Option Value} {base : Heap} {cl : Kl → Addr}
def spXE (K : PySem.W.Frag) (cl : Kl → Addr) (m : Nat) : Sp := fun vs H Q E => ∃ (W : List Addr) (R0 B0 R : Hp) (L : List (Addr × HO)) (e : Ex) (v : V) (d n : Nat), vs = [v, .int (d : Nat), .int (n : Nat)] ∧ d ≤ 7 ∧ 8 ≤ d + m ∧ Sta W R0 B0 R H L ∧ Dp K R v e.enc ∧ OutX W R0 B0 R L cl (chE n e d) Q E
theorem ca_xe_no (D : Df K mg "_check_expression" (top 18)) : Ca P w K mg base (L2.CX P w) 2 "_check_expression" (spXE K cl 0) := by
  have sc : FnScope ["expression", "depth", "functions", "kind", "part"] ["expression", "depth", "functions"] (defScope (top 18)) := ⟨rfl, rfl, rfl, by decide +kernel, rfl, by decide +kernel, by decide +kernel⟩
  exact D.caX (k := 1) sc (fun _ _ _ _ _ _ us hl => match us, hl with | [_, _, _], _ => rfl) (fun _ _ _ _ h => by obtain ⟨_, _, _, _, _, _, _, _, _, _, h, h2, _⟩ := h; omega) (fun _ _ _ _ _ _ _ _ _ _ h => by obtain ⟨_, _, _, _, _, _, _, _, _, _, h, h2, _⟩ := h; omega)
theorem ca_xe1 (B : Bi mg) (RC : Rfc K mg cl) (D : Df K mg "_check_expression" (top 18)) {aE : Addr} (g_EXPRESSIONS : mg "EXPRESSIONS" = some (.ref aE)) (g_MOST_PARTS : ∃ t, mg "MOST_PARTS" = some (.int 6 t)) (tab : TabE w K aE)
    (c__check_box : Ca P w K mg base (L2.CX P w) 1 "_check_box" (spXB cl)) (c__check_function : Ca P w K mg base (L2.CX P w) 1 "_check_function" (spXF cl)) (m : Nat) (c__check_expression : Ca P w K mg base (L2.CX P w) (m + 2) "_check_expression" (spXE K cl m)) :
    Ca P w K mg base (L2.CX P w) (m + 3) "_check_expression" (spXE K cl (m + 1)) := by
  have sc : FnScope ["expression", "depth", "functions", "kind", "part"] ["expression", "depth", "functions"] (defScope (top 18)) := ⟨rfl, rfl, rfl, by decide +kernel, rfl, by decide +kernel, by decide +kernel⟩
  have nd := sc.nd
  refine D.caX sc (fun _ _ _ _ _ _ us hl => match us, hl with | [_, _, _], _ => rfl) (fun vs H Q E h => by obtain ⟨_, _, _, _, _, _, _, _, _, rfl, _⟩ := h; rfl) (fun f cdv A outer s H vs Q E hr h => ?_)
  obtain ⟨W, R0, B0, R, L, e, v, d, n, rfl, hd, hm, S, hv, q⟩ := h
  refine ⟨_, (pss_cons (ps_if (pt_cmpR op_gt (pv 1) (pe_gi rfl g_MOST_PARTS) (nomark _)) (pss_one (ps_ref rfl (RC .deep) (takes_of rfl rfl rfl rfl) (pe_joined (.cons pe_str (.cons (pe_fmt (pe_gi rfl g_MOST_PARTS)) (.cons pe_str .nil)))) rfl)) pss_nil)
    (pss_one (ps_for (passes_of rfl) rfl (pi_zipA (by rfl) B.zip (pa_cons (pe_ix ix_kdict (pe_gr rfl g_EXPRESSIONS) (pe_ix ix_lt (pv 0) pe_int (fun _ _ => rfl)) (fun _ _ => rfl)) (pa_cons (pe_slice sl_tup (pv 0) (po_some pe_int) po_none) pa_nil))) (pg_tup rfl (pgs_cons (pg_name (i := 3) nd rfl (by first | exact Or.inl rfl | exact Or.inr rfl)) (pgs_cons (pg_name (i := 4) nd rfl (by first | exact Or.inl rfl | exact Or.inr rfl)) pgs_nil))) (pss_one (ps_if (pt_cmpR op_eq (pv 3) pe_str (nomark _)) (pss_one (ps_expr (pe_ca c__check_box hr (by omega) rfl (passes_call (takes_of rfl rfl rfl rfl) (fun _ _ _ _ h => h)) (pa_cons (pv 4) pa_nil)))) (pss_one (ps_if (pt_cmpR op_eq (pv 3) pe_str (nomark _)) (pss_one (ps_expr (pe_ca c__check_function hr (by omega) rfl (passes_call (takes_of rfl rfl rfl rfl) (fun _ _ _ _ h => h)) (pa_cons (pv 4) (pa_cons (pv 2) pa_nil))))) (pss_one (ps_if (pt_cmpR op_eq (pv 3) pe_str (nomark _)) (pss_one (ps_expr (pe_ca c__check_expression hr (by omega) rfl (passes_call (takes_of rfl rfl rfl rfl) (fun _ _ _ _ h => h)) (pa_cons (pv 4) (pa_cons (pe_op op_add (pv 1) pe_int) (pa_cons (pv 2) pa_nil)))))) pss_nil))))))))), ?_⟩
  refine U.w_start (σ' := [some _, some _, some _, none, none]) rfl ?_
  walk_at "st"
  rw [chE_pts] at q
  walk_at "go"
  walk_at "if"
  by_cases h6 : 6 < d
  · rw [if_pos h6] at q
    refine it_pos (by omega) ?_
    walk_at "go"
    exact q _ _ S (Same.refl _)
  rw [if_neg h6] at q
  refine it_neg (by omega) ?_
  obtain ⟨p, vs, rfl, hT, hA, hK⟩ := ex_pts hv
  walk_at "go"
  obtain ⟨b, hk, hb⟩ := tab e
  refine w_iZ ?_
  walk_at "go"
  refine w_ixD hk ?_
  walk_at "go"
  refine w_slT (Same.seqT S.sub' hT) fun zp nzp => ?_
  walk_at "go"
  have S1 := S.newR nzp (.tup vs)
  have hz1 : SqT K (upd R zp (.tup vs)) zp vs := SqT.of upd_same
  have s1 : Same R (upd R zp (.tup vs)) := same_new (S.nR nzp) _
  generalize upd R zp (.tup vs) = R1 at *
  refine for_Z (fun i σ' H' => ∃ R' v3 v4, σ' = [some (.ref p), some (.int (d : Nat)), some (.int (n : Nat)), v3, v4] ∧ Sta W R0 B0 R' H' L ∧ Same R1 R' ∧ chPts n (d + 1) 0 false (exPts e) = chPts n (d + 1) 0 false ((exPts e).drop i)) (hb _) (Same.seqT S1.sub' hz1) (by rw [List.length_map, hK, List.length_map, hA.len]) ⟨R1, none, none, rfl, S1, Same.refl _, by rw [List.drop_zero]⟩ (fun i σ' H' hp => ?_) (fun i x y T σ' H' hx hy hp nT => ?_) (fun σ' H' hp => ?_)
  · obtain ⟨R', v3, v4, rfl, S2, s2, _⟩ := hp
    exact ⟨hb _, Same.seqT (s2.trans S2.sub') hz1⟩
  · obtain ⟨R', v3, v4, rfl, S2, s2, hc⟩ := hp
    obtain ⟨pt, hpt, hpv⟩ := hA.get hy
    have hxk : x = .str pt.kind := by
      rw [hK, List.getElem?_map, List.getElem?_map, hpt] at hx
      exact (Option.some.inj hx).symm
    subst hxk
    have S3 := S2.newX nT (.tup [.str pt.kind, y])
    rw [pts_drop hpt] at hc
    rw [hc] at q
    have hpv' := hpv.up (s1.trans s2)
    clear hb hK hx
    cases pt with
    | num =>
      simp only [Pt.kind] at *
      walk_at "go"
      exact ⟨R', _, _, rfl, S3, s2, hc⟩
    | box k =>
      cases hpv
      simp only [Pt.kind, chPt] at *
      walk_at "go"
      refine ⟨k, rfl, ?_⟩
      cases hb : chBox k with
      | none =>
        rw [hb] at hc
        walk_at "go"
        exact ⟨R', _, _, rfl, S3, s2, hc⟩
      | some c =>
        rw [hb] at q
        exact q _ _ S3 (s1.trans s2)
    | fn f =>
      cases hpv
      simp only [Pt.kind, chPt] at *
      walk_at "go"
      refine ⟨f, n, rfl, ?_⟩
      cases hb : chFn n f with
      | none =>
        rw [hb] at hc
        walk_at "go"
        exact ⟨R', _, _, rfl, S3, s2, hc⟩
      | some c =>
        rw [hb] at q
        exact q _ _ S3 (s1.trans s2)
    | ex e' =>
      simp only [Pt.kind, chPt] at *
      walk_at "go"
      refine ⟨W, R0, B0, R', L, e', y, d + 1, n, by first | rfl | simp, by omega, by omega, S3, hpv', ?_⟩
      cases hb : chE n e' (d + 1) with
      | none =>
        rw [hb] at hc
        intro R4 H4 S4 s4
        walk_at "go"
        exact ⟨R4, _, _, rfl, S4, s2.trans s4, hc⟩
      | some c =>
        rw [hb] at q
        exact fun R4 H4 S4 s4 => q _ _ S4 ((s1.trans s2).trans s4)
    | blk l =>
      exfalso
      cases e <;> simp [exPts] at hpt <;> (try (rcases i with _ | _ | i <;> simp at hpt))
  · obtain ⟨R', v3, v4, rfl, S2, s2, hc⟩ := hp
    have hl : ((exKinds e).map V.str).length = (exPts e).length := by rw [hK, List.length_map, List.length_map]
    rw [hl, List.drop_of_length_le (Nat.le_refl _)] at hc
    rw [hc] at q
    exact q _ _ S2 (s1.trans s2)
end
end CX6

namespace CX6
open PySem PySem.Spec PyProof.Rows L2 U MM TR M RZ
open CK (exWord exKinds smKinds smLoop smWay inV_way eq_loop w_slT w_eqS TabE TabS lp_if)
local macro_rules | `(tactic| walk_at "own1") => `(tactic| first
  | (with_reducible refine U.w_fmt ?_)
  | ((with_reducible refine U.w_fmtI ?wfa ?_); (case wfa => decide +kernel))
  | ((with_reducible refine U.w_fmtS ?wfa ?_); (case wfa => decide +kernel))
  | (with_reducible refine U.w_js ?_)
  | ((with_reducible refine U.w_jsE ?wfa ?_); (case wfa => decide +kernel))
  | (with_reducible refine U.w_js0 ?_)
  | walk_at "own2")
section
variable {P : Program} {w : World} {K : PySem.W.Frag} {mg : Str → Option Value} {base : Heap} {cl : Kl → Addr}
theorem ca_xe (B : Bi mg) (RC : Rfc K mg cl) (D : Df K mg "_check_expression" (top 18)) {aE : Addr} (gE : mg "EXPRESSIONS" = some (.ref aE)) (gM : ∃ t, mg "MOST_PARTS" = some (.int 6 t)) (tab : TabE w K aE)
    (cb : Ca P w K mg base (L2.CX P w) 1 "_check_box" (spXB cl)) (cf : Ca P w K mg base (L2.CX P w) 1 "_check_function" (spXF cl)) : ∀ m : Nat, Ca P w K mg base (L2.CX P w) (m + 2) "_check_expression" (spXE K cl m)
  | 0 => ca_xe_no D
  | m + 1 => ca_xe1 B RC D gE gM tab cb cf m (ca_xe B RC D gE gM tab cb cf m)
def spXS (K : PySem.W.Frag) (cl : Kl → Addr) (m : Nat) : Sp := fun vs H Q E => ∃ (W : List Addr) (R0 B0 R : Hp) (L : List (Addr × HO)) (x : Sm) (v : V) (d n : Nat) (lp : Bool), vs = [v, .int (d : Nat), .bl lp, .int (n : Nat)] ∧ d ≤ 8 ∧ 9 ≤ d + m ∧ Sta W R0 B0 R H L ∧ Dp K R v x.enc ∧ OutX W R0 B0 R L cl (chS n x d lp) Q E
def spXK (K : PySem.W.Frag) (cl : Kl → Addr) (m : Nat) : Sp := fun vs H Q E => ∃ (W : List Addr) (R0 B0 R : Hp) (L : List (Addr × HO)) (l : List Sm) (v : V) (d n : Nat) (lp : Bool), vs = [v, .int (d : Nat), .bl lp, .int (n : Nat)] ∧ d ≤ 9 ∧ 10 ≤ d + m ∧ Sta W R0 B0 R H L ∧ Dp K R v (.list (encL l)) ∧ OutX W R0 B0 R L cl (chB n l d lp) Q E
theorem ca_xk_no (D : Df K mg "_check_block" (top 16)) : Ca P w K mg base (L2.CX P w) 20 "_check_block" (spXK K cl 0) := by
  have sc : FnScope ["block", "depth", "looped", "functions", "statement"] ["block", "depth", "looped", "functions"] (defScope (top 16)) := ⟨rfl, rfl, rfl, by decide +kernel, rfl, by decide +kernel, by decide +kernel⟩
  exact D.caX (k := 19) sc (fun _ _ _ _ _ _ us hl => match us, hl with | [_, _, _, _], _ => rfl) (fun _ _ _ _ h => by obtain ⟨_, _, _, _, _, _, _, _, _, _, _, h, h2, _⟩ := h; omega) (fun _ _ _ _ _ _ _ _ _ _ h => by obtain ⟨_, _, _, _, _, _, _, _, _, _, _, h, h2, _⟩ := h; omega)
theorem chL_drop {n d : Nat} {lp : Bool} : ∀ {l : List Sm} {i : Nat} {x : Sm}, l[i]? = some x → chL n (l.drop i) d lp = fst1 (chS n x d lp) (chL n (l.drop (i + 1)) d lp)
  | y :: r, 0, x, e => by cases e; rw [List.drop_zero, chL]; rfl
  | y :: r, i + 1, x, e => chL_drop (l := r) (i := i) e
theorem ca_xk1 (RC : Rfc K mg cl) (D : Df K mg "_check_block" (top 16)) (g_MOST_BLOCKS : ∃ t, mg "MOST_BLOCKS" = some (.int 8 t)) (m : Nat) (c__check_statement : Ca P w K mg base (L2.CX P w) (2 * m + 21) "_check_statement" (spXS K cl m)) : Ca P w K mg base (L2.CX P w) (2 * m + 22) "_check_block" (spXK K cl (m + 1)) := by
  have sc : FnScope ["block", "depth", "looped", "functions", "statement"] ["block", "depth", "looped", "functions"] (defScope (top 16)) := ⟨rfl, rfl, rfl, by decide +kernel, rfl, by decide +kernel, by decide +kernel⟩
  have nd := sc.nd
  refine D.caX sc (fun _ _ _ _ _ _ us hl => match us, hl with | [_, _, _, _], _ => rfl) (fun vs H Q E h => by obtain ⟨_, _, _, _, _, _, _, _, _, _, rfl, _⟩ := h; rfl) (fun f cdv A outer s H vs Q E hr h => ?_)
  obtain ⟨W, R0, B0, R, L, l, v, d, n, lp, rfl, hd, hm, S, hv, q⟩ := h
  refine ⟨_, (pss_cons (ps_if (pt_cmpR op_gt (pv 1) (pe_gi rfl g_MOST_BLOCKS) (nomark _)) (pss_one (ps_ref rfl (RC .deep) (takes_of rfl rfl rfl rfl) (pe_joined (.cons pe_str (.cons (pe_fmt (pe_gi rfl g_MOST_BLOCKS)) (.cons pe_str .nil)))) rfl)) pss_nil)
    (pss_one (ps_for (passes_of rfl) rfl (pi_list (pv 0)) (pg_name (i := 4) nd rfl (by first | exact Or.inl rfl | exact Or.inr rfl)) (pss_one (ps_expr (pe_ca c__check_statement hr (by omega) rfl (passes_call (takes_of rfl rfl rfl rfl) (fun _ _ _ _ h => h)) (pa_cons (pv 4) (pa_cons (pv 1) (pa_cons (pv 2) (pa_cons (pv 3) pa_nil)))))))))), ?_⟩
  refine U.w_start (σ' := [some _, some _, some _, some _, none]) rfl ?_
  walk_at "st"
  unfold chB at q
  walk_at "go"
  walk_at "if"
  by_cases h8 : 8 < d
  · rw [if_pos h8] at q
    refine it_pos (by omega) ?_
    walk_at "go"
    exact q _ _ S (Same.refl _)
  rw [if_neg h8] at q
  refine it_neg (by omega) ?_
  obtain ⟨p, vs, rfl, hT, hD⟩ := dp_lst hv
  have hlen : vs.length = l.length := by rw [hD.len, encL_len]
  walk_at "go"
  refine for_L (fun i σ' H' => ∃ R' v3, σ' = [some (.ref p), some (.int (d : Nat)), some (.bl lp), some (.int (n : Nat)), v3] ∧ Sta W R0 B0 R' H' L ∧ Same R R' ∧ chL n l d lp = chL n (l.drop i) d lp) (Same.seqL S.sub' hT) ⟨R, none, rfl, S, Same.refl _, by rw [List.drop_zero]⟩ (fun i σ' H' _ hp => ?_) (fun i y σ' H' hy hp => ?_) (fun σ' H' hp => ?_)
  · obtain ⟨R', v3, rfl, S1, s1, _⟩ := hp
    exact Same.seqL (s1.trans S1.sub') hT
  · obtain ⟨R', v3, rfl, S1, s1, hc⟩ := hp
    obtain ⟨dd, hdd, hdx⟩ := hD.get hy
    rw [encL_map, List.getElem?_map] at hdd
    obtain ⟨x, hx, rfl⟩ := Option.map_eq_some_iff.mp hdd
    rw [chL_drop hx] at hc
    rw [hc] at q
    walk_at "go"
    refine ⟨W, R0, B0, R', L, x, y, d, n, lp, rfl, by omega, by omega, S1, hdx.up s1, ?_⟩
    cases hb : chS n x d lp with
    | none =>
      rw [hb] at hc
      intro R4 H4 S4 s4
      walk_at "go"
      exact ⟨R4, _, rfl, S4, s1.trans s4, hc⟩
    | some c =>
      rw [hb] at q
      exact fun R4 H4 S4 s4 => q _ _ S4 (s1.trans s4)
  · obtain ⟨R', v3, rfl, S1, s1, hc⟩ := hp
    rw [hlen, List.drop_of_length_le (Nat.le_refl _), chL] at hc
    rw [hc] at q
    exact q _ _ S1 s1
theorem way_cases {c : Bool} {A B : Prop} (h1 : c = true → A) (h2 : c = false → B) : if c = true then A else B := lp_if h1 h2
theorem ca_xs (B : Bi mg) (RC : Rfc K mg cl) (D : Df K mg "_check_statement" (top 17)) {aT : Addr} (g_STATEMENTS : mg "STATEMENTS" = some (.ref aT)) (tab : TabS w K aT) (c__check_box : Ca P w K mg base (L2.CX P w) 1 "_check_box" (spXB cl))
    (c__check_expression : Ca P w K mg base (L2.CX P w) 9 "_check_expression" (spXE K cl 7)) (m : Nat) (c__check_block : Ca P w K mg base (L2.CX P w) (2 * m + 20) "_check_block" (spXK K cl m)) : Ca P w K mg base (L2.CX P w) (2 * m + 21) "_check_statement" (spXS K cl m) := by
  have sc : FnScope ["statement", "depth", "looped", "functions", "word", "kind", "part"] ["statement", "depth", "looped", "functions"] (defScope (top 17)) := ⟨rfl, rfl, rfl, by decide +kernel, rfl, by decide +kernel, by decide +kernel⟩
  have nd := sc.nd
  refine D.caX sc (fun _ _ _ _ _ _ us hl => match us, hl with | [_, _, _, _], _ => rfl) (fun vs H Q E h => by obtain ⟨_, _, _, _, _, _, _, _, _, _, rfl, _⟩ := h; rfl) (fun f cdv A outer s H vs Q E hr h => ?_)
  obtain ⟨W, R0, B0, R, L, x, v, d, n, lp, rfl, hd, hm, S, hv, q⟩ := h
  refine ⟨_, (pss_cons (ps_set (i := 4) nd rfl (by first | exact Or.inl rfl | exact Or.inr rfl) (pe_ix ix_lt (pv 0) pe_int (fun _ _ => rfl)))
    (pss_cons (ps_if (PW.pt (pw_and (pt_cmpR op_in_seq (pv 4) (pe_tup (pa_cons pe_str (pa_cons pe_str pa_nil))) rfl) (pw_and1 (pt_not (pt_val (pv 2)))))) (pss_one (ps_ref rfl (RC .loop) (takes_of rfl rfl rfl rfl) (pe_joined (.cons (pe_fmt (pv 4)) (.cons pe_str .nil))) rfl)) pss_nil)
    (pss_one (ps_for (passes_of rfl) rfl (pi_zipA (by rfl) B.zip (pa_cons (pe_ix ix_kdict (pe_gr rfl g_STATEMENTS) (pv 4) (fun _ _ => rfl)) (pa_cons (pe_slice sl_tup (pv 0) (po_some pe_int) po_none) pa_nil))) (pg_tup rfl (pgs_cons (pg_name (i := 5) nd rfl (by first | exact Or.inl rfl | exact Or.inr rfl)) (pgs_cons (pg_name (i := 6) nd rfl (by first | exact Or.inl rfl | exact Or.inr rfl)) pgs_nil))) (pss_one (ps_if (pt_cmpR op_eq (pv 5) pe_str (nomark _)) (pss_one (ps_expr (pe_ca c__check_box hr (by omega) rfl (passes_call (takes_of rfl rfl rfl rfl) (fun _ _ _ _ h => h)) (pa_cons (pv 6) pa_nil)))) (pss_one (ps_if (pt_cmpR op_eq (pv 5) pe_str (nomark _)) (pss_one (ps_expr (pe_ca c__check_expression hr (by omega) rfl (passes_call (takes_of rfl rfl rfl rfl) (fun _ _ _ _ h => h)) (pa_cons (pv 6) (pa_cons pe_int (pa_cons (pv 3) pa_nil)))))) (pss_one (ps_if (pt_cmpR op_eq (pv 5) pe_str (nomark _)) (pss_one (ps_expr (pe_ca c__check_block hr (by omega) rfl (passes_call (takes_of rfl rfl rfl rfl) (fun _ _ _ _ h => h)) (pa_cons (pv 6) (pa_cons (pe_op op_add (pv 1) pe_int) (pa_cons (pe_or (pv 2) (pe_one (pe_cmpR op_eq (pv 4) pe_str (nomark _)))) (pa_cons (pv 3) pa_nil))))))) pss_nil)))))))))), ?_⟩
  refine U.w_start (σ' := [some _, some _, some _, some _, none, none, none]) rfl ?_
  walk_at "st"
  rw [chS_pts] at q
  obtain ⟨p, vs, rfl, hT, hA, hK⟩ := sm_pts hv
  walk_at "go"
  refine w_ifJ (by walk_at "set") (fun σ' H' => σ' = [some (.ref p), some (.int (d : Nat)), some (.bl lp), some (.int (n : Nat)), some (.str (Sm.word x)), none, none] ∧ Sta W R0 B0 R H' L ∧ ¬ (smWay x = true ∧ lp = false)) (fun nx' hn => ?_) (fun σ' H' hp => ?_)
  · walk_at "go"
    intro zt nzt
    have S1 := S.newX nzt (.tup [.str "leave", .str "next"])
    refine w_inT (b := smWay x) (SqT.of upd_same) rfl rfl (inV_way x) ?_
    walk_at "go"
    refine way_cases (c := smWay x) (fun hw => ?_) fun hw => ?_
    · cases lp with
      | true =>
        walk_at "go"
        exact hn _ _ ⟨rfl, S1, fun z => nomatch z.2⟩
      | false =>
        rw [if_pos ⟨hw, rfl⟩] at q
        walk_at "go"
        cases x <;> first
          | (cases hw; done)
          | (simp only [Sm.word]
             walk_at "go"
             exact q _ _ S1 (Same.refl _))
    · walk_at "go"
      exact hn _ _ ⟨rfl, S1, fun z => by rw [hw] at z; cases z.1⟩
  obtain ⟨rfl, S1, hnw⟩ := hp
  rw [if_neg hnw] at q
  walk_at "go"
  obtain ⟨b, hkd, hb⟩ := tab x
  refine w_iZ ?_
  walk_at "go"
  refine w_ixD hkd ?_
  walk_at "go"
  refine w_slT (Same.seqT S1.sub' hT) fun zp nzp => ?_
  walk_at "go"
  have S2 := S1.newR nzp (.tup vs)
  have hz1 : SqT K (upd R zp (.tup vs)) zp vs := SqT.of upd_same
  have s1 : Same R (upd R zp (.tup vs)) := same_new (S1.nR nzp) _
  generalize upd R zp (.tup vs) = R1 at *
  refine for_Z (fun i σ' H' => ∃ R' v3 v4, σ' = [some (.ref p), some (.int (d : Nat)), some (.bl lp), some (.int (n : Nat)), some (.str (Sm.word x)), v3, v4] ∧ Sta W R0 B0 R' H' L ∧ Same R1 R' ∧ chPts n 1 (d + 1) (lp || smLoop x) (smPts x) = chPts n 1 (d + 1) (lp || smLoop x) ((smPts x).drop i)) (hb _) (Same.seqT S2.sub' hz1) (by rw [List.length_map, hK, List.length_map, hA.len]) ⟨R1, none, none, rfl, S2, Same.refl _, by rw [List.drop_zero]⟩ (fun i σ' H' hp => ?_) (fun i z y T σ' H' hx hy hp nT => ?_) (fun σ' H' hp => ?_)
  · obtain ⟨R', v3, v4, rfl, S3, s2, _⟩ := hp
    exact ⟨hb _, Same.seqT (s2.trans S3.sub') hz1⟩
  · obtain ⟨R', v3, v4, rfl, S3, s2, hc⟩ := hp
    obtain ⟨pt, hpt, hpv⟩ := hA.get hy
    have hxk : z = .str pt.kind := by
      rw [hK, List.getElem?_map, List.getElem?_map, hpt] at hx
      exact (Option.some.inj hx).symm
    subst hxk
    have S4 := S3.newX nT (.tup [.str pt.kind, y])
    rw [pts_drop hpt] at hc
    rw [hc] at q
    have hpv' := hpv.up (s1.trans s2)
    clear hb hK hx
    cases pt with
    | num =>
      simp only [Pt.kind] at *
      walk_at "go"
      exact ⟨R', _, _, rfl, S4, s2, hc⟩
    | box k =>
      cases hpv
      simp only [Pt.kind, chPt] at *
      walk_at "go"
      refine ⟨k, rfl, ?_⟩
      cases hb : chBox k with
      | none =>
        rw [hb] at hc
        walk_at "go"
        exact ⟨R', _, _, rfl, S4, s2, hc⟩
      | some c =>
        rw [hb] at q
        exact q _ _ S4 (s1.trans s2)
    | ex e' =>
      simp only [Pt.kind, chPt] at *
      walk_at "go"
      refine ⟨W, R0, B0, R', L, e', y, 1, n, rfl, by omega, by omega, S4, hpv', ?_⟩
      cases hb : chE n e' 1 with
      | none =>
        rw [hb] at hc
        intro R5 H5 S5 s5
        walk_at "go"
        exact ⟨R5, _, _, rfl, S5, s2.trans s5, hc⟩
      | some c =>
        rw [hb] at q
        exact fun R5 H5 S5 s5 => q _ _ S5 ((s1.trans s2).trans s5)
    | blk l' =>
      have fin : ∀ Q1 : VK, (∀ R5 H5, Sta W R0 B0 R5 H5 L → Same R1 R5 → (chB n l' (d + 1) (lp || smLoop x) = none → Q1 .non H5)) → OutX W R0 B0 R' L cl (chB n l' (d + 1) (lp || smLoop x)) Q1 E := fun Q1 h => by
        cases hb : chB n l' (d + 1) (lp || smLoop x) with
        | none => exact fun R5 H5 S5 s5 => h R5 H5 S5 (s2.trans s5) hb
        | some c =>
          simp only [chPt] at q
          rw [hb] at q
          exact fun R5 H5 S5 s5 => q _ _ S5 ((s1.trans s2).trans s5)
      simp only [Pt.kind] at *
      walk_at "go"
      refine lp_if (c := lp) (fun e => ?_) (fun e => ?_)
      · subst e
        walk_at "go"
        refine ⟨W, R0, B0, R', L, l', y, d + 1, n, true, by first | rfl | simp, by omega, by omega, S4, hpv', fin _ fun R5 H5 S5 s5 hb => ?_⟩
        simp only [chPt] at hc
        rw [hb] at hc
        walk_at "go"
        exact ⟨R5, _, _, rfl, S5, s5, hc⟩
      · subst e
        walk_at "go"
        refine w_eqS (b := smLoop x) (eq_loop x) ?_
        walk_at "go"
        refine ⟨W, R0, B0, R', L, l', y, d + 1, n, smLoop x, by first | rfl | simp, by omega, by omega, S4, hpv', fin _ fun R5 H5 S5 s5 hb => ?_⟩
        simp only [chPt] at hc
        rw [hb] at hc
        walk_at "go"
        exact ⟨R5, _, _, rfl, S5, s5, hc⟩
    | fn f =>
      exfalso
      cases x <;> simp [smPts] at hpt <;> (try (rcases i with _ | _ | _ | _ | i <;> simp at hpt))
  · obtain ⟨R', v3, v4, rfl, S3, s2, hc⟩ := hp
    have hl : ((smKinds x).map V.str).length = (smPts x).length := by rw [hK, List.length_map, List.length_map]
    rw [hl, List.drop_of_length_le (Nat.le_refl _)] at hc
    rw [hc] at q
    exact q _ _ S3 (s1.trans s2)
def spXP (K : PySem.W.Frag) (cl : Kl → Addr) : Sp := fun vs H Q E => ∃ (W : List Addr) (R0 B0 R : Hp) (L : List (Addr × HO)) (pg : Pg) (v : V), vs = [v] ∧ Sta W R0 B0 R H L ∧ Dp K R v (encP pg) ∧ OutX W R0 B0 R L cl (chP pg) Q E
theorem chBs_drop {n : Nat} : ∀ {l : Pg} {i : Nat} {b : List Sm}, l[i]? = some b → chBs n (l.drop i) = fst1 (chB n b 1 false) (chBs n (l.drop (i + 1)))
  | y :: r, 0, x, e => by cases e; rfl
  | y :: r, i + 1, x, e => chBs_drop (l := r) (i := i) e
theorem ca_xp (B : Bi mg) (RC : Rfc K mg cl) (D : Df K mg "checked" (top 15)) (c__check_block : Ca P w K mg base (L2.CX P w) 38 "_check_block" (spXK K cl 9)) : Ca P w K mg base (L2.CX P w) 40 "checked" (spXP K cl) := by
  refine Ca.mono (j := 39) ?_ (by decide)
  have sc : FnScope ["program", "block"] ["program"] (defScope (top 15)) := ⟨rfl, rfl, rfl, by decide +kernel, rfl, by decide +kernel, by decide +kernel⟩
  have nd := sc.nd
  refine D.caX sc (fun _ _ _ _ _ _ us hl => match us, hl with | [_], _ => rfl) (fun vs H Q E h => by obtain ⟨_, _, _, _, _, _, _, rfl, _⟩ := h; rfl) (fun f cdv A outer s H vs Q E hr h => ?_)
  obtain ⟨W, R0, B0, R, L, pg, v, rfl, S, hv, q⟩ := h
  refine ⟨_, (pss_cons (ps_if (pt_not (pt_tru (pv 0))) (pss_one (ps_ref rfl (RC .fn) (takes_of rfl rfl rfl rfl) pe_str rfl)) pss_nil)
    (pss_one (ps_for (passes_of rfl) rfl (pi_list (pv 0)) (pg_name (i := 1) nd rfl (by first | exact Or.inl rfl | exact Or.inr rfl)) (pss_one (ps_expr (pe_ca c__check_block hr (by omega) rfl (passes_call (takes_of rfl rfl rfl rfl) (fun _ _ _ _ h => h)) (pa_cons (pv 1) (pa_cons pe_int (pa_cons pe_bl (pa_cons (pe_callB call_lenA rfl B.len PySem.boot_len (pa_cons (pv 0) pa_nil)) pa_nil)))))))))), ?_⟩
  refine U.w_start (σ' := [some _, none]) rfl ?_
  walk_at "st"
  obtain ⟨p, vs, rfl, hT, hD⟩ := dp_lst hv
  have hlen : vs.length = pg.length := by rw [hD.len, List.length_map]
  walk_at "go"
  walk_at "if"
  cases hpg : pg with
  | nil =>
    subst hpg
    have e0 : vs = [] := List.length_eq_zero_iff.mp hlen
    subst e0
    walk_at "go"
    exact q _ _ S (Same.refl _)
  | cons b0 r0 =>
    have e0 : vs.isEmpty = false := by
      cases vs with
      | nil => rw [hpg] at hlen; cases hlen
      | cons _ _ => rfl
    have ec : chP pg = chBs pg.length pg := by rw [hpg]; rfl
    rw [ec] at q
    clear ec hpg
    rw [e0, show (!!false) = false from rfl]
    walk_at "go"
    refine for_L (fun i σ' H' => ∃ R' v3, σ' = [some (.ref p), v3] ∧ Sta W R0 B0 R' H' L ∧ Same R R' ∧ chBs pg.length pg = chBs pg.length (pg.drop i)) (Same.seqL S.sub' hT) ⟨R, none, rfl, S, Same.refl _, by rw [List.drop_zero]⟩ (fun i σ' H' _ hp => ?_) (fun i y σ' H' hy hp => ?_) (fun σ' H' hp => ?_)
    · obtain ⟨R', v3, rfl, S1, s1, _⟩ := hp
      exact Same.seqL (s1.trans S1.sub') hT
    · obtain ⟨R', v3, rfl, S1, s1, hc⟩ := hp
      obtain ⟨dd, hdd, hdx⟩ := hD.get hy
      rw [List.getElem?_map] at hdd
      obtain ⟨b, hb, rfl⟩ := Option.map_eq_some_iff.mp hdd
      rw [chBs_drop hb] at hc
      rw [hc] at q
      walk_at "go"
      refine w_lenL (Same.seqL (s1.trans S1.sub') hT) ?_
      rw [hlen]
      refine ⟨W, R0, B0, R', L, b, y, 1, pg.length, false, rfl, by omega, by omega, S1, hdx.up s1, ?_⟩
      cases hb : chB pg.length b 1 false with
      | none =>
        rw [hb] at hc
        intro R4 H4 S4 s4
        walk_at "go"
        exact ⟨R4, _, rfl, S4, s1.trans s4, hc⟩
      | some c =>
        rw [hb] at q
        exact fun R4 H4 S4 s4 => q _ _ S4 (s1.trans s4)
    · obtain ⟨R', v3, rfl, S1, s1, hc⟩ := hp
      rw [hlen, List.drop_of_length_le (Nat.le_refl _)] at hc
      rw [hc] at q
      exact q _ _ S1 s1
end
end CX6

namespace CX6
open PySem PySem.Spec PyProof.Rows L2 U MM TR M RZ
section
variable {P : Program} {w : World} {K : PySem.W.Frag} {mg : Str → Option Value} {base : Heap} {cl : Kl → Addr}
def spMadeB (K : PySem.W.Frag) (cl : Kl → Addr) (k : Kl) : Sp := fun vs H _ E => ∃ (W : List Addr) (R0 B0 R : Hp) (L : List (Addr × HO)) (pg : Pg) (v : V), vs = [v] ∧ chP pg = some k ∧ Sta W R0 B0 R H L ∧ Dp K R v (encP pg) ∧ ∀ R' H', Sta W R0 B0 R' H' L → Same R R' → E (.ref (cl k)) none H'
def spToldB (K : PySem.W.Frag) (cl : Kl → Addr) (k : Kl) : Sp := fun vs H _ E => ∃ (W : List Addr) (R0 B0 R : Hp) (L : List (Addr × HO)) (pg : Pg) (v : V) (z t : Int), vs = [v, .int z, .int t] ∧ chP pg = some k ∧ Sta W R0 B0 R H L ∧ Dp K R v (encP pg) ∧ ∀ R' H', Sta W R0 B0 R' H' L → Same R R' → E (.ref (cl k)) none H'
theorem ca_madeB (B : Bi mg) (k : Kl) {cK : Addr} (D : Df K mg "made" (top 25)) (iK : CI K cK CM.fK) (c_Maker : CaI P w K mg base CX0 1 "Maker" cK (CM.spMkI K cK)) (c_checked : Ca P w K mg base (L2.CX P w) 40 "checked" (spXP K cl)) (c__function : Ca P w K mg base CX0 34 "_function" (CM.spFn K cK)) (c__placed : Ca P w K mg base CX0 1 "_placed" (CM.spPlc K)) : Ca P w K mg base (L2.CX P w) 41 "made" (spMadeB K cl k) := by
  have sc : FnScope ["program", "maker", "begins", "block", "places", "rows", "row", "stretches", "first", "behind", "goal"] ["program"] (defScope (top 25)) := ⟨rfl, rfl, rfl, by decide +kernel, rfl, by decide +kernel, by decide +kernel⟩
  have nd := sc.nd
  refine D.caX sc (fun _ _ _ _ _ _ us hl => match us, hl with | [_], _ => rfl) (fun vs H Q E h => by obtain ⟨_, _, _, _, _, _, _, rfl, _⟩ := h; rfl) (fun f cdv A outer s H vs Q E hr h => ?_)
  obtain ⟨W, R0, B0, R, L, pg, v, rfl, hk, S, hv, q⟩ := h
  refine ⟨_, (pss_cons (ps_expr (pe_ca c_checked hr (by omega) rfl (passes_call (takes_of rfl rfl rfl rfl) (fun _ _ _ _ h => h)) (pa_cons (pv 0) pa_nil)))
    (pss_cons (ps_set (i := 1) nd rfl (by first | exact Or.inl rfl | exact Or.inr rfl) (pe_mk0 c_Maker hr (by omega) rfl pass0))
    (pss_cons (ps_set (i := 2) nd rfl (by first | exact Or.inl rfl | exact Or.inr rfl) (pe_lst pa_nil))
    (pss_cons (ps_for (passes_of rfl) rfl (pi_list (pv 0)) (pg_name (i := 3) nd rfl (by first | exact Or.inl rfl | exact Or.inr rfl)) (pss_cons (ps_expr (pe_bm PySem.F.plainAttrs_list PySem.F.slot_list_append PySem.F.type_list_append mt_append (pv 2) (pa_cons (pe_callB call_lenA rfl B.len PySem.boot_len (pa_cons (pe_fld (pv 1) rfl) pa_nil)) pa_nil)))
    (pss_one (ps_expr (pe_ca c__function hr (by omega) rfl pass0 (pa_cons (pv 1) (pa_cons (pv 3) pa_nil)))))))
    (pss_cons (ps_set (i := 4) nd rfl (by first | exact Or.inl rfl | exact Or.inr rfl) (pe_fld (pv 1) rfl))
    (pss_cons (ps_setLc (i := 5) (own := [("row", 6)]) rfl nd rfl rfl (sw_true rfl rfl rfl (by decide +kernel)) (pi_list (pe_fld (pv 1) rfl)) (blkOk_by (N := ["program", "maker", "begins", "block", "places", "rows", "row", "stretches", "first", "behind", "goal"]) (sc := defScope (top 25)) (by decide +kernel)) (fun _ _ _ _ _ => (pg_name (i := 6) nd rfl (by first | exact Or.inl rfl | exact Or.inr rfl))) (fun _ _ _ _ _ => pts_nil) (fun _ _ _ _ _ => (pe_ca c__placed hr (by omega) rfl pass0 (pa_cons (pv 6) (pa_cons (pv 4) pa_nil)))))
    (pss_cons (ps_setLc (i := 7) (own := [("first", 8), ("behind", 9), ("goal", 10)]) rfl nd rfl rfl (sw_true rfl rfl rfl (by decide +kernel)) (pi_list (pe_fld (pv 1) rfl)) (blkOk_by (N := ["program", "maker", "begins", "block", "places", "rows", "row", "stretches", "first", "behind", "goal"]) (sc := defScope (top 25)) (by decide +kernel)) (fun _ _ _ _ _ => (pg_tupK (K := K) (n := 3) rfl rfl (pgs_cons (pg_name (i := 8) nd rfl (by first | exact Or.inl rfl | exact Or.inr rfl)) (pgs_cons (pg_name (i := 9) nd rfl (by first | exact Or.inl rfl | exact Or.inr rfl)) (pgs_cons (pg_name (i := 10) nd rfl (by first | exact Or.inl rfl | exact Or.inr rfl)) pgs_nil))))) (fun _ _ _ _ _ => pts_nil) (fun _ _ _ _ _ => (pe_tup (pa_cons (pv 8) (pa_cons (pv 9) (pa_cons (pe_ix (ix_ltK (K := K) rfl) (pv 4) (pv 10) (fun _ _ => rfl)) pa_nil))))))
    (pss_one (ps_ret (pe_tup (pa_cons (pv 5) (pa_cons (pv 7) (pa_cons (pv 2) (pa_cons (pe_fld (pv 1) rfl) pa_nil)))))))))))))), ?_⟩
  refine U.w_start (σ' := [some _, none, none, none, none, none, none, none, none, none, none]) rfl ?_
  walk_at "st"
  walk_at "go"
  refine ⟨W, R0, B0, R, L, pg, v, rfl, S, hv, ?_⟩
  rw [hk]
  exact q
end
section
open PySem.FltX TT
variable {P : Program} {w : World} {K : PySem.W.Frag} {mg : Str → Option Value} {base : Heap} {cl : Kl → Addr} {cR cF fI cT : Addr}
theorem ca_toldB (k : Kl) (D : Df K mg "told" (top 58)) (iR : CI K cR fR) (tF : PySem.FltX.Flt K mg cF fI) (tT : PySem.FltX.Trd K mg cT cF) (c_Run : CaI P w K mg base CX0 1 "Run" cR (spRunI cR)) (c_checked : Ca P w K mg base (L2.CX P w) 40 "checked" (spXP K cl)) (c__given_back : Ca P w K mg base (L2.CX P w) 225 "_given_back" (spGb K cR cF cT 8)) :
    Ca P w K mg base (L2.CX P w) 226 "told" (spToldB K cl k) := by
  have sc : FnScope ["program", "number", "turns", "run", "answer", "fault"] ["program", "number", "turns"] (defScope (top 58)) := ⟨rfl, rfl, rfl, by decide +kernel, rfl, by decide +kernel, by decide +kernel⟩
  have nd := sc.nd
  refine D.caX sc (fun _ _ _ _ _ _ us hl => match us, hl with | [_, _, _], _ => rfl) (fun vs H Q E h => by obtain ⟨_, _, _, _, _, _, _, _, _, rfl, _⟩ := h; rfl) (fun f cdv A outer s H vs Q E hr h => ?_)
  obtain ⟨W, R0, B0, R, L, pg, v, z, t, rfl, hk, S, hv, q⟩ := h
  refine ⟨_, (pss_cons (ps_expr (pe_ca c_checked hr (by omega) rfl (passes_call (takes_of rfl rfl rfl rfl) (fun _ _ _ _ h => h)) (pa_cons (pv 0) pa_nil)))
    (pss_cons (ps_set (i := 3) nd rfl (by first | exact Or.inl rfl | exact Or.inr rfl) (pe_mk c_Run hr (by omega) rfl pass0 (pa_cons (pv 0) (pa_cons (pv 2) pa_nil))))
    (pss_cons (ps_try_2 (i := 5) (tb := fun Wx => tAsg (tCallS (spGb K cR cF cT 8) (WE Wx) (tCons (tVar 3) (tCons (tC (.int 0)) (tCons (tVar 1) tNil)))) (gName 4)) (t1 := fun a cls d => tRet (tTup (tCons (tFld K (tVar 3) "said") (tCons (tC (.str "fault")) (tCons (tXf a cls d cF "number" (tVar 5)) tNil))))) (t2 := fun _ _ _ => tRet (tTup (tCons (tFld K (tVar 3) "said") (tCons (tC (.str "tired")) (tCons (tC (.int 0)) tNil))))) (Wo := fun _ _ _ _ => False) rfl rfl nd rfl rfl ⟨rfl, by decide, Or.inl tF.gl⟩ ⟨rfl, by decide, Or.inl tT.gl⟩ takes0 (fun W pn xe tk _ => (pss_one (ps_set (i := 4) nd rfl (by first | exact Or.inl rfl | exact Or.inr rfl) (pe_caS c__given_back hr (by omega) rfl (fun σ => passAt tk σ) (pa_cons (pv 3) (pa_cons pe_int (pa_cons (pv 1) pa_nil))))))) (fun a oe cls d pn hz hf => (pss_one (ps_ret (pe_tup (pa_cons (pe_fld (pv 3) rfl) (pa_cons pe_str (pa_cons (pe_xf tF.xf tF.no hz hf (pv 5)) pa_nil))))))) (fun a oe cls d pn hz hf => (pss_one (ps_ret (pe_tup (pa_cons (pe_fld (pv 3) rfl) (pa_cons pe_str (pa_cons pe_int pa_nil))))))))
    (pss_one (ps_ret (pe_tup (pa_cons (pe_fld (pv 3) rfl) (pa_cons pe_str (pa_cons (pv 4) pa_nil))))))))), ?_⟩
  refine U.w_start (σ' := [some _, some _, some _, none, none, none]) rfl ?_
  walk_at "st"
  refine ⟨W, R0, B0, R, L, pg, _, rfl, S, hv, ?_⟩
  rw [hk]
  exact q
end
end CX6

namespace CX6
open PySem PySem.Spec PyProof.Rows L2 U MM TR M RZ TT
section
variable {P : Program} {w : World} {K : PySem.W.Frag} {mg : Str → Option Value} {base : Heap} {cl : Kl → Addr} {aT aE aA cK cA cR cF cT : Addr} {fI : Addr}
theorem ca_xkD (B : Bi mg) (RC : Rfc K mg cl) (D : CK.ChkD w K mg aT aE) : ∀ m : Nat, Ca P w K mg base (L2.CX P w) (2 * m + 20) "_check_block" (spXK K cl m)
  | 0 => ca_xk_no D.block
  | m + 1 => ca_xk1 RC D.block D.blocks m (ca_xs B RC D.smt D.stm D.tabS (ca_xb RC D.box D.boxes) (ca_xe B RC D.expr D.exp D.parts D.tabE (ca_xb RC D.box D.boxes) (ca_xf RC D.func) 7) m (ca_xkD B RC D m))
theorem ca_xpD (B : Bi mg) (RC : Rfc K mg cl) (D : CK.ChkD w K mg aT aE) : Ca P w K mg base (L2.CX P w) 40 "checked" (spXP K cl) := ca_xp B RC D.chk (ca_xkD B RC D 9)
theorem ca_madeBD (B : Bi mg) (M : CM.MakD w K mg cK cA aA) (ck : Ca P w K mg base (L2.CX P w) 40 "checked" (spXP K cl)) (k : Kl) : Ca P w K mg base (L2.CX P w) 41 "made" (spMadeB K cl k) := ca_madeB B k M.made M.iK (CM.ca_mkI M.mki M.iK M.boxes) ck (CM.ca_fnD B M) (CM.ca_plc B M.placed)
theorem ca_toldBD (hS : seerB K = true) (hP : P.given.tree = none) (D : TelD w K mg cR cF fI cT aA) (ck : Ca P w K mg base (L2.CX P w) 40 "checked" (spXP K cl)) (k : Kl) : Ca P w K mg base (L2.CX P w) 226 "told" (spToldB K cl k) := ca_toldB k D.told D.iR D.flt D.trd (ca_runI D.ini D.iR) ck ((ca_gb hS hP D 8).mono (by omega))
end
end CX6

namespace KX
open PySem PySem.Spec PyProof.Rows L2 U MM TR M LC
theorem w_eqS {x y : Str} {b : Bool} {H : Hp} {Q : VK} (e : decide (V.str x = V.str y) = b) (h : Q (.bl b) H) : rEq (.str x) (.str y) H Q := ⟨rfl, by rw [e]; exact h⟩
def dueS : Option Kl → Str
  | none => ""
  | some .box => "box"
  | some .fn => "function"
  | some .loop => "loop"
  | some .deep => "deep"
section
variable {P : Program} {w : World} {K : PySem.W.Frag} {mg : Str → Option Value} {base : Heap}
/-- the answer is data in the region -/
def RetD (K : PySem.W.Frag) (W : List Addr) (R0 B0 R : Hp) (L : List (Addr × HO)) (Q : VK) (d : PyData) : Prop := ∀ R' H' v, Sta W R0 B0 R' H' L → Same R R' → Dp K R' v d → Q v H'
def spDeep (K : PySem.W.Frag) : Sp := fun vs H Q _ => ∃ (W : List Addr) (R0 B0 R : Hp) (L : List (Addr × HO)) (n : Nat) (c : Int) (leaf : Ex) (v : V), vs = [.int ((n : Nat) + 1 : Int), .int c, v] ∧ n ≤ 6 ∧ Sta W R0 B0 R H L ∧ Dp K R v leaf.enc ∧ RetD K W R0 B0 R L Q (deepT c leaf n).enc
theorem tup_st {W : List Addr} {R0 B0 R H : Hp} {L : List (Addr × HO)} {z : Addr} {vs : List V} {ds : List PyData} (S : Sta W R0 B0 R H L) (n : H z = none) (k : DpAll K R vs ds) : ∃ R', Sta W R0 B0 R' (upd H z (.tup vs)) L ∧ Same R R' ∧ Dp K R' (.ref z) (.tuple ds) :=
  ⟨_, S.newR n _, same_new (S.nR n) _, dp_tupN (S.nR n) k⟩
theorem lst_st {W : List Addr} {R0 B0 R H : Hp} {L : List (Addr × HO)} {z : Addr} {vs : List V} {ds : List PyData} (S : Sta W R0 B0 R H L) (n : H z = none) (k : DpAll K R vs ds) : ∃ R', Sta W R0 B0 R' (upd H z (.lst vs)) L ∧ Same R R' ∧ Dp K R' (.ref z) (.list ds) :=
  ⟨_, S.newR n _, same_new (S.nR n) _, dp_lstN (S.nR n) k⟩
theorem at3 (x y z : V) (m : Int) : atI [x, y, z] (m % 3) = some (if m % 3 = 0 then x else if m % 3 = 1 then y else z) := by
  have h : m % 3 = 0 ∨ m % 3 = 1 ∨ m % 3 = 2 := by omega
  rcases h with h | h | h <;> (rw [h]; rfl)
theorem at2 (x y : V) (m : Int) : atI [x, y] (m % 2) = some (if m % 2 = 0 then x else y) := by
  have h : m % 2 = 0 ∨ m % 2 = 1 := by omega
  rcases h with h | h <;> (rw [h]; rfl)
theorem ca_deep (B : Bi mg) (D : Df K mg "_law_deep_tree" (top 85)) : Ca P w K mg base CX0 1 "_law_deep_tree" (spDeep K) := by
  have sc : FnScope ["_law_deep", "_law_cell", "_law_leaf", "_law_tree_here", "_law_k"] ["_law_deep", "_law_cell", "_law_leaf"] (defScope (top 85)) := ⟨rfl, rfl, rfl, by decide +kernel, rfl, by decide +kernel, by decide +kernel⟩
  have nd := sc.nd
  refine D.ca0 sc (fun _ _ _ _ _ _ us hl => match us, hl with | [_, _, _], _ => rfl) (fun vs H Q E h => by obtain ⟨_, _, _, _, _, _, _, _, _, rfl, _⟩ := h; rfl) (fun f cdv A outer s H vs Q E hr h => ?_)
  obtain ⟨W, R0, B0, R, L, n, c, leaf, v, rfl, hn, S, hv, q⟩ := h
  refine ⟨_, (pss_cons (ps_set (i := 3) nd rfl (by first | exact Or.inl rfl | exact Or.inr rfl) (pv 2))
    (pss_cons (ps_for PassesOwn.never rfl (pi_range1 rfl B.range (pa_cons (pe_op op_sub (pv 0) pe_int) pa_nil)) (pg_name (i := 4) nd rfl (by first | exact Or.inl rfl | exact Or.inr rfl)) (pss_one (ps_set (i := 3) nd rfl (by first | exact Or.inl rfl | exact Or.inr rfl) (pe_ix ix_lt (pe_lst (pa_cons (pe_tup (pa_cons pe_str (pa_cons (pv 3) (pa_cons (pe_tup (pa_cons pe_str (pa_cons pe_int pa_nil))) pa_nil)))) (pa_cons (pe_tup (pa_cons pe_str (pa_cons pe_int (pa_cons (pv 3) pa_nil)))) (pa_cons (pe_tup (pa_cons pe_str (pa_cons (pe_tup (pa_cons pe_str (pa_cons pe_int pa_nil))) (pa_cons (pv 3) pa_nil)))) pa_nil)))) (pe_op op_mod (pe_op op_add (pv 1) (pv 4)) pe_int) (fun _ _ => rfl)))))
    (pss_one (ps_ret (pv 3))))), ?_⟩
  refine U.w_start (σ' := [some _, some _, some _, none, none]) rfl ?_
  walk_at "st"
  walk_at "go"
  walk_at "lp"
  rw [show ((n : Nat) + 1 - 1 : Int) = ((n : Nat) : Int) by omega]
  refine for_R1 (j := n) (fun i σ' H' => ∃ R' x k, σ' = [some (.int ((n : Nat) + 1 : Int)), some (.int c), some v, some x, k] ∧ Sta W R0 B0 R' H' L ∧ Same R R' ∧ Dp K R' x (deepT c leaf i).enc) (by omega) (by omega) ⟨R, v, none, rfl, S, Same.refl _, hv⟩ (fun i σ' H' hi hp => ?_) (fun σ' H' hp => ?_)
  · obtain ⟨R1, x, k, rfl, S1, s1, hx⟩ := hp
    have hi' : i < n := by omega
    walk_at "go"
    intro z1 n1
    obtain ⟨R2, S2, s2, d2⟩ := tup_st (K := K) S1 n1 (.cons (.str "box") (.cons (.int 0) .nil))
    walk_at "go"
    intro z2 n2
    obtain ⟨R3, S3, s3, d3⟩ := tup_st S2 n2 (.cons (.str "add") (.cons (hx.up s2) (.cons d2 .nil)))
    walk_at "go"
    intro z3 n3
    obtain ⟨R4, S4, s4, d4⟩ := tup_st S3 n3 (.cons (.str "call") (.cons (.int 0) (.cons (hx.up (s2.trans s3)) .nil)))
    walk_at "go"
    intro z4 n4
    obtain ⟨R5, S5, s5, d5⟩ := tup_st (K := K) S4 n4 (.cons (.str "num") (.cons (.int 2) .nil))
    walk_at "go"
    intro z5 n5
    obtain ⟨R6, S6, s6, d6⟩ := tup_st S5 n5 (.cons (.str "sub") (.cons d5 (.cons (hx.up (s2.trans (s3.trans (s4.trans s5)))) .nil)))
    walk_at "go"
    intro z6 n6
    have S7 := S6.newX n6 (.lst [V.ref z2, .ref z3, .ref z5])
    walk_at "go"
    refine w_ixLL (SqL.of upd_same) (at3 _ _ _ _) ?_
    refine ⟨R6, _, _, rfl, S7, s1.trans (s2.trans (s3.trans (s4.trans (s5.trans s6)))), ?_⟩
    rw [show (c + (0 + (i : Nat)) : Int) = c + (i : Nat) by omega, deepT]
    split
    · exact d3.up (s4.trans (s5.trans s6))
    · split
      · exact d4.up (s5.trans s6)
      · exact d6
  · obtain ⟨R1, x, k, rfl, S1, s1, hx⟩ := hp
    walk_at "go"
    exact q _ _ _ S1 s1 hx
theorem due_eq (due : Option Kl) : decide (V.str (dueS due) = V.str "box") = decide (due = some .box) := by
  rcases due with _ | k
  · decide
  · cases k <;> decide
theorem due_eq0 (due : Option Kl) : decide (V.str (dueS due) = V.str "") = decide (due = none) := by
  rcases due with _ | k
  · decide
  · cases k <;> decide
def spTree6 (K : PySem.W.Frag) : Sp := fun vs H Q _ => ∃ (W : List Addr) (R0 B0 R : Hp) (L : List (Addr × HO)) (n : Nat) (c : Int), vs = [.int c, .int (n : Nat)] ∧ Sta W R0 B0 R H L ∧ RetD K W R0 B0 R L Q (.tuple [(treeX c n).1.enc, .str (dueS (treeX c n).2)])
theorem big_at (m : Int) : atI [V.int 4, .int (-1), .int (10 ^ Int.toNat 20)] (m % 3) = some (.int (badB (m % 3))) := by
  have h : m % 3 = 0 ∨ m % 3 = 1 ∨ m % 3 = 2 := by omega
  rcases h with h | h | h <;> (rw [h]; rfl)
theorem fn_at (n : Nat) (m : Int) : atI [V.int (n : Nat), .int (-1), .int (10 ^ Int.toNat 20)] (m % 3) = some (.int (badF n (m % 3))) := by
  have h : m % 3 = 0 ∨ m % 3 = 1 ∨ m % 3 = 2 := by omega
  rcases h with h | h | h <;> (rw [h]; rfl)
theorem ca_tree (B : Bi mg) (D : Df K mg "_law_tree" (top 86)) (c__law_deep_tree : Ca P w K mg base CX0 1 "_law_deep_tree" (spDeep K)) : Ca P w K mg base CX0 2 "_law_tree" (spTree6 K) := by
  have sc : FnScope ["_law_cell", "_law_count", "_law_more", "_law_tree_here", "_law_due_here", "_law_side"] ["_law_cell", "_law_count"] (defScope (top 86)) := ⟨rfl, rfl, rfl, by decide +kernel, rfl, by decide +kernel, by decide +kernel⟩
  have nd := sc.nd
  refine D.ca0 sc (fun _ _ _ _ _ _ us hl => match us, hl with | [_, _], _ => rfl) (fun vs H Q E h => by obtain ⟨_, _, _, _, _, _, _, rfl, _⟩ := h; rfl) (fun f cdv A outer s H vs Q E hr h => ?_)
  obtain ⟨W, R0, B0, R, L, n, c, rfl, S, q⟩ := h
  refine ⟨_, (pss_cons (ps_set (i := 2) nd rfl (by first | exact Or.inl rfl | exact Or.inr rfl) (pe_op op_fdiv (pv 0) pe_int))
    (pss_cons (ps_if (pt_cmpR op_eq (pe_op op_mod (pv 0) pe_int) pe_int (nomark _)) (pss_cons (ps_set (i := 3) nd rfl (by first | exact Or.inl rfl | exact Or.inr rfl) (pe_tup (pa_cons pe_str (pa_cons (pe_ix ix_lt (pe_lst (pa_cons pe_int (pa_cons (pe_un un_neg pe_int) (pa_cons (pe_op op_pow pe_int pe_int) pa_nil)))) (pe_op op_mod (pv 2) pe_int) (fun _ _ => rfl)) pa_nil))))
    (pss_one (ps_set (i := 4) nd rfl (by first | exact Or.inl rfl | exact Or.inr rfl) pe_str))) (pss_one (ps_if (pt_cmpR op_eq (pe_op op_mod (pv 0) pe_int) pe_int (nomark _)) (pss_cons (ps_set (i := 3) nd rfl (by first | exact Or.inl rfl | exact Or.inr rfl) (pe_tup (pa_cons pe_str (pa_cons (pe_ix ix_lt (pe_lst (pa_cons (pv 1) (pa_cons (pe_un un_neg pe_int) (pa_cons (pe_op op_pow pe_int pe_int) pa_nil)))) (pe_op op_mod (pv 2) pe_int) (fun _ _ => rfl)) (pa_cons (pe_tup (pa_cons pe_str (pa_cons (pe_op op_mul pe_int (pe_op op_mod (pe_op op_fdiv (pv 2) pe_int) pe_int)) pa_nil))) pa_nil)))))
    (pss_one (ps_set (i := 4) nd rfl (by first | exact Or.inl rfl | exact Or.inr rfl) pe_str))) (pss_one (ps_if (pt_cmpR op_eq (pe_op op_mod (pv 0) pe_int) pe_int (nomark _)) (pss_cons (ps_set (i := 3) nd rfl (by first | exact Or.inl rfl | exact Or.inr rfl) (pe_ca c__law_deep_tree hr (by omega) rfl pass0 (pa_cons pe_int (pa_cons (pv 2) (pa_cons (pe_ix ix_lt (pe_lst (pa_cons (pe_tup (pa_cons pe_str (pa_cons pe_int pa_nil))) (pa_cons (pe_tup (pa_cons pe_str (pa_cons pe_int pa_nil))) (pa_cons (pe_tup (pa_cons pe_str (pa_cons (pv 1) (pa_cons (pe_tup (pa_cons pe_str (pa_cons pe_int pa_nil))) pa_nil)))) pa_nil)))) (pe_op op_mod (pe_op op_fdiv (pv 2) pe_int) pe_int) (fun _ _ => rfl)) pa_nil)))))
    (pss_one (ps_ret (pe_tup (pa_cons (pe_ix ix_lt (pe_lst (pa_cons (pv 3) (pa_cons (pe_tup (pa_cons pe_str (pa_cons (pv 3) (pa_cons (pe_tup (pa_cons pe_str (pa_cons pe_int pa_nil))) pa_nil)))) pa_nil))) (pe_op op_mod (pe_op op_fdiv (pv 2) pe_int) pe_int) (fun _ _ => rfl)) (pa_cons pe_str pa_nil)))))) (pss_one (ps_if (pt_cmpR op_eq (pe_op op_mod (pv 0) pe_int) pe_int (nomark _)) (pss_one (ps_ret (pe_tup (pa_cons (pe_ca c__law_deep_tree hr (by omega) rfl pass0 (pa_cons pe_int (pa_cons (pv 2) (pa_cons (pe_tup (pa_cons pe_str (pa_cons pe_int pa_nil))) pa_nil)))) (pa_cons pe_str pa_nil))))) (pss_cons (ps_set (i := 3) nd rfl (by first | exact Or.inl rfl | exact Or.inr rfl) (pe_tup (pa_cons pe_str (pa_cons (pe_op op_sub (pv 1) pe_int) (pa_cons (pe_tup (pa_cons pe_str (pa_cons pe_int pa_nil))) pa_nil)))))
    (pss_one (ps_set (i := 4) nd rfl (by first | exact Or.inl rfl | exact Or.inr rfl) pe_str))))))))))
    (pss_cons (ps_set (i := 5) nd rfl (by first | exact Or.inl rfl | exact Or.inr rfl) (pe_op op_mod (pe_op op_fdiv (pv 2) pe_int) pe_int))
    (pss_cons (ps_if (pt_cmpR op_eq (pv 5) pe_int (nomark _)) (pss_one (ps_ret (pe_tup (pa_cons (pe_tup (pa_cons pe_str (pa_cons (pv 3) (pa_cons (pe_tup (pa_cons pe_str (pa_cons pe_int pa_nil))) pa_nil)))) (pa_cons (pv 4) pa_nil))))) pss_nil)
    (pss_cons (ps_if (pt_cmpR op_eq (pv 5) pe_int (nomark _)) (pss_one (ps_ret (pe_tup (pa_cons (pe_tup (pa_cons pe_str (pa_cons (pe_tup (pa_cons pe_str (pa_cons pe_int pa_nil))) (pa_cons (pv 3) pa_nil)))) (pa_cons (pv 4) pa_nil))))) pss_nil)
    (pss_cons (ps_if (pt_cmpR op_eq (pv 5) pe_int (nomark _)) (pss_one (ps_ret (pe_tup (pa_cons (pe_tup (pa_cons pe_str (pa_cons (pv 3) (pa_cons (pe_tup (pa_cons pe_str (pa_cons pe_int pa_nil))) pa_nil)))) (pa_cons (pv 4) pa_nil))))) pss_nil)
    (pss_cons (ps_if (pt_cmpR op_eq (pv 5) pe_int (nomark _)) (pss_one (ps_ret (pe_tup (pa_cons (pe_tup (pa_cons pe_str (pa_cons pe_int (pa_cons (pv 3) pa_nil)))) (pa_cons (pv 4) pa_nil))))) pss_nil)
    (pss_cons (ps_if (PW.pt (pw_and (pt_cmpR op_eq (pv 5) pe_int (nomark _)) (pw_and1 (pt_cmpR op_eq (pv 4) pe_str (nomark _))))) (pss_one (ps_ret (pe_tup (pa_cons (pe_tup (pa_cons pe_str (pa_cons (pv 3) (pa_cons (pe_tup (pa_cons pe_str (pa_cons (pv 1) (pa_cons (pe_tup (pa_cons pe_str (pa_cons pe_int pa_nil))) pa_nil)))) pa_nil)))) (pa_cons (pv 4) pa_nil))))) pss_nil)
    (pss_cons (ps_if (pt_cmpR op_eq (pv 5) pe_int (nomark _)) (pss_one (ps_ret (pe_tup (pa_cons (pe_tup (pa_cons pe_str (pa_cons (pv 3) (pa_cons (pe_tup (pa_cons pe_str (pa_cons pe_int pa_nil))) pa_nil)))) (pa_cons (pe_ix ix_lt (pe_lst (pa_cons (pv 4) (pa_cons pe_str pa_nil))) (pe_callTy call_intA rfl B.int (by decide +kernel) (pa_cons (pe_cmpR op_eq (pv 4) pe_str (nomark _)) pa_nil)) (fun _ _ => rfl)) pa_nil))))) pss_nil)
    (pss_one (ps_ret (pe_tup (pa_cons (pv 3) (pa_cons (pv 4) pa_nil)))))))))))))), ?_⟩
  refine U.w_start (σ' := [some _, some _, none, none, none, none]) rfl ?_
  walk_at "st"
  unfold treeX at q
  simp only at q
  walk_at "go"
  refine w_ifJ (by walk_at "set") (fun σ' H' => ∃ R' v t due, σ' = [some (.int c), some (.int (n : Nat)), some (.int (c / 5)), some v, some (.str (dueS due)), none] ∧ Sta W R0 B0 R' H' L ∧ Same R R' ∧ Dp K R' v t.enc ∧ RetD K W R0 B0 R L Q (.tuple [(sideT n (c / 5) t due).1.enc, .str (dueS (sideT n (c / 5) t due).2)])) (fun nx' kj => ?_) (fun σ' H' hj => ?_)
  · walk_at "go"
    refine it_cases (fun c0 => ?_) fun c0 => ?_
    · rw [if_pos c0] at q
      walk_at "go"
      intro z1 n1
      have S1 := S.newX n1 (.lst [V.int 4, .int (-1), .int (10 ^ Int.toNat 20)])
      walk_at "go"
      refine w_ixLL (SqL.of upd_same) (big_at _) ?_
      walk_at "go"
      intro z2 n2
      obtain ⟨R2, S2, s2, d2⟩ := tup_st (K := K) S1 n2 (.cons (.str "box") (.cons (.int _) .nil))
      walk_at "go"
      exact kj _ _ ⟨R2, _, .box _, some .box, rfl, S2, s2, d2, q⟩
    rw [if_neg c0] at q
    walk_at "go"
    refine it_cases (fun c1 => ?_) fun c1 => ?_
    · rw [if_pos c1] at q
      walk_at "go"
      intro z1 n1
      have S1 := S.newX n1 (.lst [V.int (n : Nat), .int (-1), .int (10 ^ Int.toNat 20)])
      walk_at "go"
      refine w_ixLL (SqL.of upd_same) (fn_at _ _) ?_
      walk_at "go"
      intro z2 n2
      obtain ⟨R2, S2, s2, d2⟩ := tup_st (K := K) S1 n2 (.cons (.str "box") (.cons (.int _) .nil))
      walk_at "go"
      intro z3 n3
      obtain ⟨R3, S3, s3, d3⟩ := tup_st (K := K) S2 n3 (.cons (.str "call") (.cons (.int _) (.cons d2 .nil)))
      walk_at "go"
      exact kj _ _ ⟨R3, _, .call _ (.box _), some .fn, rfl, S3, s2.trans s3, d3, q⟩
    rw [if_neg c1] at q
    walk_at "go"
    refine it_cases (fun c2 => ?_) fun c2 => ?_
    · rw [if_pos c2] at q
      walk_at "go"
      intro z1 n1
      obtain ⟨R1, S1, s1, d1⟩ := tup_st (K := K) S n1 (.cons (.str "num") (.cons (.int 1) .nil))
      walk_at "go"
      intro z2 n2
      obtain ⟨R2, S2, s2, d2⟩ := tup_st (K := K) S1 n2 (.cons (.str "box") (.cons (.int 9) .nil))
      walk_at "go"
      intro z3 n3
      obtain ⟨R3, S3, s3, d3⟩ := tup_st (K := K) S2 n3 (.cons (.str "num") (.cons (.int 0) .nil))
      walk_at "go"
      intro z4 n4
      obtain ⟨R4, S4, s4, d4⟩ := tup_st (K := K) S3 n4 (.cons (.str "call") (.cons (.int (n : Nat)) (.cons d3 .nil)))
      walk_at "go"
      intro z5 n5
      have S5 := S4.newX n5 (.lst [V.ref z1, .ref z2, .ref z4])
      walk_at "go"
      refine w_ixLL (SqL.of upd_same) (at3 _ _ _ _) ?_
      walk_at "go"
      have dl : Dp K R4 (if c / 5 / 3 % 3 = 0 then V.ref z1 else if c / 5 / 3 % 3 = 1 then V.ref z2 else V.ref z4) (if c / 5 / 3 % 3 = 0 then Ex.num 1 else if c / 5 / 3 % 3 = 1 then Ex.box 9 else .call (n : Nat) (.num 0)).enc := by
        split
        · exact d1.up (s2.trans (s3.trans s4))
        · split
          · exact d2.up (s3.trans s4)
          · exact d4
      refine ⟨W, R0, B0, R4, L, 6, _, _, _, rfl, by decide, S5, dl, fun R6 H6 v6 S6 s6 d6 => ?_⟩
      walk_at "go"
      intro z7 n7
      obtain ⟨R7, S7, s7, d7⟩ := tup_st (K := K) S6 n7 (.cons (.str "box") (.cons (.int 9) .nil))
      walk_at "go"
      intro z8 n8
      obtain ⟨R8, S8, s8, d8⟩ := tup_st (K := K) S7 n8 (.cons (.str "add") (.cons (d6.up s7) (.cons d7 .nil)))
      walk_at "go"
      intro z9 n9
      have S9 := S8.newX n9 (.lst [v6, V.ref z8])
      walk_at "go"
      refine w_ixLL (SqL.of upd_same) (at2 _ _ _) ?_
      walk_at "go"
      intro z10 n10
      have dt : Dp K R8 (if c / 5 / 9 % 2 = 0 then v6 else V.ref z8) (if c / 5 / 9 % 2 = 0 then deepT (c / 5) (if c / 5 / 3 % 3 = 0 then Ex.num 1 else if c / 5 / 3 % 3 = 1 then Ex.box 9 else .call (n : Nat) (.num 0)) 6 else .op .add (deepT (c / 5) (if c / 5 / 3 % 3 = 0 then Ex.num 1 else if c / 5 / 3 % 3 = 1 then Ex.box 9 else .call (n : Nat) (.num 0)) 6) (.box 9)).enc := by
        split
        · exact d6.up (s7.trans s8)
        · exact d8
      obtain ⟨R10, S10, s10, d10⟩ := tup_st (K := K) S9 n10 (.cons dt (.cons (.str "deep") .nil))
      exact q _ _ _ S10 (s1.trans (s2.trans (s3.trans (s4.trans (s6.trans (s7.trans (s8.trans s10))))))) d10
    rw [if_neg c2] at q
    walk_at "go"
    refine it_cases (fun c3 => ?_) fun c3 => ?_
    · rw [if_pos c3] at q
      walk_at "go"
      intro z1 n1
      obtain ⟨R1, S1, s1, d1⟩ := tup_st (K := K) S n1 (.cons (.str "num") (.cons (.int 1) .nil))
      walk_at "go"
      refine ⟨W, R0, B0, R1, L, 5, _, .num 1, _, rfl, by decide, S1, d1, fun R6 H6 v6 S6 s6 d6 => ?_⟩
      walk_at "go"
      intro z7 n7
      obtain ⟨R7, S7, s7, d7⟩ := tup_st (K := K) S6 n7 (.cons d6 (.cons (.str "") .nil))
      exact q _ _ _ S7 (s1.trans (s6.trans s7)) d7
    rw [if_neg c3] at q
    walk_at "go"
    intro z1 n1
    obtain ⟨R1, S1, s1, d1⟩ := tup_st (K := K) S n1 (.cons (.str "box") (.cons (.int 3) .nil))
    walk_at "go"
    intro z2 n2
    obtain ⟨R2, S2, s2, d2⟩ := tup_st (K := K) S1 n2 (.cons (.str "call") (.cons (.int _) (.cons d1 .nil)))
    walk_at "go"
    exact kj _ _ ⟨R2, _, .call _ (.box _), none, rfl, S2, s1.trans s2, d2, q⟩
  · obtain ⟨R1, v, t, due, rfl, S1, s1, hv, q⟩ := hj
    clear S
    unfold sideT at q
    walk_at "go"
    walk_at "if"
    refine it_cases (fun e1 => ?_) fun e1 => ?_
    · rw [if_pos e1] at q
      walk_at "go"
      intro z1 n1
      obtain ⟨R2, S2, s2, d2⟩ := tup_st (K := K) S1 n1 (.cons (.str "num") (.cons (.int 1) .nil))
      walk_at "go"
      intro z3 n3
      obtain ⟨R3, S3, s3, d3⟩ := tup_st (K := K) S2 n3 (.cons (.str "add") (.cons (hv.up s2) (.cons d2 .nil)))
      walk_at "go"
      intro z4 n4
      obtain ⟨R4, S4, s4, d4⟩ := tup_st (K := K) S3 n4 (.cons d3 (.cons (.str _) .nil))
      exact q _ _ _ S4 (s1.trans (s2.trans (s3.trans s4))) d4
    rw [if_neg e1] at q
    walk_at "go"
    walk_at "if"
    refine it_cases (fun e2 => ?_) fun e2 => ?_
    · rw [if_pos e2] at q
      walk_at "go"
      intro z1 n1
      obtain ⟨R2, S2, s2, d2⟩ := tup_st (K := K) S1 n1 (.cons (.str "num") (.cons (.int 1) .nil))
      walk_at "go"
      intro z3 n3
      obtain ⟨R3, S3, s3, d3⟩ := tup_st (K := K) S2 n3 (.cons (.str "less") (.cons d2 (.cons (hv.up s2) .nil)))
      walk_at "go"
      intro z4 n4
      obtain ⟨R4, S4, s4, d4⟩ := tup_st (K := K) S3 n4 (.cons d3 (.cons (.str _) .nil))
      exact q _ _ _ S4 (s1.trans (s2.trans (s3.trans s4))) d4
    rw [if_neg e2] at q
    walk_at "go"
    walk_at "if"
    refine it_cases (fun e3 => ?_) fun e3 => ?_
    · rw [if_pos e3] at q
      walk_at "go"
      intro z1 n1
      obtain ⟨R2, S2, s2, d2⟩ := tup_st (K := K) S1 n1 (.cons (.str "box") (.cons (.int 3) .nil))
      walk_at "go"
      intro z3 n3
      obtain ⟨R3, S3, s3, d3⟩ := tup_st (K := K) S2 n3 (.cons (.str "share") (.cons (hv.up s2) (.cons d2 .nil)))
      walk_at "go"
      intro z4 n4
      obtain ⟨R4, S4, s4, d4⟩ := tup_st (K := K) S3 n4 (.cons d3 (.cons (.str _) .nil))
      exact q _ _ _ S4 (s1.trans (s2.trans (s3.trans s4))) d4
    rw [if_neg e3] at q
    walk_at "go"
    walk_at "if"
    refine it_cases (fun e4 => ?_) fun e4 => ?_
    · rw [if_pos e4] at q
      walk_at "go"
      intro z3 n3
      obtain ⟨R3, S3, s3, d3⟩ := tup_st (K := K) S1 n3 (.cons (.str "call") (.cons (.int 0) (.cons hv .nil)))
      walk_at "go"
      intro z4 n4
      obtain ⟨R4, S4, s4, d4⟩ := tup_st (K := K) S3 n4 (.cons d3 (.cons (.str _) .nil))
      exact q _ _ _ S4 (s1.trans (s3.trans s4)) d4
    rw [if_neg e4] at q
    walk_at "go"
    walk_at "if"
    refine it_cases (fun e5 => ?_) fun e5 => ?_
    · walk_at "go"
      refine w_eqS (b := decide (due = some .box)) (due_eq due) ?_
      walk_at "go"
      refine it_cases (fun e6 => ?_) fun e6 => ?_
      · rw [if_pos ⟨e5, e6⟩] at q
        walk_at "go"
        intro z1 n1
        obtain ⟨R2, S2, s2, d2⟩ := tup_st (K := K) S1 n1 (.cons (.str "num") (.cons (.int 0) .nil))
        walk_at "go"
        intro z2 n2
        obtain ⟨R3, S3, s3, d3⟩ := tup_st (K := K) S2 n2 (.cons (.str "call") (.cons (.int (n : Nat)) (.cons d2 .nil)))
        walk_at "go"
        intro z3 n3
        obtain ⟨R4, S4, s4, d4⟩ := tup_st (K := K) S3 n3 (.cons (.str "sub") (.cons (hv.up (s2.trans s3)) (.cons d3 .nil)))
        walk_at "go"
        intro z4 n4
        obtain ⟨R5, S5, s5, d5⟩ := tup_st (K := K) S4 n4 (.cons d4 (.cons (.str _) .nil))
        exact q _ _ _ S5 (s1.trans (s2.trans (s3.trans (s4.trans s5)))) d5
      · rw [if_neg (fun z => e6 z.2), if_pos e5] at q
        walk_at "go"
        walk_at "if"
        rw [decide_eq_true e5]
        walk_at "go"
        intro z1 n1
        obtain ⟨R2, S2, s2, d2⟩ := tup_st (K := K) S1 n1 (.cons (.str "box") (.cons (.int 9) .nil))
        walk_at "go"
        intro z2 n2
        obtain ⟨R3, S3, s3, d3⟩ := tup_st (K := K) S2 n2 (.cons (.str "add") (.cons (hv.up s2) (.cons d2 .nil)))
        walk_at "go"
        intro z3 n3
        have S4 := S3.newX n3 (.lst [V.str (dueS due), .str "box"])
        walk_at "go"
        refine w_eqS (b := decide (due = none)) (due_eq0 due) ?_
        walk_at "go"
        refine w_ixLL (v := .str (dueS (fst1 due (some .box)))) (SqL.of upd_same) (by rcases due with _ | k <;> first | rfl | (cases k <;> rfl)) ?_
        walk_at "go"
        intro z4 n4
        obtain ⟨R5, S5, s5, d5⟩ := tup_st (K := K) S4 n4 (.cons d3 (.cons (.str _) .nil))
        exact q _ _ _ S5 (s1.trans (s2.trans (s3.trans s5))) d5
    · rw [if_neg (fun z => e5 z.1), if_neg e5] at q
      walk_at "go"
      walk_at "if"
      rw [decide_eq_false e5]
      walk_at "go"
      intro z4 n4
      obtain ⟨R5, S5, s5, d5⟩ := tup_st (K := K) S1 n4 (.cons hv (.cons (.str _) .nil))
      exact q _ _ _ S5 (s1.trans s5) d5
end
end KX

namespace KX
open PySem PySem.Spec PyProof.Rows L2 U MM TR M LC
section
variable {P : Program} {w : World} {K : PySem.W.Frag} {mg : Str → Option Value} {base : Heap}
def spRowX (K : PySem.W.Frag) : Sp := fun vs H Q _ => ∃ (W : List Addr) (R0 B0 R : Hp) (L : List (Addr × HO)) (n : Nat) (c o : Int), vs = [.int c, .int o, .int (n : Nat)] ∧ Sta W R0 B0 R H L ∧ RetD K W R0 B0 R L Q (.tuple [(rowX c o n).1.enc, .str (dueS (rowX c o n).2)])
theorem at6 (a b c d e f : V) {m : Int} (h0 : 0 ≤ m) (h6 : m < 6) : atI [a, b, c, d, e, f] m = some (if m = 0 then a else if m = 1 then b else if m = 2 then c else if m = 3 then d else if m = 4 then e else f) := by
  have h : m = 0 ∨ m = 1 ∨ m = 2 ∨ m = 3 ∨ m = 4 ∨ m = 5 := by omega
  rcases h with rfl | rfl | rfl | rfl | rfl | rfl <;> rfl
theorem dp_ite {p : Prop} [Decidable p] {R : Hp} {x y : V} {a b : PyData} (h1 : Dp K R x a) (h2 : Dp K R y b) : Dp K R (if p then x else y) (if p then a else b) := by
  by_cases h : p
  · rw [if_pos h, if_pos h]; exact h1
  · rw [if_neg h, if_neg h]; exact h2
theorem m1_at (m : Int) : atI [V.int 4, .int (-1)] (m % 2) = some (.int (if m % 2 = 0 then 4 else -1)) := by
  have h : m % 2 = 0 ∨ m % 2 = 1 := by omega
  rcases h with h | h <;> (rw [h]; rfl)
theorem ca_stm (B : Bi mg) (D : Df K mg "_law_statement" (top 87)) (c__law_tree : Ca P w K mg base CX0 2 "_law_tree" (spTree6 K)) : Ca P w K mg base CX0 3 "_law_statement" (spRowX K) := by
  have sc : FnScope ["_law_cell", "_law_other", "_law_count", "_law_kind", "_law_found", "_law_tree_here", "_law_row"] ["_law_cell", "_law_other", "_law_count"] (defScope (top 87)) := ⟨rfl, rfl, rfl, by decide +kernel, rfl, by decide +kernel, by decide +kernel⟩
  have nd := sc.nd
  refine D.ca0 sc (fun _ _ _ _ _ _ us hl => match us, hl with | [_, _, _], _ => rfl) (fun vs H Q E h => by obtain ⟨_, _, _, _, _, _, _, _, rfl, _⟩ := h; rfl) (fun f cdv A outer s H vs Q E hr h => ?_)
  obtain ⟨W, R0, B0, R, L, n, c, o, rfl, S, q⟩ := h
  refine ⟨_, (pss_cons (ps_set (i := 3) nd rfl (by first | exact Or.inl rfl | exact Or.inr rfl) (pe_op op_mod (pv 0) pe_int))
    (pss_cons (ps_set (i := 4) nd rfl (by first | exact Or.inl rfl | exact Or.inr rfl) (pe_ca c__law_tree hr (by omega) rfl pass0 (pa_cons (pv 1) (pa_cons (pv 2) pa_nil))))
    (pss_cons (ps_set (i := 5) nd rfl (by first | exact Or.inl rfl | exact Or.inr rfl) (pe_ix ix_lt (pv 4) pe_int (fun _ _ => rfl)))
    (pss_cons (ps_if (pt_cmpR op_lt (pv 3) pe_int (nomark _)) (pss_cons (ps_set (i := 6) nd rfl (by first | exact Or.inl rfl | exact Or.inr rfl) (pe_lst (pa_cons (pe_tup (pa_cons pe_str (pa_cons pe_int (pa_cons (pv 5) pa_nil)))) (pa_cons (pe_tup (pa_cons pe_str (pa_cons (pv 5) pa_nil))) (pa_cons (pe_tup (pa_cons pe_str (pa_cons (pv 5) (pa_cons (pe_lst pa_nil) (pa_cons (pe_lst pa_nil) pa_nil))))) (pa_cons (pe_tup (pa_cons pe_str (pa_cons (pv 5) (pa_cons (pe_lst pa_nil) pa_nil)))) pa_nil))))))
    (pss_cons (ps_set (i := 6) nd rfl (by first | exact Or.inl rfl | exact Or.inr rfl) (pe_op op_cat (pv 6) (pe_lst (pa_cons (pe_tup (pa_cons pe_str (pa_cons (pv 5) pa_nil))) (pa_cons (pe_tup (pa_cons pe_str (pa_cons (pv 5) pa_nil))) pa_nil)))))
    (pss_one (ps_ret (pe_tup (pa_cons (pe_ix ix_lt (pv 6) (pv 3) (fun _ _ => rfl)) (pa_cons (pe_ix ix_lt (pv 4) pe_int (fun _ _ => rfl)) pa_nil))))))) pss_nil)
    (pss_cons (ps_if (pt_cmpR op_eq (pv 3) pe_int (nomark _)) (pss_one (ps_ret (pe_tup (pa_cons (pe_tup (pa_cons pe_str (pa_cons (pe_ix ix_lt (pe_lst (pa_cons pe_int (pa_cons (pe_un un_neg pe_int) (pa_cons (pe_op op_pow pe_int pe_int) pa_nil)))) (pe_op op_mod (pe_op op_fdiv (pv 0) pe_int) pe_int) (fun _ _ => rfl)) (pa_cons (pv 5) pa_nil)))) (pa_cons pe_str pa_nil))))) pss_nil)
    (pss_cons (ps_if (pt_cmpR op_eq (pv 3) pe_int (nomark _)) (pss_one (ps_ret (pe_tup (pa_cons (pe_tup (pa_cons pe_str (pa_cons (pe_lst (pa_cons (pe_tup (pa_cons pe_str (pa_cons (pe_tup (pa_cons pe_str (pa_cons pe_int pa_nil))) pa_nil))) pa_nil)) (pa_cons pe_non (pa_cons (pe_ix ix_lt (pe_lst (pa_cons pe_int (pa_cons (pe_un un_neg pe_int) pa_nil))) (pe_op op_mod (pe_op op_fdiv (pv 0) pe_int) pe_int) (fun _ _ => rfl)) (pa_cons (pe_lst (pa_cons (pe_tup (pa_cons pe_str (pa_cons (pv 5) pa_nil))) pa_nil)) pa_nil)))))) (pa_cons pe_str pa_nil))))) pss_nil)
    (pss_one (ps_ret (pe_tup (pa_cons (pe_tup (pa_cons (pe_ix ix_lt (pe_lst (pa_cons pe_str (pa_cons pe_str pa_nil))) (pe_op op_mod (pe_op op_fdiv (pv 0) pe_int) pe_int) (fun _ _ => rfl)) pa_nil)) (pa_cons pe_str pa_nil))))))))))), ?_⟩
  refine U.w_start (σ' := [some _, some _, some _, none, none, none, none]) rfl ?_
  walk_at "st"
  have hk : 0 ≤ c % 9 ∧ c % 9 < 9 := by omega
  walk_at "go"
  refine ⟨W, R0, B0, R, L, n, o, rfl, S, fun R1 H1 v1 S1 s1 h1 => ?_⟩
  obtain ⟨p, va, vb, rfl, hT, ha, hb⟩ := dp_tup2 h1
  cases dp_str hb
  have hT1 := Same.seqT S1.sub' hT
  walk_at "go"
  walk_at "go"
  walk_at "if"
  refine it_cases (fun c6 => ?_) fun c6 => ?_
  · walk_at "go"
    intro z2 n2
    obtain ⟨R2, S2, s2, d2⟩ := tup_st (K := K) S1 n2 (.cons (.str "set") (.cons (.int 3) (.cons ha .nil)))
    clear S1
    walk_at "go"
    intro z3 n3
    obtain ⟨R3, S3, s3, d3⟩ := tup_st (K := K) S2 n3 (.cons (.str "say") (.cons (ha.up s2) .nil))
    clear S2
    walk_at "go"
    intro z4 n4
    obtain ⟨R4, S4, s4, d4⟩ := lst_st (K := K) S3 n4 .nil
    clear S3
    walk_at "go"
    intro z5 n5
    obtain ⟨R5, S5, s5, d5⟩ := lst_st (K := K) S4 n5 .nil
    clear S4
    walk_at "go"
    intro z6 n6
    obtain ⟨R6, S6, s6, d6⟩ := tup_st (K := K) S5 n6 (.cons (.str "if") (.cons (ha.up (s2.trans (s3.trans (s4.trans s5)))) (.cons (d4.up s5) (.cons d5 .nil))))
    clear S5
    walk_at "go"
    intro z7 n7
    obtain ⟨R7, S7, s7, d7⟩ := lst_st (K := K) S6 n7 .nil
    clear S6
    walk_at "go"
    intro z8 n8
    obtain ⟨R8, S8, s8, d8⟩ := tup_st (K := K) S7 n8 (.cons (.str "loop") (.cons (ha.up (s2.trans (s3.trans (s4.trans (s5.trans (s6.trans s7)))))) (.cons d7 .nil)))
    clear S7
    walk_at "go"
    intro z9 n9
    have S9 := S8.new n9 (.lst [V.ref z2, .ref z3, .ref z6, .ref z8])
    clear S8
    walk_at "go"
    intro z10 n10
    obtain ⟨R10, S10, s10, d10⟩ := tup_st (K := K) S9 n10 (.cons (.str "give") (.cons (ha.up (s2.trans (s3.trans (s4.trans (s5.trans (s6.trans (s7.trans s8))))))) .nil))
    clear S9
    walk_at "go"
    intro z11 n11
    obtain ⟨R11, S11, s11, d11⟩ := tup_st (K := K) S10 n11 (.cons (.str "raise") (.cons (ha.up (s2.trans (s3.trans (s4.trans (s5.trans (s6.trans (s7.trans (s8.trans s10)))))))) .nil))
    clear S10
    walk_at "go"
    intro z12 n12
    have S12 := S11.new n12 (.lst [V.ref z10, .ref z11])
    clear S11
    refine w_cat (xs := [V.ref z2, .ref z3, .ref z6, .ref z8]) (ys := [V.ref z10, .ref z11]) (S12.get 1 rfl) (S12.get 0 rfl) (show 6 ≤ 100000 by decide) fun z13 n13 => ?_
    have S13 := (S12.less (.cons _ (.cons _ (.refl _)))).newX n13 (.lst [V.ref z2, .ref z3, .ref z6, .ref z8, .ref z10, .ref z11])
    clear S12
    rw [show [V.ref z2, V.ref z3, V.ref z6, V.ref z8] ++ [V.ref z10, V.ref z11] = [V.ref z2, V.ref z3, V.ref z6, V.ref z8, V.ref z10, V.ref z11] from rfl]
    iterate 6 walk_at "go1"
    refine w_ixLL (SqL.of upd_same) (at6 _ _ _ _ _ _ hk.1 c6) ?_
    have hT2 := Same.seqT (s2.trans (s3.trans (s4.trans (s5.trans (s6.trans (s7.trans (s8.trans (s10.trans (s11.trans S13.sub'))))))))) hT
    walk_at "go"
    intro z14 n14
    have dr : Dp K R11 (if c % 9 = 0 then V.ref z2 else if c % 9 = 1 then V.ref z3 else if c % 9 = 2 then V.ref z6 else if c % 9 = 3 then V.ref z8 else if c % 9 = 4 then V.ref z10 else V.ref z11) (rowX c o n).1.enc := by
      unfold rowX
      simp only
      by_cases k0 : c % 9 = 0
      · rw [if_pos k0, if_pos k0]; exact d2.up (s3.trans (s4.trans (s5.trans (s6.trans (s7.trans (s8.trans (s10.trans s11)))))))
      rw [if_neg k0, if_neg k0]
      by_cases k1 : c % 9 = 1
      · rw [if_pos k1, if_pos k1]; exact d3.up (s4.trans (s5.trans (s6.trans (s7.trans (s8.trans (s10.trans s11))))))
      rw [if_neg k1, if_neg k1]
      by_cases k2 : c % 9 = 2
      · rw [if_pos k2, if_pos k2]; exact d6.up (s7.trans (s8.trans (s10.trans s11)))
      rw [if_neg k2, if_neg k2]
      by_cases k3 : c % 9 = 3
      · rw [if_pos k3, if_pos k3]; exact d8.up (s10.trans s11)
      rw [if_neg k3, if_neg k3]
      by_cases k4 : c % 9 = 4
      · rw [if_pos k4, if_pos k4]; exact d10.up s11
      rw [if_neg k4, if_neg k4, if_pos (by omega)]
      exact d11
    have ed : (rowX c o n).2 = (treeX o n).2 := by
      unfold rowX
      simp only
      repeat' split
      all_goals first | rfl | omega
    obtain ⟨R14, S14, s14, d14⟩ := tup_st (K := K) S13 n14 (.cons dr (.cons (.str (dueS (treeX o n).2)) .nil))
    rw [← ed] at d14
    exact q _ _ _ S14 (s1.trans (s2.trans (s3.trans (s4.trans (s5.trans (s6.trans (s7.trans (s8.trans (s10.trans (s11.trans s14)))))))))) d14
  · walk_at "go"
    walk_at "if"
    unfold rowX at q
    simp only at q
    refine it_cases (fun c7 => ?_) fun c7 => ?_
    · walk_at "go"
      intro z2 n2
      have S2 := S1.newX n2 (.lst [V.int 4, .int (-1), .int (10 ^ Int.toNat 20)])
      clear S1
      repeat (first | (with_reducible refine w_ixLL (SqL.of upd_same) (big_at _) ?_) | walk_at "go1")
      intro z3 n3
      obtain ⟨R3, S3, s3, d3⟩ := tup_st (K := K) S2 n3 (.cons (.str "set") (.cons (.int (badB (c / 9 % 3))) (.cons ha .nil)))
      clear S2
      walk_at "go"
      intro z4 n4
      obtain ⟨R4, S4, s4, d4⟩ := tup_st (K := K) S3 n4 (.cons d3 (.cons (.str "box") .nil))
      rw [if_neg (by omega), if_neg (by omega), if_neg (by omega), if_neg (by omega), if_neg (by omega), if_neg (by omega), if_pos c7] at q
      exact q _ _ _ S4 (s1.trans (s3.trans s4)) d4
    · walk_at "go"
      walk_at "if"
      refine it_cases (fun c8 => ?_) fun c8 => ?_
      · walk_at "go"
        intro z2 n2
        obtain ⟨R2, S2, s2, d2⟩ := tup_st (K := K) S1 n2 (.cons (.str "num") (.cons (.int 0) .nil))
        clear S1
        walk_at "go"
        intro z3 n3
        obtain ⟨R3, S3, s3, d3⟩ := tup_st (K := K) S2 n3 (.cons (.str "say") (.cons d2 .nil))
        clear S2
        walk_at "go"
        intro z4 n4
        obtain ⟨R4, S4, s4, d4⟩ := lst_st (K := K) S3 n4 (.cons d3 .nil)
        clear S3
        walk_at "go"
        intro z5 n5
        have S5 := S4.newX n5 (.lst [V.int 4, .int (-1)])
        clear S4
        repeat (first | (with_reducible refine w_ixLL (SqL.of upd_same) (m1_at _) ?_) | walk_at "go1")
        intro z6 n6
        obtain ⟨R6, S6, s6, d6⟩ := tup_st (K := K) S5 n6 (.cons (.str "say") (.cons (ha.up (s2.trans (s3.trans s4))) .nil))
        clear S5
        walk_at "go"
        intro z7 n7
        obtain ⟨R7, S7, s7, d7⟩ := lst_st (K := K) S6 n7 (.cons d6 .nil)
        clear S6
        walk_at "go"
        intro z8 n8
        obtain ⟨R8, S8, s8, d8⟩ := tup_st (K := K) S7 n8 (.cons (.str "catch") (.cons (d4.up (s6.trans s7)) (.cons .non (.cons (.int (if c / 9 % 2 = 0 then 4 else -1)) (.cons d7 .nil)))))
        clear S7
        walk_at "go"
        intro z9 n9
        obtain ⟨R9, S9, s9, d9⟩ := tup_st (K := K) S8 n9 (.cons d8 (.cons (.str "box") .nil))
        rw [if_neg (by omega), if_neg (by omega), if_neg (by omega), if_neg (by omega), if_neg (by omega), if_neg (by omega), if_neg c7, if_pos c8] at q
        exact q _ _ _ S9 (s1.trans (s2.trans (s3.trans (s4.trans (s6.trans (s7.trans (s8.trans s9))))))) d9
      · walk_at "go"
        intro z2 n2
        have S2 := S1.newX n2 (.lst [V.str "leave", .str "next"])
        clear S1
        repeat (first | (with_reducible refine w_ixLL (SqL.of upd_same) (at2 _ _ _) ?_) | walk_at "go1")
        intro z3 n3
        obtain ⟨R3, S3, s3, d3⟩ := tup_st (K := K) S2 n3 (.cons (dp_ite (p := c / 9 % 2 = 0) (.str "leave") (.str "next")) .nil)
        clear S2
        walk_at "go"
        intro z4 n4
        obtain ⟨R4, S4, s4, d4⟩ := tup_st (K := K) S3 n4 (.cons d3 (.cons (.str "loop") .nil))
        rw [if_neg (by omega), if_neg (by omega), if_neg (by omega), if_neg (by omega), if_neg (by omega), if_neg (by omega), if_neg c7, if_neg c8] at q
        refine q _ _ _ S4 (s1.trans (s3.trans s4)) ?_
        by_cases e : c / 9 % 2 = 0
        · rw [if_pos e]
          rw [if_pos e] at d4
          exact d4
        · rw [if_neg e]
          rw [if_neg e] at d4
          exact d4
end
end KX

namespace KX
open PySem PySem.Spec PyProof.Rows L2 U MM TR M LC
section
variable {P : Program} {w : World} {K : PySem.W.Frag} {mg : Str → Option Value} {base : Heap}
def spAroundX (K : PySem.W.Frag) : Sp := fun vs H Q _ => ∃ (W : List Addr) (R0 B0 R : Hp) (L : List (Addr × HO)) (b : List Sm) (way : Int) (bad : Bool) (v : V), vs = [v, .int way, .bl bad] ∧ Sta W R0 B0 R H L ∧ Dp K R v (.list (encL b)) ∧ RetD K W R0 B0 R L Q (.list (encL (aroundX b way bad)))
theorem rep_one (x : V) (bad : Bool) : (List.replicate ((if bad = true then 1 else 0 : Int)).toNat [x]).flatten = if bad = true then [x] else [] := by cases bad <;> rfl
theorem ca_around (B : Bi mg) (D : Df K mg "_law_around" (top 88)) : Ca P w K mg base CX0 1 "_law_around" (spAroundX K) := by
  have sc : FnScope ["_law_block", "_law_way", "_law_bad", "_law_beside"] ["_law_block", "_law_way", "_law_bad"] (defScope (top 88)) := ⟨rfl, rfl, rfl, by decide +kernel, rfl, by decide +kernel, by decide +kernel⟩
  have nd := sc.nd
  refine D.ca0 sc (fun _ _ _ _ _ _ us hl => match us, hl with | [_, _, _], _ => rfl) (fun vs H Q E h => by obtain ⟨_, _, _, _, _, _, _, _, _, rfl, _⟩ := h; rfl) (fun f cdv A outer s H vs Q E hr h => ?_)
  obtain ⟨W, R0, B0, R, L, b, way, bad, vb, rfl, S, hb, q⟩ := h
  refine ⟨_, (pss_cons (ps_set (i := 3) nd rfl (by first | exact Or.inl rfl | exact Or.inr rfl) (pe_op op_rep (pe_lst (pa_cons (pe_tup (pa_cons pe_str (pa_cons pe_int (pa_cons (pe_tup (pa_cons pe_str (pa_cons pe_int pa_nil))) pa_nil)))) pa_nil)) (pe_callTy call_intA rfl B.int (by decide +kernel) (pa_cons (pv 2) pa_nil))))
    (pss_cons (ps_if (pt_cmpR op_eq (pv 1) pe_int (nomark _)) (pss_one (ps_ret (pe_lst (pa_cons (pe_tup (pa_cons pe_str (pa_cons (pe_tup (pa_cons pe_str (pa_cons pe_int pa_nil))) (pa_cons (pv 0) (pa_cons (pv 3) pa_nil))))) (pa_cons (pe_tup (pa_cons pe_str (pa_cons (pe_tup (pa_cons pe_str (pa_cons pe_int pa_nil))) pa_nil))) pa_nil))))) pss_nil)
    (pss_cons (ps_if (pt_cmpR op_eq (pv 1) pe_int (nomark _)) (pss_one (ps_ret (pe_lst (pa_cons (pe_tup (pa_cons pe_str (pa_cons (pe_tup (pa_cons pe_str (pa_cons pe_int pa_nil))) (pa_cons (pe_lst pa_nil) (pa_cons (pv 0) pa_nil))))) pa_nil)))) pss_nil)
    (pss_cons (ps_if (pt_cmpR op_eq (pv 1) pe_int (nomark _)) (pss_one (ps_ret (pe_lst (pa_cons (pe_tup (pa_cons pe_str (pa_cons pe_int (pa_cons (pe_tup (pa_cons pe_str (pa_cons pe_int pa_nil))) pa_nil)))) (pa_cons (pe_tup (pa_cons pe_str (pa_cons (pv 0) (pa_cons pe_non (pa_cons pe_int (pa_cons (pv 3) pa_nil)))))) (pa_cons (pe_tup (pa_cons pe_str (pa_cons (pe_tup (pa_cons pe_str (pa_cons pe_int pa_nil))) pa_nil))) pa_nil)))))) pss_nil)
    (pss_cons (ps_if (pt_cmpR op_eq (pv 1) pe_int (nomark _)) (pss_one (ps_ret (pe_lst (pa_cons (pe_tup (pa_cons pe_str (pa_cons (pe_lst pa_nil) (pa_cons pe_int (pa_cons pe_int (pa_cons (pv 0) pa_nil)))))) pa_nil)))) pss_nil)
    (pss_cons (ps_if (pt_cmpR op_eq (pv 1) pe_int (nomark _)) (pss_one (ps_ret (pe_lst (pa_cons (pe_tup (pa_cons pe_str (pa_cons (pv 0) (pa_cons (pv 3) pa_nil)))) (pa_cons (pe_tup (pa_cons pe_str (pa_cons (pe_tup (pa_cons pe_str (pa_cons pe_int pa_nil))) pa_nil))) pa_nil))))) pss_nil)
    (pss_cons (ps_if (pt_cmpR op_eq (pv 1) pe_int (nomark _)) (pss_one (ps_ret (pe_lst (pa_cons (pe_tup (pa_cons pe_str (pa_cons (pe_tup (pa_cons pe_str (pa_cons pe_int pa_nil))) pa_nil))) (pa_cons (pe_tup (pa_cons pe_str (pa_cons (pe_lst pa_nil) (pa_cons (pv 0) pa_nil)))) pa_nil))))) pss_nil)
    (pss_one (ps_ret (pe_lst (pa_cons (pe_tup (pa_cons pe_str (pa_cons (pe_tup (pa_cons pe_str (pa_cons pe_int pa_nil))) (pa_cons (pv 0) pa_nil)))) pa_nil))))))))))), ?_⟩
  refine U.w_start (σ' := [some _, some _, some _, none]) rfl ?_
  walk_at "st"
  walk_at "go"
  intro z1 n1
  obtain ⟨R1, S1, s1, d1⟩ := tup_st (K := K) S n1 (.cons (.str "num") (.cons (.int 0) .nil))
  clear S
  walk_at "go"
  intro z2 n2
  obtain ⟨R2, S2, s2, d2⟩ := tup_st (K := K) S1 n2 (.cons (.str "set") (.cons (.int 7) (.cons d1 .nil)))
  clear S1
  walk_at "go"
  intro z3 n3
  have S3 := S2.newX n3 (.lst [V.ref z2])
  clear S2
  walk_at "go"
  refine w_rep (xs := [V.ref z2]) upd_same (by cases bad <;> decide) (by cases bad <;> decide) (by cases bad <;> (show 1 * _ ≤ 100000; decide)) fun z4 n4 => ?_
  rw [rep_one]
  have db : DpAll K R2 (if bad = true then [V.ref z2] else []) (encL (besX bad)) := by
    cases bad
    · exact .nil
    · exact .cons d2 .nil
  obtain ⟨R4, S4, s4, d4⟩ := lst_st (K := K) S3 n4 db
  clear S3 db
  have sR := s1.trans (s2.trans s4)
  have hb' := hb.up sR
  unfold aroundX at q
  walk_at "go"
  walk_at "if"
  refine it_cases (fun c0 => ?_) fun c0 => ?_
  · rw [if_pos c0] at q
    walk_at "go"
    intro z10 n10
    obtain ⟨R10, S10, s10, d10⟩ := tup_st (K := K) S4 n10 (.cons (.str "box") (.cons (.int 1) .nil))
    clear S4
    walk_at "go"
    intro z11 n11
    obtain ⟨R11, S11, s11, d11⟩ := tup_st (K := K) S10 n11 (.cons (.str "if") (.cons d10 (.cons (hb'.up s10) (.cons (d4.up s10) .nil))))
    clear S10
    walk_at "go"
    intro z12 n12
    obtain ⟨R12, S12, s12, d12⟩ := tup_st (K := K) S11 n12 (.cons (.str "box") (.cons (.int 2) .nil))
    clear S11
    walk_at "go"
    intro z13 n13
    obtain ⟨R13, S13, s13, d13⟩ := tup_st (K := K) S12 n13 (.cons (.str "say") (.cons d12 .nil))
    clear S12
    walk_at "go"
    intro z14 n14
    obtain ⟨R14, S14, s14, d14⟩ := lst_st (K := K) S13 n14 (.cons (d11.up (s12.trans s13)) (.cons d13 .nil))
    clear S13
    exact q _ _ _ S14 (sR.trans (s10.trans (s11.trans (s12.trans (s13.trans s14))))) d14
  rw [if_neg c0] at q
  walk_at "go"
  walk_at "if"
  refine it_cases (fun c1 => ?_) fun c1 => ?_
  · rw [if_pos c1] at q
    walk_at "go"
    intro z10 n10
    obtain ⟨R10, S10, s10, d10⟩ := tup_st (K := K) S4 n10 (.cons (.str "box") (.cons (.int 1) .nil))
    clear S4
    walk_at "go"
    intro z11 n11
    obtain ⟨R11, S11, s11, d11⟩ := lst_st (K := K) S10 n11 .nil
    clear S10
    walk_at "go"
    intro z12 n12
    obtain ⟨R12, S12, s12, d12⟩ := tup_st (K := K) S11 n12 (.cons (.str "if") (.cons (d10.up s11) (.cons d11 (.cons (hb'.up (s10.trans s11)) .nil))))
    clear S11
    walk_at "go"
    intro z13 n13
    obtain ⟨R13, S13, s13, d13⟩ := lst_st (K := K) S12 n13 (.cons d12 .nil)
    clear S12
    exact q _ _ _ S13 (sR.trans (s10.trans (s11.trans (s12.trans s13)))) d13
  rw [if_neg c1] at q
  walk_at "go"
  walk_at "if"
  refine it_cases (fun c2 => ?_) fun c2 => ?_
  · rw [if_pos c2] at q
    walk_at "go"
    intro z10 n10
    obtain ⟨R10, S10, s10, d10⟩ := tup_st (K := K) S4 n10 (.cons (.str "num") (.cons (.int 1) .nil))
    clear S4
    walk_at "go"
    intro z11 n11
    obtain ⟨R11, S11, s11, d11⟩ := tup_st (K := K) S10 n11 (.cons (.str "set") (.cons (.int 0) (.cons d10 .nil)))
    clear S10
    walk_at "go"
    intro z12 n12
    obtain ⟨R12, S12, s12, d12⟩ := tup_st (K := K) S11 n12 (.cons (.str "catch") (.cons (hb'.up (s10.trans s11)) (.cons .non (.cons (.int 1) (.cons (d4.up (s10.trans s11)) .nil)))))
    clear S11
    walk_at "go"
    intro z13 n13
    obtain ⟨R13, S13, s13, d13⟩ := tup_st (K := K) S12 n13 (.cons (.str "num") (.cons (.int 3) .nil))
    clear S12
    walk_at "go"
    intro z14 n14
    obtain ⟨R14, S14, s14, d14⟩ := tup_st (K := K) S13 n14 (.cons (.str "say") (.cons d13 .nil))
    clear S13
    walk_at "go"
    intro z15 n15
    obtain ⟨R15, S15, s15, d15⟩ := lst_st (K := K) S14 n15 (.cons (d11.up (s12.trans (s13.trans s14))) (.cons (d12.up (s13.trans s14)) (.cons d14 .nil)))
    clear S14
    exact q _ _ _ S15 (sR.trans (s10.trans (s11.trans (s12.trans (s13.trans (s14.trans s15)))))) d15
  rw [if_neg c2] at q
  walk_at "go"
  walk_at "if"
  refine it_cases (fun c3 => ?_) fun c3 => ?_
  · rw [if_pos c3] at q
    walk_at "go"
    intro z10 n10
    obtain ⟨R10, S10, s10, d10⟩ := lst_st (K := K) S4 n10 .nil
    clear S4
    walk_at "go"
    intro z11 n11
    obtain ⟨R11, S11, s11, d11⟩ := tup_st (K := K) S10 n11 (.cons (.str "catch") (.cons d10 (.cons (.int 3) (.cons (.int 1) (.cons (hb'.up s10) .nil)))))
    clear S10
    walk_at "go"
    intro z12 n12
    obtain ⟨R12, S12, s12, d12⟩ := lst_st (K := K) S11 n12 (.cons d11 .nil)
    clear S11
    exact q _ _ _ S12 (sR.trans (s10.trans (s11.trans s12))) d12
  rw [if_neg c3] at q
  walk_at "go"
  walk_at "if"
  refine it_cases (fun c4 => ?_) fun c4 => ?_
  · rw [if_pos c4] at q
    walk_at "go"
    intro z10 n10
    obtain ⟨R10, S10, s10, d10⟩ := tup_st (K := K) S4 n10 (.cons (.str "end") (.cons hb' (.cons d4 .nil)))
    clear S4
    walk_at "go"
    intro z11 n11
    obtain ⟨R11, S11, s11, d11⟩ := tup_st (K := K) S10 n11 (.cons (.str "num") (.cons (.int 2) .nil))
    clear S10
    walk_at "go"
    intro z12 n12
    obtain ⟨R12, S12, s12, d12⟩ := tup_st (K := K) S11 n12 (.cons (.str "raise") (.cons d11 .nil))
    clear S11
    walk_at "go"
    intro z13 n13
    obtain ⟨R13, S13, s13, d13⟩ := lst_st (K := K) S12 n13 (.cons (d10.up (s11.trans s12)) (.cons d12 .nil))
    clear S12
    exact q _ _ _ S13 (sR.trans (s10.trans (s11.trans (s12.trans s13)))) d13
  rw [if_neg c4] at q
  walk_at "go"
  walk_at "if"
  refine it_cases (fun c5 => ?_) fun c5 => ?_
  · rw [if_pos c5] at q
    walk_at "go"
    intro z10 n10
    obtain ⟨R10, S10, s10, d10⟩ := tup_st (K := K) S4 n10 (.cons (.str "num") (.cons (.int 3) .nil))
    clear S4
    walk_at "go"
    intro z11 n11
    obtain ⟨R11, S11, s11, d11⟩ := tup_st (K := K) S10 n11 (.cons (.str "say") (.cons d10 .nil))
    clear S10
    walk_at "go"
    intro z12 n12
    obtain ⟨R12, S12, s12, d12⟩ := lst_st (K := K) S11 n12 .nil
    clear S11
    walk_at "go"
    intro z13 n13
    obtain ⟨R13, S13, s13, d13⟩ := tup_st (K := K) S12 n13 (.cons (.str "end") (.cons d12 (.cons (hb'.up (s10.trans (s11.trans s12))) .nil)))
    clear S12
    walk_at "go"
    intro z14 n14
    obtain ⟨R14, S14, s14, d14⟩ := lst_st (K := K) S13 n14 (.cons (d11.up (s12.trans s13)) (.cons d13 .nil))
    clear S13
    exact q _ _ _ S14 (sR.trans (s10.trans (s11.trans (s12.trans (s13.trans s14))))) d14
  rw [if_neg c5] at q
  walk_at "go"
  walk_at "go"
  intro z10 n10
  obtain ⟨R10, S10, s10, d10⟩ := tup_st (K := K) S4 n10 (.cons (.str "num") (.cons (.int 0) .nil))
  clear S4
  walk_at "go"
  intro z11 n11
  obtain ⟨R11, S11, s11, d11⟩ := tup_st (K := K) S10 n11 (.cons (.str "loop") (.cons d10 (.cons (hb'.up s10) .nil)))
  clear S10
  walk_at "go"
  intro z12 n12
  obtain ⟨R12, S12, s12, d12⟩ := lst_st (K := K) S11 n12 (.cons d11 .nil)
  clear S11
  exact q _ _ _ S12 (sR.trans (s10.trans (s11.trans s12))) d12
theorem sm_hd {R : Hp} {v : V} {x : Sm} (h : Dp K R v x.enc) : ∃ p vs, v = .ref p ∧ SqT K R p (.str (Sm.word x) :: vs) := by
  cases x <;> (rw [Sm.enc] at h; obtain ⟨p, vs, rfl, hT, hA⟩ := dp_tup h; obtain ⟨v1, ws, rfl, h1, -⟩ := dpa_cons hA; cases dp_str h1; exact ⟨p, _, rfl, hT⟩)
theorem word_catch (x : Sm) : decide (V.str x.word = V.str "catch") = decide (isCatch x = true) := by cases x <;> rfl
theorem word_blk (x : Sm) : inV (.str x.word) [V.str "if", .str "loop"] = isBlk x := by cases x <;> rfl
theorem due_eqL (due : Option Kl) : decide (V.str (dueS due) = V.str "loop") = decide (due = some .loop) := by
  rcases due with _ | k
  · decide
  · cases k <;> decide
def spDueX (K : PySem.W.Frag) : Sp := fun vs H Q _ => ∃ (W : List Addr) (R0 B0 R : Hp) (L : List (Addr × HO)) (x : Sm) (o : Option Kl) (n : Nat) (lp : Bool) (v : V), vs = [v, .int (n : Nat), .bl lp] ∧ Sta W R0 B0 R H L ∧ Dp K R v (.tuple [x.enc, .str (dueS o)]) ∧ ∀ H', Sta W R0 B0 R H' L → Q (.str (dueS (dueX (x, o) n lp))) H'
theorem ca_due (B : Bi mg) (D : Df K mg "_law_due" (top 90)) : Ca P w K mg base CX0 1 "_law_due" (spDueX K) := by
  have sc : FnScope ["_law_found", "_law_deep", "_law_looped"] ["_law_found", "_law_deep", "_law_looped"] (defScope (top 90)) := ⟨rfl, rfl, rfl, by decide +kernel, rfl, by decide +kernel, by decide +kernel⟩
  have nd := sc.nd
  refine D.ca0 sc (fun _ _ _ _ _ _ us hl => match us, hl with | [_, _, _], _ => rfl) (fun vs H Q E h => by obtain ⟨_, _, _, _, _, _, _, _, _, _, rfl, _⟩ := h; rfl) (fun f cdv A outer s H vs Q E hr h => ?_)
  obtain ⟨W, R0, B0, R, L, x, o, n, lp, v, rfl, S, hv, q⟩ := h
  refine ⟨_, (pss_cons (ps_if (PW.pt (pw_and (pt_cmpR op_eq (pv 1) pe_int (nomark _)) (pw_and1 (pt_cmpR op_eq (pe_ix ix_lt (pe_ix ix_lt (pv 0) pe_int (fun _ _ => rfl)) pe_int (fun _ _ => rfl)) pe_str (nomark _))))) (pss_one (ps_ret pe_str)) pss_nil)
    (pss_cons (ps_if (PW.pt (pw_and (pt_cmpR op_eq (pe_ix ix_lt (pv 0) pe_int (fun _ _ => rfl)) pe_str (nomark _)) (pw_and1 (pt_val (pv 2))))) (pss_one (ps_ret pe_str)) pss_nil)
    (pss_cons (ps_if (PW.pt (pw_and (pt_cmpR op_eq (pe_ix ix_lt (pv 0) pe_int (fun _ _ => rfl)) pe_str (nomark _)) (pw_and (pt_cmpR op_eq (pv 1) pe_int (nomark _)) (pw_and1 (pt_cmpR op_in_seq (pe_ix ix_lt (pe_ix ix_lt (pv 0) pe_int (fun _ _ => rfl)) pe_int (fun _ _ => rfl)) (pe_tup (pa_cons pe_str (pa_cons pe_str pa_nil))) rfl))))) (pss_one (ps_ret pe_str)) pss_nil)
    (pss_one (ps_ret (pe_ix ix_lt (pv 0) pe_int (fun _ _ => rfl))))))), ?_⟩
  refine U.w_start (σ' := [some _, some _, some _]) rfl ?_
  walk_at "st"
  unfold dueX at q
  obtain ⟨p, va, vb, rfl, hT, ha, hb⟩ := dp_tup2 hv
  cases dp_str hb
  obtain ⟨pa, ws, rfl, hA⟩ := sm_hd ha
  have hT1 := Same.seqT S.sub' hT
  have hA1 := Same.seqT S.sub' hA
  refine w_ifJ (by walk_at "set") (fun σ' H' => σ' = [some (.ref p), some (.int (n : Nat)), some (.bl lp)] ∧ Sta W R0 B0 R H' L ∧ ¬ (n = 7 ∧ isCatch x = true)) (fun nx' kj => ?_) (fun σ' H' hj => ?_)
  · walk_at "go"
    refine it_cases (fun e7 => ?_) fun e7 => ?_
    · walk_at "go"
      refine w_eqS (b := decide (isCatch x = true)) (word_catch x) ?_
      walk_at "go"
      refine it_cases (fun ec => ?_) fun ec => ?_
      · rw [if_pos ⟨by omega, ec⟩] at q
        walk_at "go"
        exact q _ S
      · walk_at "go"
        exact kj _ _ ⟨rfl, S, fun z => ec z.2⟩
    · walk_at "go"
      exact kj _ _ ⟨rfl, S, fun z => e7 (by omega)⟩
  obtain ⟨rfl, S1, h1⟩ := hj
  rw [if_neg h1] at q
  clear S hT1 hA1
  have hT1 := Same.seqT S1.sub' hT
  have hA1 := Same.seqT S1.sub' hA
  refine w_ifJ (by walk_at "set") (fun σ' H' => σ' = [some (.ref p), some (.int (n : Nat)), some (.bl lp)] ∧ Sta W R0 B0 R H' L ∧ ¬ (o = some .loop ∧ lp = true)) (fun nx' kj => ?_) (fun σ' H' hj => ?_)
  · walk_at "go"
    refine w_eqS (b := decide (o = some .loop)) (due_eqL o) ?_
    walk_at "go"
    refine it_cases (fun el => ?_) fun el => ?_
    · walk_at "go"
      cases lp
      · walk_at "go"
        exact kj _ _ ⟨rfl, S1, fun z => nomatch z.2⟩
      · rw [if_pos ⟨el, rfl⟩] at q
        walk_at "go"
        exact q _ S1
    · walk_at "go"
      exact kj _ _ ⟨rfl, S1, fun z => el z.1⟩
  obtain ⟨rfl, S2, h2⟩ := hj
  rw [if_neg h2] at q
  clear S1 hT1 hA1
  have hT1 := Same.seqT S2.sub' hT
  have hA1 := Same.seqT S2.sub' hA
  walk_at "go"
  walk_at "if"
  refine w_eqS (b := decide (o = none)) (due_eq0 o) ?_
  walk_at "go"
  refine it_cases (fun e0 => ?_) fun e0 => ?_
  · walk_at "go"
    refine it_cases (fun e7 => ?_) fun e7 => ?_
    · walk_at "go"
      intro z nz
      have S3 := S2.newX nz (.tup [V.str "if", .str "loop"])
      clear S2
      refine w_inT (SqT.of upd_same) rfl rfl (word_blk x) ?_
      have hT3 := Same.seqT S3.sub' hT
      walk_at "go"
      cases hb : isBlk x
      · rw [if_neg (fun z => by rw [hb] at z; exact nomatch z.2.2)] at q
        walk_at "go"
        exact q _ S3
      · rw [if_pos ⟨e0, by omega, hb⟩] at q
        walk_at "go"
        exact q _ S3
    · rw [if_neg (fun z => e7 (by omega))] at q
      walk_at "go"
      exact q _ S2
  · rw [if_neg (fun z => e0 z.1)] at q
    walk_at "go"
    exact q _ S2
end
end KX

namespace KX
open PySem PySem.Spec PyProof.Rows L2 U MM TR M LC
local macro_rules | `(tactic| walk_at "own1") => `(tactic| first
  | ((with_reducible refine LC.w_cell (ns := ?wcn) ?wcs ?wck ?_); (case wcs => walk_at "sq"); (case wck => first | decide | omega))
  | walk_at "own2")
theorem cut_take (x y : V) {m : Int} (h : 0 ≤ m) (h2 : m < 3) : cutV [x, y] none (some m) = [x, y].take m.toNat := by
  have z : m = 0 ∨ m = 1 ∨ m = 2 := by omega
  rcases z with rfl | rfl | rfl <;> rfl
theorem cut_drop (x y : V) {m : Int} (h : 0 ≤ m) (h2 : m < 3) : cutV [x, y] (some m) none = [x, y].drop m.toNat := by
  have z : m = 0 ∨ m = 1 ∨ m = 2 := by omega
  rcases z with rfl | rfl | rfl <;> rfl
theorem mul_at (f : Int) : atI [V.int 1, .int 1, .int 30] (f / 864 % 3) = some (.int ((mulX f : Nat) : Int)) := by
  have h : f / 864 % 3 = 0 ∨ f / 864 % 3 = 1 ∨ f / 864 % 3 = 2 := by omega
  unfold mulX
  rcases h with h | h | h <;> (rw [h]; rfl)
theorem rep_len {α : Type} (k : Nat) (xs : List α) : ((List.replicate k xs).flatten).length = k * xs.length := by
  induction k with
  | zero => simp
  | succ k ih => rw [List.replicate_succ, List.flatten_cons, List.length_append, ih, Nat.succ_mul, Nat.add_comm]
theorem all_rep {K : PySem.W.Frag} {R : Hp} {vs : List V} {ds : List PyData} (h : DpAll K R vs ds) : ∀ k : Nat, DpAll K R (List.replicate k vs).flatten (List.replicate k ds).flatten
  | 0 => .nil
  | k + 1 => by
    rw [List.replicate_succ, List.replicate_succ, List.flatten_cons, List.flatten_cons]
    exact h.app (all_rep h k)
theorem enc_times (l : List Sm) : ∀ k : Nat, encL (timesX k l) = (List.replicate k (encL l)).flatten
  | 0 => rfl
  | k + 1 => by
    have ih := enc_times l k
    unfold timesX at ih ⊢
    rw [List.replicate_succ, List.replicate_succ, List.flatten_cons, List.flatten_cons, encL_app, ih]
theorem enc_take (l : List Sm) (k : Nat) : encL (l.take k) = (encL l).take k := by rw [encL_map, encL_map, List.map_take]
theorem enc_drop (l : List Sm) (k : Nat) : encL (l.drop k) = (encL l).drop k := by rw [encL_map, encL_map, List.map_drop]
theorem w_inL {K : PySem.W.Frag} {H : Hp} {Q : VK} {p : Addr} {xs : List V} {x : V} {b : Bool} (ha : SqL K H p xs) (fx : flatV x = true) (fs : xs.all flatV = true) (e : inV x xs = b) (h : Q (.bl b) H) : rIn K false x (.ref p) H Q := ⟨p, xs, rfl, .inl ha, fx, fs, by rw [if_neg Bool.false_ne_true, e]; exact h⟩
theorem flat_ints (g : Nat → Int) (l : List Nat) : (l.map fun k => V.int (g k)).all flatV = true := by
  rw [List.all_map]
  exact List.all_eq_true.mpr fun _ _ => rfl
theorem way_6 {c : Int} (h : 0 ≤ c ∧ c < 7) : eqV (.int c) (.int 6) = wayL c := by
  have z : c = 0 ∨ c = 1 ∨ c = 2 ∨ c = 3 ∨ c = 4 ∨ c = 5 ∨ c = 6 := by omega
  rcases z with rfl | rfl | rfl | rfl | rfl | rfl | rfl <;> decide +kernel
theorem in_ways (ways : Nat → Int) (hw : ∀ k, 0 ≤ ways k ∧ ways k < 7) : ∀ n, inV (.int 6) ((List.range n).map fun k => V.int (ways k)) = lwX ways n
  | 0 => rfl
  | n + 1 => by
    have ih := in_ways ways hw n
    unfold inV at ih ⊢
    rw [List.range_succ, List.map_append, List.any_append, ih]
    show (_ || (eqV (.int (ways n)) (.int 6) || false)) = (lwX ways n || wayL (ways n))
    rw [way_6 (hw n), Bool.or_false]
theorem in_024 (c : Int) : inV (.int c) [V.int 0, .int 2, .int 4] = wayB c := by
  show (eqV (.int 0) (.int c) || (eqV (.int 2) (.int c) || (eqV (.int 4) (.int c) || false))) = _
  unfold wayB
  have e : ∀ z : Int, eqV (.int z) (.int c) = decide (c = z) := fun z => by
    show decide (z = c) = decide (c = z)
    by_cases h : z = c
    · rw [decide_eq_true h, decide_eq_true h.symm]
    · rw [decide_eq_false h, decide_eq_false fun q => h q.symm]
  rw [e, e, e, Bool.or_false, Bool.or_assoc]
theorem ways_at (g : Nat → Int) {n i : Nat} (h : i < n) : atI ((List.range n).map fun k => V.int (g k)) (0 + (i : Nat)) = some (.int (g i)) := by
  rw [show (0 + ((i : Nat) : Int)) = ((i : Nat) : Int) by omega]
  exact atI_nat (by rw [List.getElem?_map, List.getElem?_range h]; rfl)
theorem due_step (d0 : Option Kl) (bw b y : Bool) : fst1 d0 (if (bw || (b && y)) = true then some .box else none) = if fst1 d0 (if bw = true then some .box else none) = none ∧ b = true ∧ y = true then some .box else fst1 d0 (if bw = true then some .box else none) := by
  cases d0 with
  | none => cases bw <;> cases b <;> cases y <;> decide
  | some k => cases bw <;> cases b <;> cases y <;> simp [fst1]
def csX (ns : List Int) (k : Nat) : Int := LC.cellAt ns (k : Int)
section
variable {P : Program} {w : World} {K : PySem.W.Frag} {mg : Str → Option Value} {base : Heap}
def spPgX (K : PySem.W.Frag) : Sp := fun vs H Q _ => ∃ (W : List Addr) (R0 B0 R : Hp) (L : List (Addr × HO)) (a : Addr) (ns : List Int), vs = [.ref a] ∧ Sta W R0 B0 R H L ∧ SqL K R a (ns.map V.int) ∧ RetD K W R0 B0 R L Q (.tuple [encP (pgX' (csX ns)), .str (dueS (dueP (csX ns)))])
theorem ca_pg (B : Bi mg) (D : Df K mg "_law_program" (top 91)) (c__law_cell_at : Ca P w K mg base CX0 1 "_law_cell_at" (spCel K)) (c__law_statement : Ca P w K mg base CX0 3 "_law_statement" (spRowX K)) (c__law_around : Ca P w K mg base CX0 1 "_law_around" (spAroundX K)) (c__law_due : Ca P w K mg base CX0 1 "_law_due" (spDueX K)) : Ca P w K mg base CX0 4 "_law_program" (spPgX K) := by
  have sc : FnScope ["_law_script", "_law_first", "_law_count", "_law_one", "_law_other", "_law_deep", "_law_ways", "_law_k", "_law_goods", "_law_block", "_law_due_here", "_law_bad", "_law_at", "_law_program_here"] ["_law_script"] (defScope (top 91)) := ⟨rfl, rfl, rfl, by decide +kernel, rfl, by decide +kernel, by decide +kernel⟩
  have nd := sc.nd
  refine D.ca0 sc (fun _ _ _ _ _ _ us hl => match us, hl with | [_], _ => rfl) (fun vs H Q E h => by obtain ⟨_, _, _, _, _, _, _, rfl, _⟩ := h; rfl) (fun f cdv A outer s H vs Q E hr h => ?_)
  obtain ⟨W, R0, B0, R, L, a, ns, rfl, S, hS, q⟩ := h
  refine ⟨_, (pss_cons (ps_set (i := 1) nd rfl (by first | exact Or.inl rfl | exact Or.inr rfl) (pe_op op_mod (pe_op op_mul (pe_ca c__law_cell_at hr (by omega) rfl pass0 (pa_cons (pv 0) (pa_cons pe_int pa_nil))) pe_int) pe_int))
    (pss_cons (ps_set (i := 2) nd rfl (by first | exact Or.inl rfl | exact Or.inr rfl) (pe_op op_add pe_int (pe_op op_mod (pv 1) pe_int)))
    (pss_cons (ps_set (i := 3) nd rfl (by first | exact Or.inl rfl | exact Or.inr rfl) (pe_ca c__law_statement hr (by omega) rfl pass0 (pa_cons (pe_ca c__law_cell_at hr (by omega) rfl pass0 (pa_cons (pv 0) (pa_cons pe_int pa_nil))) (pa_cons (pe_ca c__law_cell_at hr (by omega) rfl pass0 (pa_cons (pv 0) (pa_cons pe_int pa_nil))) (pa_cons (pv 2) pa_nil)))))
    (pss_cons (ps_set (i := 4) nd rfl (by first | exact Or.inl rfl | exact Or.inr rfl) (pe_ca c__law_statement hr (by omega) rfl pass0 (pa_cons (pe_ca c__law_cell_at hr (by omega) rfl pass0 (pa_cons (pv 0) (pa_cons pe_int pa_nil))) (pa_cons (pe_ca c__law_cell_at hr (by omega) rfl pass0 (pa_cons (pv 0) (pa_cons pe_int pa_nil))) (pa_cons (pv 2) pa_nil)))))
    (pss_cons (ps_set (i := 5) nd rfl (by first | exact Or.inl rfl | exact Or.inr rfl) (pe_op op_mod (pe_ca c__law_cell_at hr (by omega) rfl pass0 (pa_cons (pv 0) (pa_cons pe_int pa_nil))) pe_int))
    (pss_cons (ps_setLc (i := 6) (own := [("_law_k", 7)]) rfl nd rfl rfl (sw_true rfl rfl rfl (by decide +kernel)) (pi_range1 rfl B.range (pa_cons (pv 5) pa_nil)) (blkOk_by (N := ["_law_script", "_law_first", "_law_count", "_law_one", "_law_other", "_law_deep", "_law_ways", "_law_k", "_law_goods", "_law_block", "_law_due_here", "_law_bad", "_law_at", "_law_program_here"]) (sc := defScope (top 91)) (by decide +kernel)) (fun _ _ _ _ _ => (pg_name (i := 7) nd rfl (by first | exact Or.inl rfl | exact Or.inr rfl))) (fun _ _ _ _ _ => pts_nil) (fun _ _ _ _ _ => (pe_op op_mod (pe_ca c__law_cell_at hr (by omega) rfl pass0 (pa_cons (pv 0) (pa_cons (pe_op op_add pe_int (pv 7)) pa_nil))) pe_int)))
    (pss_cons (ps_set (i := 8) nd rfl (by first | exact Or.inl rfl | exact Or.inr rfl) (pe_lst (pa_cons (pe_tup (pa_cons pe_str (pa_cons (pe_tup (pa_cons pe_str (pa_cons pe_int pa_nil))) pa_nil))) (pa_cons (pe_tup (pa_cons pe_str (pa_cons (pe_tup (pa_cons pe_str (pa_cons pe_int pa_nil))) pa_nil))) pa_nil))))
    (pss_cons (ps_set (i := 9) nd rfl (by first | exact Or.inl rfl | exact Or.inr rfl) (pe_op op_cat (pe_op op_cat (pe_op op_rep (pe_slice sl_list (pv 8) po_none (po_some (pe_op op_mod (pe_op op_fdiv (pv 1) pe_int) pe_int))) (pe_ix ix_lt (pe_lst (pa_cons pe_int (pa_cons pe_int (pa_cons pe_int pa_nil)))) (pe_op op_mod (pe_op op_fdiv (pv 1) pe_int) pe_int) (fun _ _ => rfl))) (pe_lst (pa_cons (pe_ix ix_lt (pv 3) pe_int (fun _ _ => rfl)) pa_nil))) (pe_slice sl_list (pv 8) (po_some (pe_op op_mod (pe_op op_fdiv (pv 1) pe_int) pe_int)) po_none)))
    (pss_cons (ps_set (i := 9) nd rfl (by first | exact Or.inl rfl | exact Or.inr rfl) (pe_op op_cat (pe_op op_cat (pv 9) (pe_lst (pa_cons (pe_ix ix_lt (pv 4) pe_int (fun _ _ => rfl)) pa_nil))) (pe_slice sl_list (pv 8) po_none (po_some (pe_op op_mod (pe_op op_fdiv (pv 1) pe_int) pe_int)))))
    (pss_cons (ps_set (i := 10) nd rfl (by first | exact Or.inl rfl | exact Or.inr rfl) pe_str)
    (pss_cons (ps_if (pt_cmpR op_lt (pv 5) pe_int (nomark _)) (pss_cons (ps_set (i := 10) nd rfl (by first | exact Or.inl rfl | exact Or.inr rfl) (pe_ca c__law_due hr (by omega) rfl pass0 (pa_cons (pv 3) (pa_cons (pv 5) (pa_cons (pe_cmpR op_in_seq pe_int (pv 6) rfl) pa_nil)))))
    (pss_one (ps_if (pt_cmpR op_eq (pv 10) pe_str (nomark _)) (pss_one (ps_set (i := 10) nd rfl (by first | exact Or.inl rfl | exact Or.inr rfl) (pe_ca c__law_due hr (by omega) rfl pass0 (pa_cons (pv 4) (pa_cons (pv 5) (pa_cons (pe_cmpR op_in_seq pe_int (pv 6) rfl) pa_nil)))))) pss_nil))) pss_nil)
    (pss_cons (ps_for PassesOwn.never rfl (pi_range1 rfl B.range (pa_cons (pv 5) pa_nil)) (pg_name (i := 7) nd rfl (by first | exact Or.inl rfl | exact Or.inr rfl)) (pss_cons (ps_set (i := 11) nd rfl (by first | exact Or.inl rfl | exact Or.inr rfl) (pe_cmpR op_eq (pe_op op_mod (pe_ca c__law_cell_at hr (by omega) rfl pass0 (pa_cons (pv 0) (pa_cons (pe_op op_add pe_int (pv 7)) pa_nil))) pe_int) pe_int (nomark _)))
    (pss_cons (ps_set (i := 9) nd rfl (by first | exact Or.inl rfl | exact Or.inr rfl) (pe_ca c__law_around hr (by omega) rfl pass0 (pa_cons (pv 9) (pa_cons (pe_ix ix_lt (pv 6) (pv 7) (fun _ _ => rfl)) (pa_cons (pv 11) pa_nil)))))
    (pss_one (ps_if (PW.pt (pw_and (pt_cmpR op_eq (pv 10) pe_str (nomark _)) (pw_and (pt_val (pv 11)) (pw_and1 (pt_cmpR op_in_seq (pe_ix ix_lt (pv 6) (pv 7) (fun _ _ => rfl)) (pe_tup (pa_cons pe_int (pa_cons pe_int (pa_cons pe_int pa_nil)))) rfl))))) (pss_one (ps_set (i := 10) nd rfl (by first | exact Or.inl rfl | exact Or.inr rfl) pe_str)) pss_nil)))))
    (pss_cons (ps_set (i := 12) nd rfl (by first | exact Or.inl rfl | exact Or.inr rfl) (pe_op op_mod (pe_op op_fdiv (pv 1) pe_int) (pv 2)))
    (pss_cons (ps_setLc (i := 13) (own := [("_law_k", 7)]) rfl nd rfl rfl (sw_true rfl rfl rfl (by decide +kernel)) (pi_range1 rfl B.range (pa_cons (pv 2) pa_nil)) (blkOk_by (N := ["_law_script", "_law_first", "_law_count", "_law_one", "_law_other", "_law_deep", "_law_ways", "_law_k", "_law_goods", "_law_block", "_law_due_here", "_law_bad", "_law_at", "_law_program_here"]) (sc := defScope (top 91)) (by decide +kernel)) (fun _ _ _ _ _ => (pg_name (i := 7) nd rfl (by first | exact Or.inl rfl | exact Or.inr rfl))) (fun _ _ _ _ _ => pts_nil) (fun _ _ _ _ _ => (pe_lst (pa_cons (pe_tup (pa_cons pe_str (pa_cons (pe_tup (pa_cons pe_str (pa_cons pe_int pa_nil))) pa_nil))) pa_nil))))
    (pss_cons (ps_asg (pv 9) (pg_sub (pv 13) (pv 12) set_list))
    (pss_cons (ps_if (PW.pt (pw_and (pt_cmpR op_eq (pe_op op_mod (pe_op op_fdiv (pv 1) pe_int) pe_int) pe_int (nomark _)) (pw_and1 (pt_cmpR op_lt (pe_op op_add (pv 12) pe_int) (pv 2) (nomark _))))) (pss_cons (ps_asg (pe_lst (pa_cons (pe_tup (pa_cons pe_str (pa_cons (pe_tup (pa_cons pe_str (pa_cons pe_int pa_nil))) pa_nil))) (pa_cons (pe_tup (pa_cons pe_str (pa_cons pe_int (pa_cons (pe_tup (pa_cons pe_str (pa_cons pe_int pa_nil))) pa_nil)))) pa_nil))) (pg_sub (pv 13) (pe_op op_sub (pv 2) pe_int) set_list))
    (pss_one (ps_if (pt_cmpR op_eq (pv 10) pe_str (nomark _)) (pss_one (ps_set (i := 10) nd rfl (by first | exact Or.inl rfl | exact Or.inr rfl) pe_str)) pss_nil))) pss_nil)
    (pss_one (ps_ret (pe_tup (pa_cons (pv 13) (pa_cons (pv 10) pa_nil))))))))))))))))))))), ?_⟩
  refine U.w_start (σ' := [some _, none, none, none, none, none, none, none, none, none, none, none, none, none]) rfl ?_
  walk_at "st"
  have hc := cnt_bd (csX ns)
  have hat := at_bd (csX ns)
  have hs0 := Same.seqL S.sub' hS
  walk_at "go"
  have ec : (1 + firstX (csX ns) % 4 : Int) = ((cntX (csX ns) : Nat) : Int) := by unfold cntX; omega
  rw [show (LC.cellAt ns 0 * 48271 % 1000003 : Int) = firstX (csX ns) from rfl, ec]
  refine ⟨W, R0, B0, R, L, cntX (csX ns), csX ns 1, csX ns 2, rfl, S, fun R1 H1 v1 S1 s1 h1 => ?_⟩
  have hs1 := Same.seqL (s1.trans S1.sub') hS
  clear S hs0
  walk_at "go"
  refine ⟨W, R0, B0, R1, L, cntX (csX ns), csX ns 3, csX ns 4, rfl, S1, fun R2 H2 v2 S2 s2 h2 => ?_⟩
  have hs2 := Same.seqL ((s1.trans s2).trans S2.sub') hS
  clear S1 hs1
  walk_at "go"
  have ed : (LC.cellAt ns 5 % 9 : Int) = ((deepX (csX ns) : Nat) : Int) := by
    show csX ns 5 % 9 = _
    unfold deepX
    omega
  rw [ed]
  have hd8 : deepX (csX ns) ≤ 8 := by unfold deepX; omega
  refine lc_R1 (fun D i H' => Sta W R0 B0 R2 H' ((D, .lst ((List.range i).map fun k => V.int (waysX (csX ns) k))) :: L)) (by omega) (by omega) (fun D n => S2.new n _) (fun D i H3 n hi S3 => ?_) (fun D H3 n S3 => ?_)
  · have hs3 := Same.seqL ((s1.trans s2).trans S3.sub') hS
    walk_at "go"
    refine w_lcE (S3.get 0 rfl) (szlt (by rw [List.length_map, List.length_range]; omega)) ?_
    have ew : (LC.cellAt ns (6 + (0 + ((i : Nat) : Int))) % 7) = waysX (csX ns) i := by
      unfold waysX csX
      rw [show ((6 + i : Nat) : Int) = 6 + (0 + ((i : Nat) : Int)) by omega]
    rw [ew]
    have S4 := S3.set 0 rfl (.lst ((List.range i).map (fun k => V.int (waysX (csX ns) k)) ++ [V.int (waysX (csX ns) i)]))
    rw [List.range_succ, List.map_append]
    exact S4
  rw [Int.toNat_natCast] at S3
  have S4 := S3.frz
  have s4 : Same R2 (upd R2 D (.lst ((List.range (deepX (csX ns))).map fun k => V.int (waysX (csX ns) k)))) := same_new (S3.noR 0 rfl) _
  have hW : SqL K (upd R2 D (.lst ((List.range (deepX (csX ns))).map fun k => V.int (waysX (csX ns) k)))) D ((List.range (deepX (csX ns))).map fun k => V.int (waysX (csX ns) k)) := SqL.of upd_same
  clear S3 S2
  generalize upd R2 D (.lst ((List.range (deepX (csX ns))).map fun k => V.int (waysX (csX ns) k))) = R3 at *
  have hv1 := h1.up (s2.trans s4)
  have hv2 := h2.up s4
  have s5 := s1.trans (s2.trans s4)
  have hS3 := Same.seqL s5 hS
  clear h1 h2 hs2 s1 s2 s4 hS
  obtain ⟨p1, va1, vb1, rfl, hT1, ha1, -⟩ := dp_tup2 hv1
  obtain ⟨p2, va2, vb2, rfl, hT2, ha2, -⟩ := dp_tup2 hv2
  walk_at "go"
  intro z1 n1
  obtain ⟨R5, S5, t5, d5⟩ := tup_st (K := K) S4 n1 (.cons (.str "num") (.cons (.int 5) .nil))
  clear S4
  walk_at "go"
  intro z2 n2
  obtain ⟨R6, S6, t6, d6⟩ := tup_st (K := K) S5 n2 (.cons (.str "say") (.cons d5 .nil))
  clear S5
  walk_at "go"
  intro z3 n3
  obtain ⟨R7, S7, t7, d7⟩ := tup_st (K := K) S6 n3 (.cons (.str "box") (.cons (.int 3) .nil))
  clear S6
  walk_at "go"
  intro z4 n4
  obtain ⟨R8, S8, t8, d8⟩ := tup_st (K := K) S7 n4 (.cons (.str "give") (.cons d7 .nil))
  clear S7
  walk_at "go"
  intro z5 n5
  obtain ⟨R9, S9, t9, d9⟩ := lst_st (K := K) S8 n5 (.cons (d6.up (t7.trans t8)) (.cons d8 .nil))
  clear S8
  have sZ : Same R3 R9 := t5.trans (t6.trans (t7.trans (t8.trans t9)))
  obtain ⟨pg, vg, eg, hgS, hgA⟩ := dp_lst d9
  cases eg
  obtain ⟨x, w1, rfl, hx, hgA⟩ := dpa_cons hgA
  obtain ⟨y, w2, rfl, hy, hgA⟩ := dpa_cons hgA
  cases dpa_nil hgA
  have hG : DpAll K R9 [x, y] (encL gdX) := .cons hx (.cons hy .nil)
  clear d5 d6 d7 d8 d9 hx hy t5 t6 t7 t8 t9 hgA
  have hv1 := hv1.up sZ
  have hv2 := hv2.up sZ
  have ha1 := ha1.up sZ
  have ha2 := ha2.up sZ
  have hT1 := Same.seqT sZ hT1
  have hT2 := Same.seqT sZ hT2
  have hW := Same.seqL sZ hW
  have hS3 := Same.seqL sZ hS3
  have s6 := s5.trans sZ
  clear s5 sZ
  have hgS9 := Same.seqL S9.sub' hgS
  walk_at "go"
  intro y1 m1
  rw [cut_take x y (by omega) (by omega)]
  have A1 := S9.new m1 (.lst ([x, y].take (firstX (csX ns) / 4 % 3).toNat))
  clear S9 hgS9
  walk_at "go"
  intro y2 m2
  have A2 := A1.newX m2 (.lst [V.int 1, .int 1, .int 30])
  clear A1
  repeat (first | (with_reducible refine w_ixLL (SqL.of upd_same) (mul_at _) ?_) | walk_at "go1")
  have hm : mulX (firstX (csX ns)) ≤ 30 := by unfold mulX; split <;> omega
  have hl0 : ([x, y].take (firstX (csX ns) / 4 % 3).toNat).length ≤ 2 := by rw [List.length_take]; exact Nat.min_le_right _ _
  have hl1 : ((List.replicate (mulX (firstX (csX ns))) ([x, y].take (firstX (csX ns) / 4 % 3).toNat)).flatten).length ≤ 60 := by
    rw [rep_len]
    exact Nat.mul_le_mul hm hl0
  refine w_rep (A2.get 0 rfl) (by omega) (by omega) (by rw [Int.toNat_natCast, Nat.mul_comm]; exact Nat.le_trans (Nat.mul_le_mul hm hl0) (by decide)) fun y3 m3 => ?_
  rw [Int.toNat_natCast]
  have hX1 : DpAll K R9 (List.replicate (mulX (firstX (csX ns))) ([x, y].take (firstX (csX ns) / 4 % 3).toNat)).flatten (encL (timesX (mulX (firstX (csX ns))) (gdX.take (firstX (csX ns) / 4 % 3).toNat))) := by
    rw [enc_times, enc_take]
    exact all_rep (hG.take _) _
  have A3 := (A2.less (L' := L) (.cons _ (.refl _))).new m3 (.lst (List.replicate (mulX (firstX (csX ns))) ([x, y].take (firstX (csX ns) / 4 % 3).toNat)).flatten)
  clear A2
  generalize (List.replicate (mulX (firstX (csX ns))) ([x, y].take (firstX (csX ns) / 4 % 3).toNat)).flatten = X1 at *
  have hTa := Same.seqT A3.sub' hT1
  walk_at "go"
  intro y4 m4
  have A4 := A3.new m4 (.lst [va1])
  clear A3 hTa
  refine w_cat (A4.get 1 rfl) (A4.get 0 rfl) (by rw [List.length_singleton]; omega) fun y5 m5 => ?_
  have A5 := (A4.less (L' := L) (.cons _ (.cons _ (.refl _)))).new m5 (.lst (X1 ++ [va1]))
  clear A4
  have hga := Same.seqL A5.sub' hgS
  walk_at "go"
  intro y6 m6
  rw [cut_drop x y (by omega) (by omega)]
  have A6 := A5.new m6 (.lst ([x, y].drop (firstX (csX ns) / 12 % 3).toNat))
  clear A5 hga
  have hl2 : ([x, y].drop (firstX (csX ns) / 12 % 3).toNat).length ≤ 2 := by rw [List.length_drop]; exact Nat.sub_le _ _
  refine w_cat (A6.get 1 rfl) (A6.get 0 rfl) (by rw [List.length_append, List.length_singleton]; omega) fun y7 m7 => ?_
  have A7 := (A6.less (L' := L) (.cons _ (.cons _ (.refl _)))).new m7 (.lst (X1 ++ [va1] ++ [x, y].drop (firstX (csX ns) / 12 % 3).toNat))
  clear A6
  have hTa := Same.seqT A7.sub' hT2
  walk_at "go"
  intro y8 m8
  have A8 := A7.new m8 (.lst [va2])
  clear A7 hTa
  refine w_cat (A8.get 1 rfl) (A8.get 0 rfl) (by rw [List.length_append, List.length_append, List.length_singleton, List.length_singleton]; omega) fun y9 m9 => ?_
  have A9 := (A8.less (L' := L) (.cons _ (.cons _ (.refl _)))).new m9 (.lst (X1 ++ [va1] ++ [x, y].drop (firstX (csX ns) / 12 % 3).toNat ++ [va2]))
  clear A8
  have hga := Same.seqL A9.sub' hgS
  walk_at "go"
  intro y10 m10
  rw [cut_take x y (by omega) (by omega)]
  have A10 := A9.new m10 (.lst ([x, y].take (firstX (csX ns) / 36 % 2).toNat))
  clear A9 hga
  have hl3 : ([x, y].take (firstX (csX ns) / 36 % 2).toNat).length ≤ 2 := by rw [List.length_take]; exact Nat.min_le_right _ _
  refine w_cat (A10.get 1 rfl) (A10.get 0 rfl) (by rw [List.length_append, List.length_append, List.length_append, List.length_singleton, List.length_singleton]; omega) fun y11 m11 => ?_
  have hB : DpAll K R9 (X1 ++ [va1] ++ [x, y].drop (firstX (csX ns) / 12 % 3).toNat ++ [va2] ++ [x, y].take (firstX (csX ns) / 36 % 2).toNat) (encL (blockX (csX ns))) := by
    unfold blockX
    rw [encL_app, encL_app, encL_app, encL_app, enc_drop, enc_take]
    exact (((hX1.app (.cons ha1 .nil)).app (hG.drop _)).app (.cons ha2 .nil)).app (hG.take _)
  obtain ⟨R12, A12, t12, d12⟩ := lst_st (K := K) (A10.less (L' := L) (.cons _ (.cons _ (.refl _)))) m11 hB
  clear A10 hB hX1 hl1 hl2 hl3 hl0 ha1 ha2 hT1 hT2 hgS hG
  have hv1 := hv1.up t12
  have hv2 := hv2.up t12
  have hW := Same.seqL t12 hW
  have hS3 := Same.seqL t12 hS3
  have s7 := s6.trans t12
  clear s6 t12
  have hWa := Same.seqL A12.sub' hW
  have hw7 : ∀ k, 0 ≤ waysX (csX ns) k ∧ waysX (csX ns) k < 7 := fun k => by unfold waysX; omega
  walk_at "go"
  refine w_ifJ (by walk_at "set") (fun σ' H' => σ' = [some (.ref a), some (.int (firstX (csX ns))), some (.int ((cntX (csX ns) : Nat) : Int)), some (.ref p1), some (.ref p2), some (.int ((deepX (csX ns) : Nat) : Int)), some (.ref D), none, some (.ref z5), some (.ref y11), some (.str (dueS (due0X (csX ns)))), none, none, none] ∧ Sta W R0 B0 R12 H' L) (fun nx' kj => ?_) (fun σ' H' hj => ?_)
  · unfold due0X at kj
    walk_at "go"
    refine it_cases (fun c8 => ?_) fun c8 => ?_
    · rw [if_pos (by omega)] at kj
      walk_at "go"
      refine w_inL hWa rfl (flat_ints _ _) (in_ways _ hw7 _) ?_
      walk_at "go"
      refine ⟨W, R0, B0, R12, L, _, _, _, _, _, rfl, A12, hv1, fun H' A13 => ?_⟩
      have hWb := Same.seqL A13.sub' hW
      walk_at "go"
      refine w_eqS (b := decide (dueX (rowX (csX ns 1) (csX ns 2) (cntX (csX ns))) (deepX (csX ns)) (lwX (waysX (csX ns)) (deepX (csX ns))) = none)) (due_eq0 _) ?_
      walk_at "go"
      refine it_cases (fun e0 => ?_) fun e0 => ?_
      · rw [e0] at kj
        walk_at "go"
        refine w_inL hWb rfl (flat_ints _ _) (in_ways _ hw7 _) ?_
        walk_at "go"
        refine ⟨W, R0, B0, R12, L, _, _, _, _, _, rfl, A13, hv2, fun H' A14 => ?_⟩
        walk_at "go"
        exact kj _ _ ⟨rfl, A14⟩
      · walk_at "go"
        refine kj _ _ ⟨?_, A13⟩
        cases hdu : dueX (rowX (csX ns 1) (csX ns 2) (cntX (csX ns))) (deepX (csX ns)) (lwX (waysX (csX ns)) (deepX (csX ns))) with
        | none => exact absurd hdu e0
        | some k => rfl
    · rw [if_neg (by omega)] at kj
      walk_at "go"
      exact kj _ _ ⟨rfl, A12⟩
  obtain ⟨rfl, B1⟩ := hj
  clear A12 hWa
  walk_at "go"
  refine w_lpJ (by walk_at "set") (fun σ' H' => ∃ R13 vb k b, σ' = [some (.ref a), some (.int (firstX (csX ns))), some (.int ((cntX (csX ns) : Nat) : Int)), some (.ref p1), some (.ref p2), some (.int ((deepX (csX ns) : Nat) : Int)), some (.ref D), k, some (.ref z5), some vb, some (.str (dueS (due1X (csX ns)))), b, none, none] ∧ Sta W R0 B0 R13 H' L ∧ Same R12 R13 ∧ Dp K R13 vb (.list (encL (wrapX (blockX (csX ns)) (waysX (csX ns)) (badsX (csX ns)) (deepX (csX ns)))))) (fun nx' kj => ?_) (fun σ' H' hj => ?_)
  · walk_at "go"
    refine for_R1 (fun i σ' H' => ∃ R13 vb k b, σ' = [some (.ref a), some (.int (firstX (csX ns))), some (.int ((cntX (csX ns) : Nat) : Int)), some (.ref p1), some (.ref p2), some (.int ((deepX (csX ns) : Nat) : Int)), some (.ref D), k, some (.ref z5), some vb, some (.str (dueS (fst1 (due0X (csX ns)) (if bwX (waysX (csX ns)) (badsX (csX ns)) i = true then some .box else none)))), b, none, none] ∧ Sta W R0 B0 R13 H' L ∧ Same R12 R13 ∧ Dp K R13 vb (.list (encL (wrapX (blockX (csX ns)) (waysX (csX ns)) (badsX (csX ns)) i)))) (by omega) (by omega) ⟨R12, _, none, none, by rw [show bwX (waysX (csX ns)) (badsX (csX ns)) 0 = false from rfl, if_neg Bool.false_ne_true, fst1_n], B1, Same.refl _, d12⟩ (fun i σ' H' hi p => ?_) (fun σ' H' p => ?_)
    · obtain ⟨R13, vb, k, b, rfl, B2, t13, d13⟩ := p
      rw [Int.toNat_natCast] at hi
      have hSb := Same.seqL (t13.trans B2.sub') hS3
      have hWb := Same.seqL (t13.trans B2.sub') hW
      walk_at "go"
      have eb : (decide (LC.cellAt ns (14 + (0 + ((i : Nat) : Int))) % 5 = 1)) = badsX (csX ns) i := by
        unfold badsX csX
        rw [show ((14 + i : Nat) : Int) = 14 + (0 + ((i : Nat) : Int)) by omega]
      rw [eb]
      walk_at "go"
      refine w_ixLL hWb (ways_at _ hi) ?_
      walk_at "go"
      refine ⟨W, R0, B0, R13, L, _, _, _, _, rfl, B2, d13, fun R14 H4 v4 B3 t14 d14 => ?_⟩
      have hWc := Same.seqL ((t13.trans t14).trans B3.sub') hW
      walk_at "go"
      have eN : fst1 (due0X (csX ns)) (if bwX (waysX (csX ns)) (badsX (csX ns)) (i + 1) = true then some .box else none) = if fst1 (due0X (csX ns)) (if bwX (waysX (csX ns)) (badsX (csX ns)) i = true then some .box else none) = none ∧ badsX (csX ns) i = true ∧ wayB (waysX (csX ns) i) = true then some .box else fst1 (due0X (csX ns)) (if bwX (waysX (csX ns)) (badsX (csX ns)) i = true then some .box else none) := due_step _ _ _ _
      refine w_eqS (b := decide (fst1 (due0X (csX ns)) (if bwX (waysX (csX ns)) (badsX (csX ns)) i = true then some .box else none) = none)) (due_eq0 _) ?_
      walk_at "go"
      refine it_cases (fun e0 => ?_) fun e0 => ?_
      · walk_at "go"
        cases hb : badsX (csX ns) i
        · rw [hb] at d14
          walk_at "go"
          exact ⟨R14, _, _, _, by rw [eN.trans (if_neg (fun z => by rw [hb] at z; exact nomatch z.2.1))]; rfl, B3, t13.trans t14, by rw [wrapX, hb]; exact d14⟩
        · rw [hb] at d14
          walk_at "go"
          refine w_ixLL hWc (ways_at _ hi) ?_
          walk_at "go"
          intro z nz
          have B4 := B3.newX nz (.tup [V.int 0, .int 2, .int 4])
          refine w_inT (SqT.of upd_same) rfl rfl (in_024 _) ?_
          walk_at "go"
          cases hy : wayB (waysX (csX ns) i)
          · walk_at "go"
            exact ⟨R14, _, _, _, by rw [eN.trans (if_neg (fun z => by rw [hy] at z; exact nomatch z.2.2))]; rfl, B4, t13.trans t14, by rw [wrapX, hb]; exact d14⟩
          · walk_at "go"
            exact ⟨R14, _, _, _, by rw [eN.trans (if_pos ⟨e0, hb, hy⟩)]; rfl, B4, t13.trans t14, by rw [wrapX, hb]; exact d14⟩
      · walk_at "go"
        exact ⟨R14, _, _, _, by rw [eN.trans (if_neg (fun z => e0 z.1))]; rfl, B3, t13.trans t14, d14⟩
    · obtain ⟨R13, vb, k, b, rfl, B2, t13, d13⟩ := p
      rw [Int.toNat_natCast] at d13
      rw [Int.toNat_natCast]
      exact kj _ _ ⟨R13, vb, k, b, rfl, B2, t13, d13⟩
  obtain ⟨R13, vb, k, b, rfl, B2, t13, d13⟩ := hj
  clear B1 d12 hW hv1 hv2
  have s8 := s7.trans t13
  have hSb := Same.seqL t13 hS3
  clear s7 t13 hS3
  walk_at "go"
  have ea : (firstX (csX ns) / 72 % ((cntX (csX ns) : Nat) : Int)) = ((atX (csX ns) : Nat) : Int) := by
    unfold atX
    have h1 := Int.emod_nonneg (firstX (csX ns) / 72) (show ((cntX (csX ns) : Nat) : Int) ≠ 0 by omega)
    omega
  rw [ea]
  refine lc_R1 (fun D2 i H' => ∃ R14 vs, Sta W R0 B0 R14 H' ((D2, .lst vs) :: L) ∧ Same R13 R14 ∧ DpAll K R14 vs (List.replicate i (encB gvX))) (by omega) (by omega) (fun D2 n => ⟨R13, [], B2.new n _, Same.refl _, .nil⟩) (fun D2 i H3 n hi p => ?_) (fun D2 H3 n p => ?_)
  · obtain ⟨R14, vs, C1, t14, hvs⟩ := p
    rw [Int.toNat_natCast] at hi
    have hlv : vs.length = i := by rw [hvs.len, List.length_replicate]
    walk_at "go"
    intro z1 n1
    obtain ⟨R15, C2, t15, d15⟩ := tup_st (K := K) C1 n1 (.cons (.str "box") (.cons (.int 0) .nil))
    clear C1
    walk_at "go"
    intro z2 n2
    obtain ⟨R16, C3, t16, d16⟩ := tup_st (K := K) C2 n2 (.cons (.str "give") (.cons d15 .nil))
    clear C2
    walk_at "go"
    intro z3 n3
    obtain ⟨R17, C4, t17, d17⟩ := lst_st (K := K) C3 n3 (.cons d16 .nil)
    clear C3
    refine w_lcE (C4.get 0 rfl) (szlt (by omega)) ?_
    refine ⟨R17, _, C4.set 0 rfl (.lst (vs ++ [.ref z3])), t14.trans (t15.trans (t16.trans t17)), ?_⟩
    rw [List.replicate_succ']
    exact (hvs.up (t15.trans (t16.trans t17))).snoc d17
  obtain ⟨R14, vs, C1, t14, hvs⟩ := p
  rw [Int.toNat_natCast] at hvs
  have hlv : vs.length = cntX (csX ns) := by rw [hvs.len, List.length_replicate]
  have d14 := d13.up t14
  have s9 := s8.trans t14
  clear d13 s8 t14 B2 hSb
  walk_at "go"
  refine w_setL (C1.get 0 rfl) (j := atX (csX ns)) (ixN_nat' (by omega)) ?_
  have C2 := C1.set 0 rfl (.lst (vs.set (atX (csX ns)) vb))
  clear C1
  have hpg : DpAll K R14 (vs.set (atX (csX ns)) vb) ((pg0X (csX ns)).map encB) := by
    unfold pg0X
    rw [List.map_set, List.map_replicate]
    exact hvs.set d14 _
  clear hvs d14
  walk_at "go"
  refine w_ifJ (by walk_at "set") (fun σ' H' => ∃ R15 vs', σ' = [some (.ref a), some (.int (firstX (csX ns))), some (.int ((cntX (csX ns) : Nat) : Int)), some (.ref p1), some (.ref p2), some (.int ((deepX (csX ns) : Nat) : Int)), some (.ref D), k, some (.ref z5), some vb, some (.str (dueS (dueP (csX ns)))), b, some (.int ((atX (csX ns) : Nat) : Int)), some (.ref D2)] ∧ Sta W R0 B0 R15 H' ((D2, .lst vs') :: L) ∧ Same R14 R15 ∧ DpAll K R15 vs' ((pgX' (csX ns)).map encB)) (fun nx' kj => ?_) (fun σ' H' hj => ?_)
  · have nm : ∀ m : moreX (csX ns) = false, nx' [some (.ref a), some (.int (firstX (csX ns))), some (.int ((cntX (csX ns) : Nat) : Int)), some (.ref p1), some (.ref p2), some (.int ((deepX (csX ns) : Nat) : Int)), some (.ref D), k, some (.ref z5), some vb, some (.str (dueS (due1X (csX ns)))), b, some (.int ((atX (csX ns) : Nat) : Int)), some (.ref D2)] _ := fun m => kj _ _ ⟨R14, _, by unfold dueP; rw [m]; rfl, C2, Same.refl _, by unfold pgX'; rw [m]; exact hpg⟩
    walk_at "go"
    refine it_cases (fun cm => ?_) fun cm => ?_
    · walk_at "go"
      refine it_cases (fun ct => ?_) fun ct => ?_
      · have m : moreX (csX ns) = true := by
          unfold moreX
          rw [decide_eq_true cm, decide_eq_true (by omega)]
          rfl
        unfold dueP pgX' at kj
        rw [if_pos m, if_pos m] at kj
        walk_at "go"
        intro z1 n1
        obtain ⟨Q1, E1, u1, e1⟩ := tup_st (K := K) C2 n1 (.cons (.str "num") (.cons (.int 0) .nil))
        clear C2
        walk_at "go"
        intro z2 n2
        obtain ⟨Q2, E2, u2, e2⟩ := tup_st (K := K) E1 n2 (.cons (.str "say") (.cons e1 .nil))
        clear E1
        walk_at "go"
        intro z3 n3
        obtain ⟨Q3, E3, u3, e3⟩ := tup_st (K := K) E2 n3 (.cons (.str "num") (.cons (.int 0) .nil))
        clear E2
        walk_at "go"
        intro z4 n4
        obtain ⟨Q4, E4, u4, e4⟩ := tup_st (K := K) E3 n4 (.cons (.str "set") (.cons (.int 7) (.cons e3 .nil)))
        clear E3
        walk_at "go"
        intro z6 n6
        obtain ⟨Q5, E5, u5, e5⟩ := lst_st (K := K) E4 n6 (.cons (e2.up (u3.trans u4)) (.cons e4 .nil))
        clear E4
        walk_at "go"
        rw [show (((cntX (csX ns) : Nat) : Int) - 1) = ((cntX (csX ns) - 1 : Nat) : Int) by omega]
        refine w_setL (E5.get 0 rfl) (j := cntX (csX ns) - 1) (ixN_nat' (by rw [List.length_set]; omega)) ?_
        have E6 := E5.set 0 rfl (.lst ((vs.set (atX (csX ns)) vb).set (cntX (csX ns) - 1) (.ref z6)))
        clear E5
        have uu : Same R14 Q5 := u1.trans (u2.trans (u3.trans (u4.trans u5)))
        have hp2 : DpAll K Q5 ((vs.set (atX (csX ns)) vb).set (cntX (csX ns) - 1) (.ref z6)) (((pg0X (csX ns)).set (cntX (csX ns) - 1) lastX).map encB) := by
          rw [List.map_set]
          exact (hpg.up uu).set e5 _
        walk_at "go"
        refine w_eqS (b := decide (due1X (csX ns) = none)) (due_eq0 _) ?_
        walk_at "go"
        refine it_cases (fun e0 => ?_) fun e0 => ?_
        · walk_at "go"
          exact kj _ _ ⟨Q5, _, by rw [e0]; rfl, E6, uu, hp2⟩
        · walk_at "go"
          refine kj _ _ ⟨Q5, _, ?_, E6, uu, hp2⟩
          cases hd1 : due1X (csX ns) with
          | none => exact absurd hd1 e0
          | some k => rfl
      · walk_at "go"
        exact nm (by unfold moreX; rw [decide_eq_false (p := atX (csX ns) + 1 < cntX (csX ns)) (by omega), Bool.and_false])
    · walk_at "go"
      exact nm (by unfold moreX; rw [decide_eq_false cm]; rfl)
  obtain ⟨R15, vs', rfl, C3, t15, hp⟩ := hj
  clear C2 hpg
  walk_at "go"
  intro z6 n6
  have C4 := C3.frz
  have s10 : Same R15 (upd R15 D2 (.lst vs')) := same_new (C3.noR 0 rfl) _
  obtain ⟨R17, C5, t17, d17⟩ := tup_st (K := K) C4 n6 (.cons (dp_newL (ds := (pgX' (csX ns)).map encB) upd_same (hp.up s10)) (.cons (.str (dueS (dueP (csX ns)))) .nil))
  exact q _ _ _ C5 (s9.trans (t15.trans (s10.trans t17))) d17
end
end KX

namespace KX
open PySem PySem.Spec PyProof.Rows L2 U MM TR M LC
/-- what the head tells of the classes for the suite -/
structure CauF (K : PySem.W.Frag) (mg : Str → Option Value) (cl : Kl → Addr) (cM : Addr) : Prop where
  exc : ∀ k, ExcC K (cl k)
  gl : mg "MillError" = some (.ref cM)
  vg : mg "ValueError" = none
  kit : ∀ k j, PySem.W.kitOne K (.ref (cl k)) (.ref (cl j)) = some (decide (k = j))
  kv : ∀ k, PySem.W.kitOne K (.ref (cl k)) (.type "ValueError") = some true
  exm : ∀ k, PySem.W.exmOne K (.ref (cl k)) (.ref cM) = some true
def TTc (cl : Kl → Addr) : V → (XK → Hp → VK → Prop) → Hp → VK → Prop := fun v2 tl H Q => ∃ due : Str, v2 = .str due ∧ ∀ (E' : XK) (Q' : VK), (∀ k H', Q (.bl (decide (V.str (dueS (some k)) = V.str due))) H' → E' (.ref (cl k)) none H') → (∀ v H', Q (.bl (decide (V.str due = V.str ""))) H' → Q' v H') → tl E' H Q'
abbrev Ncau : List Str := ["_law_deed", "_law_due_here", "e", "_law_kinds"]
abbrev tKd (cl : Kl → Addr) (a : Addr) (cls : Value) (d : Option Addr) : TS := fun D σ H => ∃ k, (cls = .ref (cl k) ∧ d = none) ∧ ∃ v0 v3 due, σ = [v0, some (.str due), some (.ref a), v3] ∧ D.rt (.bl (decide (V.str (dueS (some k)) = V.str due))) H
theorem pss_imp {X : Cx} {t t' : TS} {ss : List Stmt} (h : PSs X ss t) (i : ∀ D σ H, t' D σ H → t D σ H) : PSs X ss t' := ⟨fun pins s σ H D I q => h.run pins s σ H D I (i _ _ _ q)⟩
section
variable {H : Hp} {Q : VK}
theorem w_addS {i j : Str} (hl : i.length + j.length ≤ sizeLine) (h : Q (.str (i ++ j)) H) : ∃ i' j', V.str i = .str i' ∧ V.str j = .str j' ∧ i'.length + j'.length ≤ sizeLine ∧ Q (.str (i' ++ j')) H := ⟨i, j, rfl, rfl, hl, h⟩
theorem w_mulB {z : Str} {b : Bool} (h : Q (.str (if b = true then z else Str.empty)) H) : rMulS (.str z) (.int (if b = true then 1 else 0)) H Q := by
  cases b
  · exact w_mulS0 h
  · exact w_mulS1 h
theorem w_isE {K : PySem.W.Frag} {D a : Addr} {c : V} {cv : Value} {b : Bool} (hc : ∀ u, RelV c u → u = cv) (e : PySem.W.kitOne K (.ref D) cv = some b) (h : Q (.bl b) H) : rIsE K D a [.ref a, c] H Q := ⟨c, cv, b, rfl, hc, e, h⟩
end
theorem cau_gives {X : Cx} {cl : Kl → Addr} {cM g : Addr} {cdg : Value} {q : Str} (B : Bi X.mg) (RC : Rfc X.K X.mg cl) (F : CauF X.K X.mg cl cM) : GivesTo2 X Ncau "_law_caught" (defScope (top 89)) g cdg (defBody (top 89)) "_law_deed" q (TTc cl) := by
  have sc : FnScope Ncau ["_law_deed", "_law_due_here"] (defScope (top 89)) := ⟨rfl, rfl, rfl, by decide +kernel, rfl, by decide +kernel, by decide +kernel⟩
  have nd := sc.nd
  intro f c' s H Q v2 tl act hco h
  obtain ⟨due, rfl, h⟩ := h
  refine ⟨_, pss_cons (ps_try_as (i := 2) (c := .ref cM) (Wout := fun _ _ _ _ => False) (tb := fun W D σ H => ∃ Ech : XK, (∀ cls d H', Ech cls d H' → W cls d (L2.start Ncau [.ref f, .str due]) H') ∧ σ = L2.start Ncau [.ref f, .str due] ∧ H c' = some (LamX.CodeO c' q) ∧ tl Ech H (fun _ H1 => D.nx σ H1)) (ts := fun a cls d => tKd cl a cls d) rfl rfl nd rfl rfl ⟨rfl, by decide, Or.inl F.gl⟩ LamX.takes0 (fun W pn xe tk _ => ?_) (fun a oe cls d pn hz hf => ?_)) (pss_one (ps_ret (pe_cmpR op_eq (pv 1) pe_str (nomark _)))), ?_⟩
  · refine ⟨fun pins s' σ H' D I h' => ?_⟩
    obtain ⟨Ech, hW, h1, h2, h3⟩ := h'
    exact (pss_one (ps_expr (act W pn xe Ech _ _ tk hW))).run pins s' σ H' D I ⟨h1, h2, h3⟩
  · refine pss_ex (p := fun k => cls = .ref (cl k) ∧ d = none) (t := fun k D σ H => ∃ v0 v3 due, σ = [v0, some (.str due), some (.ref a), v3] ∧ D.rt (.bl (decide (V.str (dueS (some k)) = V.str due))) H) (fun k hk => ?_)
    obtain ⟨rfl, rfl⟩ := hk
    refine pss_imp (pss_cons (ps_set (i := 3) nd rfl (by first | exact Or.inl rfl | exact Or.inr rfl) (pe_op op_add_str (pe_op op_mulS pe_str (pe_callTy call_intA rfl B.int (by decide +kernel) (pa_cons (pe_callB (call_isE (F.exc k) hz hf) rfl B.isinstance (by decide +kernel) (pa_cons (pv 2) (pa_cons (pe_glob (v := .ref (cl .box)) rfl (RC .box).gl rfl) pa_nil))) pa_nil))) (pe_op op_mulS pe_str (pe_callTy call_intA rfl B.int (by decide +kernel) (pa_cons (pe_callB (call_isE (F.exc k) hz hf) rfl B.isinstance (by decide +kernel) (pa_cons (pv 2) (pa_cons (pe_glob (v := .ref (cl .fn)) rfl (RC .fn).gl rfl) pa_nil))) pa_nil)))))
      (pss_cons (ps_set (i := 3) nd rfl (by first | exact Or.inl rfl | exact Or.inr rfl) (pe_op op_add_str (pe_op op_add_str (pv 3) (pe_op op_mulS pe_str (pe_callTy call_intA rfl B.int (by decide +kernel) (pa_cons (pe_callB (call_isE (F.exc k) hz hf) rfl B.isinstance (by decide +kernel) (pa_cons (pv 2) (pa_cons (pe_glob (v := .ref (cl .loop)) rfl (RC .loop).gl rfl) pa_nil))) pa_nil)))) (pe_op op_mulS pe_str (pe_callTy call_intA rfl B.int (by decide +kernel) (pa_cons (pe_callB (call_isE (F.exc k) hz hf) rfl B.isinstance (by decide +kernel) (pa_cons (pv 2) (pa_cons (pe_glob (v := .ref (cl .deep)) rfl (RC .deep).gl rfl) pa_nil))) pa_nil)))))
      (pss_one (ps_ret (pe_and (pe_cmpR op_eq (pv 3) (pv 1) (nomark _)) (pe_one (pe_callB (call_isE (F.exc k) hz hf) rfl B.isinstance (by decide +kernel) (pa_cons (pv 2) (pa_cons (pe_bltn (v := .ty "ValueError") rfl F.vg (by decide +kernel) rfl) pa_nil))))))))) (fun D σ H hh => ?_)
    obtain ⟨v0, v3, due, rfl, q⟩ := hh
    walk_at "go"
    refine w_isE (fun u r => r) (F.kit k .box) ?_
    walk_at "go"
    refine w_mulB ?_
    walk_at "go"
    refine w_isE (fun u r => r) (F.kit k .fn) ?_
    walk_at "go"
    refine w_mulB ?_
    refine ⟨_, _, rfl, rfl, ?_, ?_⟩
    · cases k <;> decide +kernel
    walk_at "go"
    refine w_isE (fun u r => r) (F.kit k .loop) ?_
    walk_at "go"
    refine w_mulB ?_
    refine ⟨_, _, rfl, rfl, ?_, ?_⟩
    · cases k <;> decide +kernel
    walk_at "go"
    refine w_isE (fun u r => r) (F.kit k .deep) ?_
    walk_at "go"
    refine w_mulB ?_
    refine ⟨_, _, rfl, rfl, ?_, ?_⟩
    · cases k <;> decide +kernel
    walk_at "go"
    by_cases hb : V.str (dueS (some k)) = V.str due
    · rw [decide_eq_true hb] at q
      refine w_eqS (b := true) (Eq.trans (b := decide (V.str (dueS (some k)) = V.str due)) (by cases k <;> rfl) (decide_eq_true hb)) ?_
      walk_at "go"
      refine w_isE (fun u r => r) (F.kv k) ?_
      exact q
    · rw [decide_eq_false hb] at q
      refine w_eqS (b := false) (Eq.trans (b := decide (V.str (dueS (some k)) = V.str due)) (by cases k <;> rfl) (decide_eq_false hb)) ?_
      walk_at "go"
      exact q
  · unfold tSeq
    dsimp only
    refine ⟨fun cls d H' => ∃ k, cls = .ref (cl k) ∧ d = none ∧ Q (.bl (decide (V.str (dueS (some k)) = V.str due))) H', fun cls d H' hk => ?_, rfl, hco, h _ _ (fun k H' hq => ⟨k, rfl, rfl, hq⟩) (fun v H' hq => ?_)⟩
    · obtain ⟨k, rfl, rfl, hq⟩ := hk
      refine ⟨true, F.exm k, fun _ a na => ?_, fun z => nomatch z⟩
      show ∃ j, (Value.ref (cl k) = .ref (cl j) ∧ (none : Option Addr) = none) ∧ ∃ v0 v3 due', (L2.start Ncau [V.ref f, V.str due]).set 2 (some (.ref a)) = [v0, some (.str due'), some (.ref a), v3] ∧ Q (.bl (decide (V.str (dueS (some j)) = V.str due'))) H'
      exact ⟨k, ⟨rfl, rfl⟩, _, _, due, rfl, hq⟩
    · show tRet (tOp rEq (tVar 1) (tC (V.str (Str.ofString "")))) { nx := fun x H' => Q V.non H', rt := Q } (L2.start Ncau [V.ref f, V.str due]) H'
      refine ⟨_, rfl, rfl, hq⟩
end KX

namespace KX
open PySem PySem.Spec PyProof.Rows L2 U MM TR M LC
local macro_rules | `(tactic| walk_at "own1") => `(tactic| first
  | ((with_reducible refine LC.w_cell (ns := ?wcn) ?wcs ?wck ?_); (case wcs => walk_at "sq"); (case wck => first | decide | omega))
  | walk_at "own2")
/-! ### what stays when only tables grow -/
section
variable {K : PySem.W.Frag} {H H' : Hp}
theorem ext_seqL {a : Addr} {xs : List V} (e : LamX.ExtN H H') (h : SqL K H a xs) : SqL K H' a xs := by
  rcases h with (h | ⟨o, h⟩) | h
  · exact .inl (.inl (e _ _ h fun ps z => nomatch z))
  · exact .inl (.inr ⟨o, e _ _ h fun ps z => nomatch z⟩)
  · exact .inr h
theorem ext_seqT {a : Addr} {xs : List V} (e : LamX.ExtN H H') (h : SqT K H a xs) : SqT K H' a xs := by
  rcases h with (h | ⟨o, h⟩) | h
  · exact .inl (.inl (e _ _ h fun ps z => nomatch z))
  · exact .inl (.inr ⟨o, e _ _ h fun ps z => nomatch z⟩)
  · exact .inr h
mutual
theorem ext_dp (e : LamX.ExtN H H') : ∀ (d : PyData) (v : V), Dp K H v d → Dp K H' v d
  | .none, _, h => by cases h; exact .non
  | .bool b, _, h => by cases h; exact .bl b
  | .int i, _, h => by cases h; exact .int i
  | .str x, _, h => by cases h; exact .str x
  | .list ds, _, h => by
    cases h with
    | lst hs ha => exact .lst (ext_seqL e hs) (ext_all e ds _ ha)
  | .tuple ds, _, h => by
    cases h with
    | tup hs ha => exact .tup (ext_seqT e hs) (ext_all e ds _ ha)
  | .dict _, _, h => by cases h
theorem ext_all (e : LamX.ExtN H H') : ∀ (ds : List PyData) (vs : List V), DpAll K H vs ds → DpAll K H' vs ds
  | [], _, h => by cases h; exact .nil
  | d :: ds, _, h => by
    cases h with
    | cons h1 h2 => exact .cons (ext_dp e d _ h1) (ext_all e ds _ h2)
end
end
/-! ### a lambda handed to _law_caught -/
theorem pe_cau {X : Cx} {cl : Kl → Addr} {cM c Pt : Addr} {k i : Nat} {y : Str} {params : Arguments} {body : Expr} {scope : Scope} {t : XK → TE} {p lpos pos p2 : Pos} (B : Bi X.mg) (RC : Rfc X.K X.mg cl) (F : CauF X.K X.mg cl cM) (D : Df X.K X.mg "_law_caught" (top 89))
    (hg : Gl X "_law_caught") (TB : LamX.TabB X.base X.mg c Pt) (hcode : X.env.code = .ref c) (hr : Room (k + 2) X.A) (L : LamX.LamS X.env.scope scope) (hdef : defaultsOf params X.env = ([], []))
    (hbi : ∀ (q : Str) (cs : List (Str × Addr)) (pm cv ctw : Value), bindArgs (PySem.W.kla_fn "<lambda>" q params body scope cs pm cv ctw) ⟨[], []⟩ = pure [])
    (hbody : ∀ (A : Around) (outer : List Env) (s : Shared) (H : Hp) (E : XK) (f c' : Addr), Room k (A.deeper (LamX.lamEnv X scope s.heap.objs.size f c')) → PE (LamX.lamCx X A outer s H E scope f c') body (t E))
    (hN2 : X.N[i]? = some y) (hv2 : Vis X.env.scope y) (hd2 : (y == ("__debug__" : Str)) = false := by decide) (hcd2 : (y == ("__classdict__" : Str)) = false := by decide) :
    PE X (.Call (.Name "_law_caught" p) [.Lambda params body scope lpos, .Name y p2] [] pos) (tLam2 [(Pt, X.env.qual ++ "<lambda>")] (TTc cl) t i) := by
  obtain ⟨g, fd, FD, hm⟩ := D.ex
  have hd : dnm (top 89) = ("_law_caught" : Str) := by rfl
  rw [hd] at FD
  have kp := FD.kp
  have hb := FD.bindsN (ps := ["_law_deed", "_law_due_here"]) (fun _ _ _ _ _ _ us hl => match us, hl with | [_, _], _ => rfl)
  obtain ⟨oc, od, dV, kV, doc, pm, an, cdv, ct, osl, rfl, lk, hcd, hD, hK⟩ := FD.ex
  have sc : FnScope Ncau ["_law_deed", "_law_due_here"] (defScope (top 89)) := ⟨rfl, rfl, rfl, by decide +kernel, rfl, by decide +kernel, by decide +kernel⟩
  exact pe_lamcall2 (T := [(Pt, X.env.qual ++ "<lambda>")]) (TT := TTc cl) (a := "_law_deed") (a2 := "_law_due_here") (Ng := Ncau) hg hm kp lk hcd hb sc rfl (Or.inl rfl) (fun _ _ => rfl) (cau_gives B RC F) TB hcode List.mem_cons_self (fun p hp _ => by rw [List.mem_singleton.mp hp]) hr L hdef hbi hbody hN2 hv2 (by decide) (by decide) (by decide) hd2 hcd2
/-! ### the law -/
def pgL (ns : List Int) : Pg := if LC.cellAt ns 5 / 9 % 13 = 5 then [] else pgX' (csX ns)
theorem eqv_emp {pg : Pg} (h : pg ≠ []) : PyData.eqv (encP pg) (.list []) = false := by
  unfold encP
  rw [eqv_nil]
  cases pg with
  | nil => exact absurd rfl h
  | cons _ _ => rfl
theorem pgL_shaped (ns : List Int) : SeqAt.shaped (encP (pgL ns)) = true := by
  unfold pgL
  split
  · decide +kernel
  · exact pgX_shaped _
def spLG (K : PySem.W.Frag) (Pt : Addr) : Sp := fun vs H Q _ => ∃ (a : Addr) (ns : List Int), vs = [.ref a] ∧ SqL K H a (ns.map V.int) ∧ H Pt = some (.tbl #[]) ∧ chP (pgL ns) = none ∧ ∀ H', Q (.bl true) H'
def spLB (K : PySem.W.Frag) (Pt : Addr) (k : Kl) : Sp := fun vs H Q _ => ∃ (a : Addr) (ns : List Int), vs = [.ref a] ∧ SqL K H a (ns.map V.int) ∧ H Pt = some (.tbl #[]) ∧ chP (pgL ns) = some k ∧ ∀ H', Q (.bl true) H'
section
variable {P : Program} {w : World} {K : PySem.W.Frag} {mg : Str → Option Value} {base : Heap} {cl : Kl → Addr} {cM cc Pt : Addr}
theorem ok_good (TB : LamX.TabB base mg cc Pt) (B : Bi mg) (RC : Rfc K mg cl) (FC : CauF K mg cl cM) (DC : Df K mg "_law_caught" (top 89)) (c__law_program : Ca P w K mg base CX0 4 "_law_program" (spPgX K)) (c__law_cell_at : Ca P w K mg base CX0 1 "_law_cell_at" (spCel K))
    (g_BOXES : ∃ t, mg "BOXES" = some (.int 4 t)) (g_MOST_BLOCKS : ∃ t, mg "MOST_BLOCKS" = some (.int 8 t)) (g_MOST_PARTS : ∃ t, mg "MOST_PARTS" = some (.int 6 t))
    (c_checked : Ca P w K mg base CX0 40 "checked" (CM.spChk K CK.GdP)) (c_lam2 : Ca P w K mg base CX0 41 "made" (CM.spMade K CK.GdP)) (c_lam3 : Ca P w K mg base CX0 226 "told" (TT.spTold K)) : ∀ f fd, LawF K (top 92) f fd → fd.code = .ref cc → FnOk P w K mg base CX0 229 f fd ["_law_script"] (spLG K Pt) := by
  have c_lam1 := c_checked
  have sc : FnScope ["_law_script", "_law_found", "_law_program_here", "_law_due_here"] ["_law_script"] (defScope (top 92)) := ⟨rfl, rfl, rfl, by decide +kernel, rfl, by decide +kernel, by decide +kernel⟩
  have nd := sc.nd
  refine law1 sc (fun vs H Q E h => by obtain ⟨_, _, rfl, _⟩ := h; rfl) (fun f A outer s H vs Q E hr h => ?_)
  obtain ⟨a, ns, rfl, hS, hP, hk, q⟩ := h
  refine ⟨_, (pss_cons (ps_set (i := 1) nd rfl (by first | exact Or.inl rfl | exact Or.inr rfl) (pe_ca c__law_program hr (by omega) rfl pass0 (pa_cons (pv 0) pa_nil)))
    (pss_cons (ps_set (i := 2) nd rfl (by first | exact Or.inl rfl | exact Or.inr rfl) (pe_ix ix_lt (pv 1) pe_int (fun _ _ => rfl)))
    (pss_cons (ps_set (i := 3) nd rfl (by first | exact Or.inl rfl | exact Or.inr rfl) (pe_ix ix_lt (pv 1) pe_int (fun _ _ => rfl)))
    (pss_cons (ps_if (pt_cmpR op_eq (pe_op op_mod (pe_op op_fdiv (pe_ca c__law_cell_at hr (by omega) rfl pass0 (pa_cons (pv 0) (pa_cons pe_int pa_nil))) pe_int) pe_int) pe_int (nomark _)) (pss_cons (ps_set (i := 2) nd rfl (by first | exact Or.inl rfl | exact Or.inr rfl) (pe_lst pa_nil))
    (pss_one (ps_set (i := 3) nd rfl (by first | exact Or.inl rfl | exact Or.inr rfl) pe_str))) pss_nil)
    (pss_cons (ps_if (PW.pt (pw_or (pt_cmpR op_ne (pe_gi rfl g_BOXES) pe_int (nomark _)) (pw_or (pt_cmpR op_ne (pe_gi rfl g_MOST_BLOCKS) pe_int (nomark _)) (pw_or1 (pt_cmpR op_ne (pe_gi rfl g_MOST_PARTS) pe_int (nomark _)))))) (pss_one (ps_ret pe_bl)) pss_nil)
    (pss_cons (ps_if (PW.pt (pw_and (pt_cmpR op_eq (pv 3) pe_str (nomark _)) (pw_and1 (pt_cmpR op_notNo (pe_ca c_checked hr (by omega) rfl pass0 (pa_cons (pv 2) pa_nil)) pe_non (nomark _))))) (pss_one (ps_ret pe_bl)) pss_nil)
    (pss_cons (ps_if (pt_not (pt_val (pe_cau (k := 226) (i := 3) B RC FC DC rfl TB rfl (hr.mono (by omega)) (LamX.lamS_by (by rfl)) (by rfl) (fun _ _ _ _ _ => rfl) (fun A outer s H E f c' hr2 => pe_ca c_lam1 hr2 (by omega) rfl (by first | exact pass0 | exact passes_call (takes_of rfl rfl rfl rfl) (fun _ _ _ _ h => h)) (pa_cons (pe_var (i := 2) rfl (Or.inr (Or.inr rfl))) pa_nil)) rfl (Or.inl rfl)))) (pss_one (ps_ret pe_bl)) pss_nil)
    (pss_cons (ps_if (pt_not (pt_val (pe_cau (k := 226) (i := 3) B RC FC DC rfl TB rfl (hr.mono (by omega)) (LamX.lamS_by (by rfl)) (by rfl) (fun _ _ _ _ _ => rfl) (fun A outer s H E f c' hr2 => pe_ca c_lam2 hr2 (by omega) rfl (by first | exact pass0 | exact passes_call (takes_of rfl rfl rfl rfl) (fun _ _ _ _ h => h)) (pa_cons (pe_var (i := 2) rfl (Or.inr (Or.inr rfl))) pa_nil)) rfl (Or.inl rfl)))) (pss_one (ps_ret pe_bl)) pss_nil)
    (pss_one (ps_ret (pe_and (pe_cau (k := 226) (i := 3) B RC FC DC rfl TB rfl (hr.mono (by omega)) (LamX.lamS_by (by rfl)) (by rfl) (fun _ _ _ _ _ => rfl) (fun A outer s H E f c' hr2 => pe_ca c_lam3 hr2 (by omega) rfl (by first | exact pass0 | exact passes_call (takes_of rfl rfl rfl rfl) (fun _ _ _ _ h => h)) (pa_cons (pe_var (i := 2) rfl (Or.inr (Or.inr rfl))) (pa_cons pe_int (pa_cons pe_int pa_nil)))) rfl (Or.inl rfl)) (pe_one (pe_or (pe_cmpR (op_eqD hr.units) (pv 2) (pe_lst pa_nil) (nomark _)) (pe_one (pe_cmpR (op_eqD hr.units) (pv 2) (pe_ix ix_lt (pe_ca c__law_program hr (by omega) rfl pass0 (pa_cons (pv 0) pa_nil)) pe_int (fun _ _ => rfl)) (nomark _)))))))))))))))), ?_⟩
  refine U.w_start (σ' := [some _, none, none, none]) rfl ?_
  walk_at "st"
  have n5 : ¬ LC.cellAt ns 5 / 9 % 13 = 5 := fun z => by
    unfold pgL at hk
    rw [if_pos z] at hk
    cases hk
  unfold pgL at hk
  rw [if_neg n5] at hk
  have hdu : dueP (csX ns) = none := by rw [← prog_ch]; exact hk
  have gd : CK.GdP (pgX' (csX ns)) := chP_ok hk
  have S0 : Sta [] H H H H [] := Sta.start (Same.refl H)
  walk_at "go"
  refine ⟨[], H, H, H, [], a, ns, rfl, S0, hS, fun R1 H1 v1 S1 s1 h1 => ?_⟩
  have T1 : ∀ q, LamX.Tabs [(Pt, q)] H1 := fun q p hp => by rw [List.mem_singleton.mp hp]; exact LamX.TabS.nil (S1.old _ _ hP)
  rw [hdu] at h1
  obtain ⟨p, va, vb, rfl, hT, hv, hb⟩ := dp_tup2 h1
  cases dp_str hb
  have hT1 := Same.seqT S1.sub' hT
  have hs1 := Same.seqL S1.old hS
  walk_at "go"
  walk_at "if"
  refine it_cases (fun z => absurd z n5) fun _ => ?_
  walk_at "go"
  walk_at "if"
  rw [show (!decide ((4 : Int) = 4)) = false from rfl]
  walk_at "go"
  rw [show (!decide ((8 : Int) = 8)) = false from rfl]
  walk_at "go"
  rw [show (!decide ((6 : Int) = 6)) = false from rfl]
  walk_at "go"
  walk_at "if"
  refine w_eqS (b := true) (by decide) ?_
  walk_at "go"
  refine ⟨[], H, H, R1, [], _, _, rfl, gd, S1, hv, fun R2 H2 S2 s2 => ?_⟩
  walk_at "go"
  walk_at "if"
  have dv2 := (hv.up s2).up S2.sub'
  have hs2 := Same.seqL S2.old hS
  have T2 : ∀ q, LamX.Tabs [(Pt, q)] H2 := fun q p hp => by rw [List.mem_singleton.mp hp]; exact LamX.TabS.nil (S2.old _ _ hP)
  clear S1 S2 hs1 hT1 T1 hS S0
  refine ⟨.str (dueS none), rfl, T2 _, fun H3 e3 T3 => ?_⟩
  have dv3 := ext_dp e3 _ _ dv2
  have hs3 := ext_seqL e3 hs2
  refine ⟨dueS none, rfl, fun E1 Q1 hE1 hQ1 => ?_⟩
  walk_at "go"
  refine ⟨[], H3, H3, H3, [], _, _, rfl, gd, Sta.start (Same.refl H3), dv3, fun R4 H4 S4 s4 => hQ1 _ _ ?_⟩
  have dv4 := (dv3.up s4).up S4.sub'
  have hs4 := Same.seqL S4.old hs3
  have T4 := LamX.Tabs.ext T3 S4.old
  clear S4 s4 hE1 hQ1
  rw [show decide (V.str (dueS none) = V.str "") = true from by decide]
  refine ⟨true, rfl, ?_⟩
  walk_at "go"
  walk_at "if"
  refine ⟨.str (dueS none), rfl, T4, fun H5 e5 T5 => ?_⟩
  have dv5 := ext_dp e5 _ _ dv4
  have hs5 := ext_seqL e5 hs4
  refine ⟨dueS none, rfl, fun E1 Q1 hE1 hQ1 => ?_⟩
  walk_at "go"
  refine ⟨[], H5, H5, H5, [], _, _, rfl, gd, Sta.start (Same.refl H5), dv5, fun b hb => (gd.2 b hb).1, pgX_szP _, by rw [pg_len]; have := (cnt_bd (csX ns)).2; omega, (codeC_D fun b hb => (gd.2 b hb).1).2, fun R6 H6 p6 S6 s6 _ => hQ1 _ _ ?_⟩
  have dv6 := (dv5.up s6).up S6.sub'
  have hs6 := Same.seqL S6.old hs5
  have T6 := LamX.Tabs.ext T5 S6.old
  clear S6 s6 hE1 hQ1
  rw [show decide (V.str (dueS none) = V.str "") = true from by decide]
  refine ⟨true, rfl, ?_⟩
  walk_at "go"
  refine ⟨.str (dueS none), rfl, T6, fun H7 e7 T7 => ?_⟩
  have dv7 := ext_dp e7 _ _ dv6
  have hs7 := ext_seqL e7 hs6
  refine ⟨dueS none, rfl, fun E1 Q1 hE1 hQ1 => ?_⟩
  walk_at "go"
  refine ⟨[], H7, H7, H7, [], _, 728, _, 0, 3, rfl, gd, pgX_sz _, by decide, Sta.start (Same.refl H7), dv7, fun R8 H8 p8 S8 s8 _ => hQ1 _ _ ?_⟩
  have dv8 := (dv7.up s8).up S8.sub'
  have hs8 := Same.seqL S8.old hs7
  clear S8 s8 hE1 hQ1
  rw [show decide (V.str (dueS none) = V.str "") = true from by decide]
  walk_at "go"
  intro z nz
  have dv9 := dv8.up (same_new nz (.lst []))
  have hs9 := Same.seqL (same_new nz (.lst [])) hs8
  refine w_eqDD (d := encP (pgX' (csX ns))) (e := .list []) dv9 (dp_newL upd_same .nil) (pgX_shaped _) shaped_nil ?_
  rw [eqv_emp gd.1]
  generalize upd H8 z (.lst []) = H9 at *
  refine ⟨false, rfl, ?_⟩
  rw [if_neg Bool.false_ne_true]
  walk_at "go"
  refine ⟨[], H9, H9, H9, [], a, ns, rfl, Sta.start (Same.refl H9), hs9, fun R10 H10 v10 S10 s10 h10 => ?_⟩
  obtain ⟨p10, va10, vb10, rfl, hT10, hv10, -⟩ := dp_tup2 h10
  have hT := Same.seqT S10.sub' hT10
  walk_at "go"
  exact w_eqD ((dv9.up s10).up S10.sub') (hv10.up S10.sub') (pgX_shaped _) (q _)
theorem ok_bad (k : Kl) (TB : LamX.TabB base mg cc Pt) (B : Bi mg) (RC : Rfc K mg cl) (FC : CauF K mg cl cM) (DC : Df K mg "_law_caught" (top 89)) (c__law_program : Ca P w K mg base CX0 4 "_law_program" (spPgX K)) (c__law_cell_at : Ca P w K mg base CX0 1 "_law_cell_at" (spCel K))
    (g_BOXES : ∃ t, mg "BOXES" = some (.int 4 t)) (g_MOST_BLOCKS : ∃ t, mg "MOST_BLOCKS" = some (.int 8 t)) (g_MOST_PARTS : ∃ t, mg "MOST_PARTS" = some (.int 6 t))
    (c_checked : Ca P w K mg base CX0 40 "checked" (CM.spChk K CK.GdP)) (c_lam1 : Ca P w K mg base (L2.CX P w) 40 "checked" (CX6.spXP K cl)) (c_lam2 : Ca P w K mg base (L2.CX P w) 41 "made" (CX6.spMadeB K cl k)) (c_lam3 : Ca P w K mg base (L2.CX P w) 226 "told" (CX6.spToldB K cl k)) : ∀ f fd, LawF K (top 92) f fd → fd.code = .ref cc → FnOk P w K mg base CX0 229 f fd ["_law_script"] (spLB K Pt k) := by
  have sc : FnScope ["_law_script", "_law_found", "_law_program_here", "_law_due_here"] ["_law_script"] (defScope (top 92)) := ⟨rfl, rfl, rfl, by decide +kernel, rfl, by decide +kernel, by decide +kernel⟩
  have nd := sc.nd
  refine law1 sc (fun vs H Q E h => by obtain ⟨_, _, rfl, _⟩ := h; rfl) (fun f A outer s H vs Q E hr h => ?_)
  obtain ⟨a, ns, rfl, hS, hP, hk, q⟩ := h
  refine ⟨_, (pss_cons (ps_set (i := 1) nd rfl (by first | exact Or.inl rfl | exact Or.inr rfl) (pe_ca c__law_program hr (by omega) rfl pass0 (pa_cons (pv 0) pa_nil)))
    (pss_cons (ps_set (i := 2) nd rfl (by first | exact Or.inl rfl | exact Or.inr rfl) (pe_ix ix_lt (pv 1) pe_int (fun _ _ => rfl)))
    (pss_cons (ps_set (i := 3) nd rfl (by first | exact Or.inl rfl | exact Or.inr rfl) (pe_ix ix_lt (pv 1) pe_int (fun _ _ => rfl)))
    (pss_cons (ps_if (pt_cmpR op_eq (pe_op op_mod (pe_op op_fdiv (pe_ca c__law_cell_at hr (by omega) rfl pass0 (pa_cons (pv 0) (pa_cons pe_int pa_nil))) pe_int) pe_int) pe_int (nomark _)) (pss_cons (ps_set (i := 2) nd rfl (by first | exact Or.inl rfl | exact Or.inr rfl) (pe_lst pa_nil))
    (pss_one (ps_set (i := 3) nd rfl (by first | exact Or.inl rfl | exact Or.inr rfl) pe_str))) pss_nil)
    (pss_cons (ps_if (PW.pt (pw_or (pt_cmpR op_ne (pe_gi rfl g_BOXES) pe_int (nomark _)) (pw_or (pt_cmpR op_ne (pe_gi rfl g_MOST_BLOCKS) pe_int (nomark _)) (pw_or1 (pt_cmpR op_ne (pe_gi rfl g_MOST_PARTS) pe_int (nomark _)))))) (pss_one (ps_ret pe_bl)) pss_nil)
    (pss_cons (ps_if (PW.pt (pw_and (pt_cmpR op_eq (pv 3) pe_str (nomark _)) (pw_and1 (pt_cmpR op_notNo (pe_ca c_checked hr (by omega) rfl pass0 (pa_cons (pv 2) pa_nil)) pe_non (nomark _))))) (pss_one (ps_ret pe_bl)) pss_nil)
    (pss_cons (ps_if (pt_not (pt_val (pe_cau (k := 226) (i := 3) B RC FC DC rfl TB rfl (hr.mono (by omega)) (LamX.lamS_by (by rfl)) (by rfl) (fun _ _ _ _ _ => rfl) (fun A outer s H E f c' hr2 => pe_ca c_lam1 hr2 (by omega) rfl (by first | exact pass0 | exact passes_call (takes_of rfl rfl rfl rfl) (fun _ _ _ _ h => h)) (pa_cons (pe_var (i := 2) rfl (Or.inr (Or.inr rfl))) pa_nil)) rfl (Or.inl rfl)))) (pss_one (ps_ret pe_bl)) pss_nil)
    (pss_cons (ps_if (pt_not (pt_val (pe_cau (k := 226) (i := 3) B RC FC DC rfl TB rfl (hr.mono (by omega)) (LamX.lamS_by (by rfl)) (by rfl) (fun _ _ _ _ _ => rfl) (fun A outer s H E f c' hr2 => pe_ca c_lam2 hr2 (by omega) rfl (by first | exact pass0 | exact passes_call (takes_of rfl rfl rfl rfl) (fun _ _ _ _ h => h)) (pa_cons (pe_var (i := 2) rfl (Or.inr (Or.inr rfl))) pa_nil)) rfl (Or.inl rfl)))) (pss_one (ps_ret pe_bl)) pss_nil)
    (pss_one (ps_ret (pe_and (pe_cau (k := 226) (i := 3) B RC FC DC rfl TB rfl (hr.mono (by omega)) (LamX.lamS_by (by rfl)) (by rfl) (fun _ _ _ _ _ => rfl) (fun A outer s H E f c' hr2 => pe_ca c_lam3 hr2 (by omega) rfl (by first | exact pass0 | exact passes_call (takes_of rfl rfl rfl rfl) (fun _ _ _ _ h => h)) (pa_cons (pe_var (i := 2) rfl (Or.inr (Or.inr rfl))) (pa_cons pe_int (pa_cons pe_int pa_nil)))) rfl (Or.inl rfl)) (pe_one (pe_or (pe_cmpR (op_eqD hr.units) (pv 2) (pe_lst pa_nil) (nomark _)) (pe_one (pe_cmpR (op_eqD hr.units) (pv 2) (pe_ix ix_lt (pe_ca c__law_program hr (by omega) rfl pass0 (pa_cons (pv 0) pa_nil)) pe_int (fun _ _ => rfl)) (nomark _)))))))))))))))), ?_⟩
  refine U.w_start (σ' := [some _, none, none, none]) rfl ?_
  walk_at "st"
  have S0 : Sta [] H H H H [] := Sta.start (Same.refl H)
  walk_at "go"
  refine ⟨[], H, H, H, [], a, ns, rfl, S0, hS, fun R1 H1 v1 S1 s1 h1 => ?_⟩
  obtain ⟨p, va, vb, rfl, hT, hv, hb⟩ := dp_tup2 h1
  cases dp_str hb
  have hT1 := Same.seqT S1.sub' hT
  have hs1 := Same.seqL S1.old hS
  walk_at "go"
  refine w_ifJ (by walk_at "set") (fun σ' H' => ∃ va R2, σ' = [some (.ref a), some (.ref p), some va, some (.str (dueS (some k)))] ∧ Sta [] H H R2 H' [] ∧ Dp K R2 va (encP (pgL ns))) (fun nx' kj => ?_) (fun σ' H' hj => ?_)
  · walk_at "go"
    refine it_cases (fun c5 => ?_) fun c5 => ?_
    · unfold pgL at hk kj
      rw [if_pos c5] at hk
      cases hk
      walk_at "go"
      intro z nz
      obtain ⟨R2, S2, s2, d2⟩ := lst_st (K := K) S1 nz .nil
      walk_at "go"
      exact kj _ _ ⟨_, R2, rfl, S2, by rw [if_pos c5]; exact d2⟩
    · unfold pgL at hk kj
      rw [if_neg c5] at hk
      have hdu : dueP (csX ns) = some k := by rw [← prog_ch]; exact hk
      walk_at "go"
      exact kj _ _ ⟨va, R1, by rw [hdu], S1, by rw [if_neg c5]; exact hv⟩
  obtain ⟨va, R2, rfl, S2, hv⟩ := hj
  clear S1 hT1 hs1 h1 s1 hT
  walk_at "go"
  walk_at "if"
  rw [show (!decide ((4 : Int) = 4)) = false from rfl]
  walk_at "go"
  rw [show (!decide ((8 : Int) = 8)) = false from rfl]
  walk_at "go"
  rw [show (!decide ((6 : Int) = 6)) = false from rfl]
  walk_at "go"
  walk_at "if"
  refine w_eqS (b := false) (by cases k <;> decide) ?_
  walk_at "go"
  walk_at "if"
  have ek : decide (V.str (dueS (some k)) = V.str (dueS (some k))) = true := decide_eq_true rfl
  have dv2 := hv.up S2.sub'
  have hs2 := Same.seqL S2.old hS
  have T2 : ∀ q, LamX.Tabs [(Pt, q)] H' := fun q p hp => by rw [List.mem_singleton.mp hp]; exact LamX.TabS.nil (S2.old _ _ hP)
  clear S2 hS S0
  refine ⟨.str (dueS (some k)), rfl, T2 _, fun H3 e3 T3 => ?_⟩
  have dv3 := ext_dp e3 _ _ dv2
  have hs3 := ext_seqL e3 hs2
  refine ⟨dueS (some k), rfl, fun E1 Q1 hE1 hQ1 => ?_⟩
  walk_at "go"
  refine ⟨[], H3, H3, H3, [], _, _, rfl, Sta.start (Same.refl H3), dv3, ?_⟩
  rw [hk]
  refine fun R4 H4 S4 s4 => hE1 k _ ?_
  have dv4 := (dv3.up s4).up S4.sub'
  have hs4 := Same.seqL S4.old hs3
  have T4 := LamX.Tabs.ext T3 S4.old
  clear S4 s4 hE1 hQ1
  rw [ek]
  refine ⟨true, rfl, ?_⟩
  walk_at "go"
  walk_at "if"
  refine ⟨.str (dueS (some k)), rfl, T4, fun H5 e5 T5 => ?_⟩
  have dv5 := ext_dp e5 _ _ dv4
  have hs5 := ext_seqL e5 hs4
  refine ⟨dueS (some k), rfl, fun E1 Q1 hE1 hQ1 => ?_⟩
  walk_at "go"
  refine ⟨[], H5, H5, H5, [], _, _, rfl, hk, Sta.start (Same.refl H5), dv5, fun R6 H6 S6 s6 => hE1 k _ ?_⟩
  have dv6 := (dv5.up s6).up S6.sub'
  have hs6 := Same.seqL S6.old hs5
  have T6 := LamX.Tabs.ext T5 S6.old
  clear S6 s6 hE1 hQ1
  rw [ek]
  refine ⟨true, rfl, ?_⟩
  walk_at "go"
  refine ⟨.str (dueS (some k)), rfl, T6, fun H7 e7 T7 => ?_⟩
  have dv7 := ext_dp e7 _ _ dv6
  have hs7 := ext_seqL e7 hs6
  refine ⟨dueS (some k), rfl, fun E1 Q1 hE1 hQ1 => ?_⟩
  walk_at "go"
  refine ⟨[], H7, H7, H7, [], _, _, 0, 3, rfl, hk, Sta.start (Same.refl H7), dv7, fun R8 H8 S8 s8 => hE1 k _ ?_⟩
  have dv8 := (dv7.up s8).up S8.sub'
  have hs8 := Same.seqL S8.old hs7
  clear S8 s8 hE1 hQ1
  rw [ek]
  walk_at "go"
  intro z nz
  have dv9 := dv8.up (same_new nz (.lst []))
  have hs9 := Same.seqL (same_new nz (.lst [])) hs8
  refine w_eqDD (d := encP (pgL ns)) (e := .list []) dv9 (dp_newL upd_same .nil) (pgL_shaped _) shaped_nil ?_
  generalize upd H8 z (.lst []) = H9 at *
  unfold pgL at hk dv9 ⊢
  by_cases c5 : LC.cellAt ns 5 / 9 % 13 = 5
  · rw [if_pos c5, show PyData.eqv (encP []) (.list []) = true from by decide +kernel]
    refine ⟨true, rfl, ?_⟩
    rw [if_pos rfl]
    exact q _
  · rw [if_neg c5] at hk dv9 ⊢
    have ne : pgX' (csX ns) ≠ [] := fun z => by
      have h := pg_len (csX ns)
      have h2 := (cnt_bd (csX ns)).1
      rw [z] at h
      simp at h
      omega
    rw [eqv_emp ne]
    refine ⟨false, rfl, ?_⟩
    rw [if_neg Bool.false_ne_true]
    walk_at "go"
    refine ⟨[], H9, H9, H9, [], a, ns, rfl, Sta.start (Same.refl H9), hs9, fun R10 H10 v10 S10 s10 h10 => ?_⟩
    obtain ⟨p10, va10, vb10, rfl, hT10, hv10, -⟩ := dp_tup2 h10
    have hT := Same.seqT S10.sub' hT10
    walk_at "go"
    exact w_eqD ((dv9.up s10).up S10.sub') (hv10.up S10.sub') (pgX_shaped _) (q _)
/-- both together -/
theorem ok_law (TB : LamX.TabB base mg cc Pt) (B : Bi mg) (RC : Rfc K mg cl) (FC : CauF K mg cl cM) (DC : Df K mg "_law_caught" (top 89)) (c1 : Ca P w K mg base CX0 4 "_law_program" (spPgX K)) (c2 : Ca P w K mg base CX0 1 "_law_cell_at" (spCel K))
    (g1 : ∃ t, mg "BOXES" = some (.int 4 t)) (g2 : ∃ t, mg "MOST_BLOCKS" = some (.int 8 t)) (g3 : ∃ t, mg "MOST_PARTS" = some (.int 6 t))
    (k1 : Ca P w K mg base CX0 40 "checked" (CM.spChk K CK.GdP)) (k2 : Ca P w K mg base CX0 41 "made" (CM.spMade K CK.GdP)) (k3 : Ca P w K mg base CX0 226 "told" (TT.spTold K))
    (x1 : Ca P w K mg base (L2.CX P w) 40 "checked" (CX6.spXP K cl)) (x2 : ∀ k, Ca P w K mg base (L2.CX P w) 41 "made" (CX6.spMadeB K cl k)) (x3 : ∀ k, Ca P w K mg base (L2.CX P w) 226 "told" (CX6.spToldB K cl k)) : ∀ f fd, LawF K (top 92) f fd → fd.code = .ref cc → FnOk P w K mg base CX0 229 f fd ["_law_script"] (spTrueT K Pt) := fun f fd F hc => by
  have FG := ok_good TB B RC FC DC c1 c2 g1 g2 g3 k1 k2 k3 f fd F hc
  have FB := fun k => ok_bad k TB B RC FC DC c1 c2 g1 g2 g3 k1 x1 (x2 k) (x3 k) f fd F hc
  refine ⟨fun vs H Q E h => by obtain ⟨_, _, rfl, _⟩ := h; rfl, fun A outer s H args us vs Q E hr he hb hv hs => ?_⟩
  obtain ⟨a, ns, e, hS, hl, hP, q⟩ := hs
  cases hk : chP (pgL ns) with
  | none => exact FG.run A outer s H args us vs Q E hr he hb hv ⟨a, ns, e, hS, hP, hk, q⟩
  | some k => exact (FB k).run A outer s H args us vs Q E hr he hb hv ⟨a, ns, e, hS, hP, hk, q⟩
end
end KX

open PySem PySem.W PySem.Calls PyProof.Rows
theorem PySem.Challenge.cw_unwind_k06_refusals_holds : PySem.Challenge.rw_unwind_k06_refusals.Holds := by
  refine K06.pre_hc ?hc
  case hc =>
    refine U.walk_t (l := PySem.Challenge.rw_unwind_k06_refusals) (k := 229) (j := 77) (x := "_law_script") (ws := K06.ws) (ts := [CK.stT, CK.exT, CM.acT, TT.tcT]) (ex := K06.eX) (st := M.top 92) rfl (by kernel_rfl) ⟨rfl, by decide, by decide⟩ (by kernel_rfl) rfl (by kernel_rfl) (fun K h => (U.x6_of (He.ba (He.ba (He.ba h).2).2).2).tab) (fun _ _ _ _ _ _ us hl => match us, hl with | [_], _ => rfl) ?F
    intro w K mg h base cc Pt X G c TB
    have B := U.bi_u X G c
    obtain ⟨x1, y1⟩ := He.ba (a := CK.kX K) (b := CM.cX K && (TT.tX K && U.x6B K)) c.more
    obtain ⟨x2, y2⟩ := He.ba (a := CM.cX K) (b := TT.tX K && U.x6B K) y1
    obtain ⟨x3, x4⟩ := He.ba (a := TT.tX K) (b := U.x6B K) y2
    have hk1 : ∀ d ∈ CK.kW, d ∈ K06.ws := fun d hd => List.mem_append.mpr (.inl (List.mem_append.mpr (.inl (List.mem_append.mpr (.inl hd)))))
    have hk2 : ∀ d ∈ CM.cW, d ∈ K06.ws := fun d hd => List.mem_append.mpr (.inl (List.mem_append.mpr (.inl (List.mem_append.mpr (.inr hd)))))
    have hk4 : ∀ d ∈ TT.tW, d ∈ K06.ws := fun d hd => List.mem_append.mpr (.inl (List.mem_append.mpr (.inr hd)))
    have dK := CK.chkD_of X G c hk1 0 1 rfl rfl x1
    have dM := CM.makD_of X G c hk2 2 rfl x2
    obtain ⟨fI, dT, hSe⟩ := TT.telD_of X G c hk4 3 rfl x3
    have f6 := U.x6_of x4
    have RC : U.Rfc K mg (U.kls K) := fun k => U.rcl_of (by
      cases k
      · exact U.any_u X G c 65
      · exact U.any_u X G c 66
      · exact U.any_u X G c 67
      · exact U.any_u X G c 68) (f6.rcl k)
    have FC : KX.CauF K mg (U.kls K) (He.ga K "MillError") := ⟨f6.exc, U.any_u X G c 64, He.free_ok X G f6.fre, f6.kit, f6.kv, f6.exm⟩
    have c1 := CK.ca_checked (P := (PySem.Challenge.rw_unwind_k06_refusals).prog) (base := base) B dK
    have c2 := CM.ca_madeD (P := (PySem.Challenge.rw_unwind_k06_refusals).prog) (base := base) (Gd := CK.GdP) B dM c1
    have c3 := TT.ca_told (P := (PySem.Challenge.rw_unwind_k06_refusals).prog) (base := base) hSe rfl dT c1
    have x1 := CX6.ca_xpD (P := (PySem.Challenge.rw_unwind_k06_refusals).prog) (base := base) B RC dK
    have x2 := fun k => CX6.ca_madeBD (P := (PySem.Challenge.rw_unwind_k06_refusals).prog) (base := base) B dM x1 k
    have x3 := fun k => CX6.ca_toldBD (P := (PySem.Challenge.rw_unwind_k06_refusals).prog) (base := base) hSe rfl dT x1 k
    have l1 := LC.ca_cell (P := (PySem.Challenge.rw_unwind_k06_refusals).prog) (base := base) (w := w) B (U.df_u X G c 69)
    have l2 := KX.ca_deep (P := (PySem.Challenge.rw_unwind_k06_refusals).prog) (base := base) (w := w) B (U.df_u X G c 70)
    have l3 := KX.ca_tree (P := (PySem.Challenge.rw_unwind_k06_refusals).prog) (base := base) (w := w) B (U.df_u X G c 71) l2
    have l4 := KX.ca_stm (P := (PySem.Challenge.rw_unwind_k06_refusals).prog) (base := base) (w := w) B (U.df_u X G c 72) l3
    have l5 := KX.ca_around (P := (PySem.Challenge.rw_unwind_k06_refusals).prog) (base := base) (w := w) B (U.df_u X G c 73)
    have l6 := KX.ca_due (P := (PySem.Challenge.rw_unwind_k06_refusals).prog) (base := base) (w := w) B (U.df_u X G c 75)
    have l7 := KX.ca_pg (P := (PySem.Challenge.rw_unwind_k06_refusals).prog) (base := base) (w := w) B (U.df_u X G c 76) l1 l4 l5 l6
    exact KX.ok_law TB B RC FC (U.df_u X G c 74) l7 l1 dK.boxes dK.blocks dK.parts c1 c2 c3 x1 x2 x3
