import PyProof.Rows.All
import Wide.All
import OpenK.AllK
import Wide.FinOn
import PyProof.EqAt
import PyProof.EqKinds
import PyProof.TupleCall
import HandS.ForMost
import HandS.ForExc
import HandS.IsInst
import HandS.Defaults
import HandS.HeadHook4
import HandS.HeadEnd
import HandS.Head4
import HandS.CallLocal
import PySem.Challenge.RW_unwind_k14_whole_code_by_hand
set_option Elab.async false
set_option linter.all false
set_option maxRecDepth 100000
set_option maxHeartbeats 4000000
/-! U0: short steps for readings (own work). -/
namespace U
open PySem L2

/-! ### sizes -/
theorem sz {n : Nat} (h : n ≤ 100000) : n ≤ sizeLine := Nat.le_trans h (by decide)
theorem szlt {n : Nat} (h : n < 100000) : n < sizeLine := Nat.lt_of_lt_of_le h (by decide)
theorem ble {n m : Nat} (h : Nat.ble n m = true) : n ≤ m := Nat.le_of_ble_eq_true h

/-! ### statements -/
section
variable {t u : TS} {nx bk ct : L2.St → Hp → Prop} {rt : VK} {σ : L2.St} {H : Hp} {te ta tb tc : TE} {tt tt2 : TT} {tas : TA} {Q : VK} {QB : Bool → Hp → Prop} {QA : List V → Hp → Prop} {g : TG} {gs : TGs} {i : Nat} {v x y : V} {r : R2} {K : PySem.W.Frag}
theorem w_seq (h : t ⟨u ⟨nx, rt, bk, ct⟩, rt, bk, ct⟩ σ H) : tSeq t u ⟨nx, rt, bk, ct⟩ σ H := h
theorem w_seqN {σ' : L2.St} (e : σ = σ') (h : t ⟨u ⟨nx, rt, bk, ct⟩, rt, bk, ct⟩ σ' H) : tSeq t u ⟨nx, rt, bk, ct⟩ σ H := by subst e; exact h
/-- a choice that is followed by something: it is entered by name ("if"), or by what holds behind it (w_ifJ) -/
def tSeqIf (tt : TT) (t u v : TS) : TS := tSeq (tIfS tt t u) v
theorem w_seqStop {v : TS} {D : Ends} (h : tSeqIf tt t u v D σ H) : tSeq (tIfS tt t u) v D σ H := h
theorem w_seqIf {v : TS} {σ' : L2.St} (e : σ = σ') (h : tt σ' H fun b H1 => if b = true then t ⟨v ⟨nx, rt, bk, ct⟩, rt, bk, ct⟩ σ' H1 else u ⟨v ⟨nx, rt, bk, ct⟩, rt, bk, ct⟩ σ' H1) : tSeqIf tt t u v ⟨nx, rt, bk, ct⟩ σ H := by subst e; exact h
theorem w_ifJ {v : TS} {σ1 : L2.St} (e : σ = σ1) (J : L2.St → Hp → Prop) (h2 : ∀ nx' : L2.St → Hp → Prop, (∀ σ' H', J σ' H' → nx' σ' H') → tt σ1 H fun b H1 => if b = true then t ⟨nx', rt, bk, ct⟩ σ1 H1 else u ⟨nx', rt, bk, ct⟩ σ1 H1)
    (h1 : ∀ σ' H', J σ' H' → v ⟨nx, rt, bk, ct⟩ σ' H') : tSeqIf tt t u v ⟨nx, rt, bk, ct⟩ σ H := by subst e; exact h2 _ h1
theorem w_seqJ {J : L2.St → Hp → Prop} (h2 : ∀ nx' : L2.St → Hp → Prop, (∀ σ' H', J σ' H' → nx' σ' H') → t ⟨nx', rt, bk, ct⟩ σ H) (h1 : ∀ σ' H', J σ' H' → u ⟨nx, rt, bk, ct⟩ σ' H') : tSeq t u ⟨nx, rt, bk, ct⟩ σ H := h2 _ h1
/-- a loop that is followed by something: it is entered by name ("lp"), or by what holds behind it (w_lpJ) -/
def tSeqLp (t v : TS) : TS := tSeq t v
theorem w_stopF {wi : TI} {tb v : TS} {D : Ends} (h : tSeqLp (tFor wi g tb) v D σ H) : tSeq (tFor wi g tb) v D σ H := h
theorem w_stopW {tb v : TS} {D : Ends} (h : tSeqLp (tWhile tt tb) v D σ H) : tSeq (tWhile tt tb) v D σ H := h
theorem w_seqLp {v : TS} {σ' : L2.St} (e : σ = σ') (h : t ⟨v ⟨nx, rt, bk, ct⟩, rt, bk, ct⟩ σ' H) : tSeqLp t v ⟨nx, rt, bk, ct⟩ σ H := by subst e; exact h
theorem w_lpJ {v : TS} {σ1 : L2.St} (e : σ = σ1) (J : L2.St → Hp → Prop) (h2 : ∀ nx' : L2.St → Hp → Prop, (∀ σ' H', J σ' H' → nx' σ' H') → t ⟨nx', rt, bk, ct⟩ σ1 H)
    (h1 : ∀ σ' H', J σ' H' → v ⟨nx, rt, bk, ct⟩ σ' H') : tSeqLp t v ⟨nx, rt, bk, ct⟩ σ H := by subst e; exact h2 _ h1
theorem w_start {D : Ends} {σ' : L2.St} (e : σ = σ') (h : t D σ' H) : t D σ H := by subst e; exact h
theorem w_next (h : nx σ H) : tNext ⟨nx, rt, bk, ct⟩ σ H := h
theorem w_break (h : bk σ H) : tBreak ⟨nx, rt, bk, ct⟩ σ H := h
theorem w_cont (h : ct σ H) : tCont ⟨nx, rt, bk, ct⟩ σ H := h
theorem w_drop (h : te σ H fun _ H1 => nx σ H1) : tDrop te ⟨nx, rt, bk, ct⟩ σ H := h
theorem w_ret (h : te σ H rt) : tRet te ⟨nx, rt, bk, ct⟩ σ H := h
theorem w_retN (h : rt .non H) : tRetN ⟨nx, rt, bk, ct⟩ σ H := h
theorem w_ifS (h : tt σ H fun b H1 => if b = true then t ⟨nx, rt, bk, ct⟩ σ H1 else u ⟨nx, rt, bk, ct⟩ σ H1) : tIfS tt t u ⟨nx, rt, bk, ct⟩ σ H := h
theorem w_asgN (h : te σ H fun x H1 => nx (σ.set i (some x)) H1) : tAsg te (gName i) ⟨nx, rt, bk, ct⟩ σ H := h
theorem w_asg (h : te σ H fun x H1 => g x σ H1 nx) : tAsg te g ⟨nx, rt, bk, ct⟩ σ H := h
theorem w_gName {QG : L2.St → Hp → Prop} (h : QG (σ.set i (some v)) H) : gName i v σ H QG := h
theorem w_gNil {QG : L2.St → Hp → Prop} (h : QG σ H) : gNil [] σ H QG := ⟨rfl, h⟩
theorem w_gCons {QG : L2.St → Hp → Prop} {vs : List V} (h : g v σ H fun σ' H' => gs vs σ' H' QG) : gCons g gs (v :: vs) σ H QG := ⟨v, vs, rfl, h⟩
theorem w_gTup {QG : L2.St → Hp → Prop} {n : Nat} {a : Addr} {xs : List V} (ha : SqT K H a xs) (hn : xs.length = n) (h : gs xs σ H QG) : gTup K n gs (.ref a) σ H QG := ⟨a, xs, rfl, ha, hn, h⟩
theorem w_gSub {QG : L2.St → Hp → Prop} {ts : TSet} (h : ta σ H fun o H1 => tb σ H1 fun i H2 => ts o i v H2 fun H3 => QG σ H3) : gSub ta tb ts v σ H QG := h
theorem w_setL {a : Addr} {xs : List V} {k : Int} {j : Nat} {QH : Hp → Prop} (ha : H a = some (.lst xs)) (hk : ixN xs.length k = some j) (h : QH (upd H a (.lst (xs.set j v)))) : rSetL (.ref a) (.int k) v H QH := ⟨a, xs, k, j, rfl, rfl, ha, hk, h⟩

/-! ### expressions -/
theorem w_var (e : σ[i]? = some (some v)) (h : Q v H) : tVar i σ H Q := ⟨v, e, h⟩
theorem w_c (h : Q v H) : tC v σ H Q := h
theorem w_op (h : ta σ H fun x H1 => tb σ H1 fun y H2 => r x y H2 Q) : tOp r ta tb σ H Q := h
theorem w_un {r : V → Hp → VK → Prop} (h : ta σ H fun x H1 => r x H1 Q) : tUn r ta σ H Q := h
theorem w_rI0 {g : Int → Int → V} {i j : Int} (h : Q (g i j) H) : rI0 g (.int i) (.int j) H Q := ⟨i, j, rfl, rfl, h⟩
theorem w_rI {C : Int → Int → Prop} {g : Int → Int → V} {i j : Int} (c : C i j) (h : Q (g i j) H) : rI C g (.int i) (.int j) H Q := ⟨i, j, rfl, rfl, c, h⟩
theorem w_rU {g : Int → V} {i : Int} (h : Q (g i) H) : rU g (.int i) H Q := ⟨i, rfl, h⟩
theorem w_eqI {i j : Int} (h : Q (.bl (decide (i = j))) H) : rEq (.int i) (.int j) H Q := ⟨rfl, by
  have e : decide (V.int i = V.int j) = decide (i = j) := by
    by_cases c : i = j
    · rw [decide_eq_true c, decide_eq_true (by rw [c])]
    · rw [decide_eq_false c, decide_eq_false (fun q => c (V.int.inj q))]
  rw [e]; exact h⟩
theorem w_neI {i j : Int} (h : Q (.bl (!decide (i = j))) H) : rNe (.int i) (.int j) H Q := ⟨rfl, by
  have e : decide (V.int i = V.int j) = decide (i = j) := by
    by_cases c : i = j
    · rw [decide_eq_true c, decide_eq_true (by rw [c])]
    · rw [decide_eq_false c, decide_eq_false (fun q => c (V.int.inj q))]
  rw [e]; exact h⟩
theorem w_eqT (s : scal x x = true) (h : Q (.bl true) H) : rEq x x H Q := ⟨s, by rw [decide_eq_true rfl]; exact h⟩
theorem w_eqF (s : scal x y = true) (n : decide (x = y) = false) (h : Q (.bl false) H) : rEq x y H Q := ⟨s, by rw [n]; exact h⟩
theorem w_neT (s : scal x x = true) (h : Q (.bl false) H) : rNe x x H Q := ⟨s, by rw [decide_eq_true rfl]; exact h⟩
theorem w_neF (s : scal x y = true) (n : decide (x = y) = false) (h : Q (.bl true) H) : rNe x y H Q := ⟨s, by rw [n]; exact h⟩
theorem w_chain {r r' : R2} (h : ta σ H fun x H1 => tb σ H1 fun y H2 => r x y H2 fun z H3 => ∃ k, z = .bl k ∧ (if k = true then tc σ H3 fun w' H4 => r' y w' H4 Q else Q (.bl false) H3)) : tChain r r' ta tb tc σ H Q := h
theorem w_tup (h : tas σ H fun xs H1 => xs.length ≤ sizeLine ∧ ∀ p, H1 p = none → Q (.ref p) (upd H1 p (.tup xs))) : tTup tas σ H Q := h
theorem w_lst (h : tas σ H fun xs H1 => xs.length ≤ sizeLine ∧ ∀ p, H1 p = none → Q (.ref p) (upd H1 p (.lst xs))) : tLst tas σ H Q := h
theorem w_size {n m : Nat} {A : Prop} (e : Nat.ble n m = true) (h : A) : n ≤ m ∧ A := ⟨ble e, h⟩
theorem w_nil (h : QA [] H) : tNil σ H QA := h
theorem w_cons (h : te σ H fun x H1 => tas σ H1 fun xs H2 => QA (x :: xs) H2) : tCons te tas σ H QA := h
theorem w_call {sp : Sp} {dvs : List V} {E : XK} (h : tas σ H fun vs H1 => sp (vs ++ dvs) H1 Q E) : tCall sp dvs E tas σ H Q := h
theorem w_cb {r : List V → Hp → VK → Prop} (h : tas σ H fun vs H1 => r vs H1 Q) : tCB r tas σ H Q := h
theorem w_fld {f : Str} {a C dx : Addr} {fs : List (Str × V)} (h : te σ H fun x H1 => ∃ a C dx fs v, x = .ref a ∧ H1 a = some (.ins C dx fs) ∧ Cls K C ∧ NoAttr K C f ∧ fs.lookup f = some v ∧ Q v H1) : tFld K te f σ H Q := h
theorem w_fldE {f : Str} {a C dx : Addr} {fs : List (Str × V)} {v : V} (ha : H a = some (.ins C dx fs)) (c : Cls K C) (n : NoAttr K C f) (l : fs.lookup f = some v) (h : Q v H) :
    ∃ a' C dx fs v', V.ref a = .ref a' ∧ H a' = some (.ins C dx fs) ∧ Cls K C ∧ NoAttr K C f ∧ fs.lookup f = some v' ∧ Q v' H := ⟨a, C, dx, fs, v, rfl, ha, c, n, l, h⟩
theorem w_bm {T : String} {r : V → List V → Hp → VK → Prop} (h : te σ H fun x H1 => tyV K T x H1 ∧ tas σ H1 fun xs H2 => r x xs H2 Q) : tBM K T r te tas σ H Q := h
theorem w_bm0 {T : String} {r : V → List V → Hp → VK → Prop} (h : te σ H fun x H1 => tyV K T x H1 ∧ r x [] H1 Q) : tBM0 K T r te σ H Q := h
theorem w_tyL {a : Addr} {xs : List V} {A : Prop} (ha : H a = some (.lst xs)) (h : A) : tyV K "list" (.ref a) H ∧ A := ⟨.inl ⟨rfl, _, SqL.of ha⟩, h⟩
theorem w_append {a : Addr} {xs : List V} (ha : H a = some (.lst xs)) (hl : xs.length < sizeLine) (h : Q .non (upd H a (.lst (xs ++ [y])))) : rAppend (.ref a) [y] H Q := ⟨a, xs, y, rfl, rfl, ha, hl, h⟩
theorem w_pop {a : Addr} {xs : List V} (ha : H a = some (.lst (xs ++ [y]))) (h : Q y (upd H a (.lst xs))) : rPop (.ref a) [] H Q := ⟨a, xs ++ [y], y, rfl, rfl, ha, by simp, by rw [List.dropLast_concat]; exact h⟩
theorem w_ixL {a : Addr} {xs : List V} {i : Int} (ha : SqL K H a xs) (hi : atI xs i = some v) (h : Q v H) : rIxL K (.ref a) (.int i) H Q := ⟨a, xs, i, v, rfl, rfl, ha, hi, h⟩
theorem w_ixT {a : Addr} {xs : List V} {i : Int} (ha : SqT K H a xs) (hi : atI xs i = some v) (h : Q v H) : rIxT K (.ref a) (.int i) H Q := ⟨a, xs, i, v, rfl, rfl, ha, hi, h⟩
theorem w_sl {r : V → Option Int → Option Int → Hp → VK → Prop} {tl th : TO} (h : te σ H fun x H1 => tl σ H1 fun l H2 => th σ H2 fun u H3 => r x l u H3 Q) : tSl r te tl th σ H Q := h
theorem w_noPart {QO : Option Int → Hp → Prop} (h : QO none H) : tNoPart σ H QO := h
theorem w_part {QO : Option Int → Hp → Prop} (h : te σ H fun x H1 => ∃ i, x = .int i ∧ QO (some i) H1) : tPart te σ H QO := h
theorem w_partE {P : Int → Prop} {i : Int} (h : P i) : ∃ j, V.int i = .int j ∧ P j := ⟨i, rfl, h⟩
theorem w_slL {a : Addr} {xs : List V} {lo hi : Option Int} (ha : SqL K H a xs) (h : ∀ p, H p = none → Q (.ref p) (upd H p (.lst (cutV xs lo hi)))) : rSlL K (.ref a) lo hi H Q := ⟨a, xs, rfl, ha, h⟩
theorem w_nn {A : Prop} (h : A) : V.non = V.non ∧ A := ⟨rfl, h⟩
theorem w_ttt {A : Prop} (h : A) : true = true ∧ A := ⟨rfl, h⟩
/-! ### tests -/
theorem w_test (h : te σ H fun x H' => ∃ k, x = .bl k ∧ QB k H') : tTest te σ H QB := h
theorem w_tB (h : te σ H fun x H' => ∃ k, x = .bl k ∧ QB k H') : tB te σ H QB := h
theorem w_bl {c : Bool} {P : Bool → Prop} (h : P c) : ∃ k, V.bl c = .bl k ∧ P k := ⟨c, rfl, h⟩
theorem w_and (h : tt σ H fun c H1 => if c = true then tt2 σ H1 QB else QB false H1) : tAnd tt tt2 σ H QB := h
theorem w_or (h : tt σ H fun c H1 => if c = true then QB true H1 else tt2 σ H1 QB) : tOr tt tt2 σ H QB := h
theorem w_not (h : tt σ H fun c H1 => QB (!c) H1) : tNot tt σ H QB := h
theorem w_andV (h : ta σ H fun x H1 => ∃ c, x = .bl c ∧ if c = true then tb σ H1 Q else Q (.bl false) H1) : tAndV ta tb σ H Q := h
theorem w_orV (h : ta σ H fun x H1 => ∃ c, x = .bl c ∧ if c = true then Q (.bl true) H1 else tb σ H1 Q) : tOrV ta tb σ H Q := h
theorem w_notV (h : ta σ H fun x H1 => ∃ c, x = .bl c ∧ Q (.bl (!c)) H1) : tNotV ta σ H Q := h
theorem w_ifE (h : tt σ H fun c H1 => if c = true then ta σ H1 Q else tb σ H1 Q) : tIf tt ta tb σ H Q := h
theorem w_itT {A B : Prop} (h : A) : if true = true then A else B := by rw [if_pos rfl]; exact h
theorem w_itF {A B : Prop} (h : B) : if false = true then A else B := by rw [if_neg Bool.false_ne_true]; exact h
theorem w_itNT {A B : Prop} (h : B) : if (!true) = true then A else B := by rw [if_neg (by decide)]; exact h
theorem w_itNF {A B : Prop} (h : A) : if (!false) = true then A else B := by rw [if_pos (by decide)]; exact h
theorem it_pos {c : Prop} [Decidable c] {A B : Prop} (hc : c) (h : A) : if decide c = true then A else B := by rw [if_pos (decide_eq_true hc)]; exact h
theorem it_neg {c : Prop} [Decidable c] {A B : Prop} (hc : ¬ c) (h : B) : if decide c = true then A else B := by rw [if_neg (by rw [decide_eq_false hc]; exact Bool.false_ne_true)]; exact h
theorem it_cases {c : Prop} [Decidable c] {A B : Prop} (h1 : c → A) (h2 : ¬ c → B) : if decide c = true then A else B := by
  by_cases h : c
  · exact it_pos h (h1 h)
  · exact it_neg h (h2 h)
theorem itn_pos {c : Prop} [Decidable c] {A B : Prop} (hc : c) (h : B) : if (!decide c) = true then A else B := by rw [if_neg (by rw [decide_eq_true hc]; decide)]; exact h
theorem itn_neg {c : Prop} [Decidable c] {A B : Prop} (hc : ¬ c) (h : A) : if (!decide c) = true then A else B := by rw [if_pos (by rw [decide_eq_false hc]; decide)]; exact h
theorem itn_cases {c : Prop} [Decidable c] {A B : Prop} (h1 : c → B) (h2 : ¬ c → A) : if (!decide c) = true then A else B := by
  by_cases h : c
  · exact itn_pos h (h1 h)
  · exact itn_neg h (h2 h)
theorem w_itE {A : Prop} (h : A) : A := h
theorem isN_T : decide (V.non = V.non) = true := rfl
end
/-! ### heaps -/
/-- all but what stands at W stays -/
def Kp (W : List Addr) (H H' : Hp) : Prop := ∀ a o, H a = some o → a ∉ W → H' a = some o
theorem Kp.refl {W : List Addr} (H : Hp) : Kp W H H := fun _ _ h _ => h
theorem Kp.trans {W : List Addr} {H H1 H2 : Hp} (a : Kp W H H1) (b : Kp W H1 H2) : Kp W H H2 := fun c o h n => b c o (a c o h n) n
theorem Kp.same {W : List Addr} {H H' : Hp} (h : Same H H') : Kp W H H' := fun a o e _ => h a o e
theorem Kp.to_same {H H' : Hp} (h : Kp [] H H') : Same H H' := fun a o e => h a o e (by simp)
theorem same_new {H : Hp} {p : Addr} (h : H p = none) (o : HO) : Same H (upd H p o) := fun b u q => by rw [upd_ne (ne_of_none q h)]; exact q
theorem same_new2 {H H' : Hp} {p : Addr} (s : Same H H') (h : H' p = none) (o : HO) : Same H (upd H' p o) := s.trans (same_new h o)
theorem same_mut {H H' : Hp} {p : Addr} (s : Same H H') (h : H p = none) (o : HO) : Same H (upd H' p o) := fun b u q => by rw [upd_ne (ne_of_none q h)]; exact s b u q
end U

/-! U1: rules of one's own for calls by contract, isinstance, subscripts (own work). -/
namespace U
open PySem PySem.Spec PyProof.Rows L2

/-- the built-in names that the top leaves alone -/
structure Bi (mg : Str → Option Value) : Prop where
  len : mg "len" = none
  range : mg "range" = none
  list : mg "list" = none
  isinstance : mg "isinstance" = none
  int : mg "int" = none
  bool : mg "bool" = none
  str : mg "str" = none
  tuple : mg "tuple" = none
  enumerate : mg "enumerate" = none
  zip : mg "zip" = none
  min : mg "min" = none
  max : mg "max" = none
  sum : mg "sum" = none
  reversed : mg "reversed" = none

/-- a def that may be called by the name x -/
structure Ca (P : Program) (w : World) (K : PySem.W.Frag) (mg : Str → Option Value) (base : Heap) (CX : CXT) (k : Nat) (x : Str) (sp : Sp) : Prop where
  ex : ∃ f fd ps, FnOk P w K mg base CX k f fd ps sp ∧ mg x = some (.ref f) ∧ PySem.W.keepIn K (.ref f) = true ∧ Binds K fd ps []
section
variable {X : Cx} {CX : CXT} {k j : Nat} {x : Str} {sp : Sp} {E : XK} {p pos : Pos} {e : Expr} {es : List Expr} {t : TA}
theorem pe_ca (c : Ca X.prog X.w X.K X.mg X.base CX k x sp) (hr : Room j X.A) (hk : k ≤ j) (hg : Gl X x) (hx : Passes CX X E) (ha : PA X (e :: es) t) (hdb : (x == ("__debug__" : Str)) = false := by decide)
    (he : starEach (e :: es) X.env = (false, eval e X.env) :: starEach es X.env := by rfl) (hpl : (backTo pos (starEach es X.env)).any (·.1) = false := by rfl) : PE X (.Call (.Name x p) (e :: es) [] pos) (tCall sp [] E t) := by
  refine ⟨fun pins s σ H Q I h => ?_⟩
  obtain ⟨f, fd, ps, F, hm, kp, hb⟩ := c.ex
  exact (pe_call (dvs := []) F (hr.mono hk) hg hm kp hb .nil hx ha hdb he hpl).run pins s σ H Q I h
theorem pe_gi {i : Int} (hg : Gl X x) (hm : ∃ t, X.mg x = some (.int i t)) (hd : (x == ("__debug__" : Str)) = false := by decide) : PE X (.Name x pos) (tC (.int i)) := by
  obtain ⟨t, hm⟩ := hm
  exact pe_glob hg hm ⟨_, rfl⟩ hd
theorem pe_gr {a : Addr} (hg : Gl X x) (hm : X.mg x = some (.ref a)) (hd : (x == ("__debug__" : Str)) = false := by decide) : PE X (.Name x pos) (tC (.ref a)) := pe_glob hg hm rfl hd
end
theorem Ca.mono {P : Program} {w : World} {K : PySem.W.Frag} {mg : Str → Option Value} {base : Heap} {CX : CXT} {j k : Nat} {x : Str} {sp : Sp} (c : Ca P w K mg base CX j x sp) (h : j ≤ k) : Ca P w K mg base CX k x sp := by
  obtain ⟨f, fd, ps, F, r⟩ := c.ex
  exact ⟨f, fd, ps, F.mono h, r⟩
theorem Ca.imp {P : Program} {w : World} {K : PySem.W.Frag} {mg : Str → Option Value} {base : Heap} {CX : CXT} {k : Nat} {x : Str} {sp sp' : Sp} (c : Ca P w K mg base CX k x sp) (h : ∀ vs H Q E, sp' vs H Q E → sp vs H Q E) : Ca P w K mg base CX k x sp' := by
  obtain ⟨f, fd, ps, F, r⟩ := c.ex
  exact ⟨f, fd, ps, F.imp h, r⟩

theorem cxk {CX : CXT} {P : Program} {w : World} {K : PySem.W.Frag} {mg : Str → Option Value} {base : Heap} {N : List Str} {qual : Str} {scope : Scope} {f : Addr} {cd : Value} {A : Around} {outer : List Env} {s : Shared} {H : Hp} {E : XK} :
    (cxOf CX P w K mg base N qual scope f cd A outer s H E).K = K := rfl
theorem cxw {CX : CXT} {P : Program} {w : World} {K : PySem.W.Frag} {mg : Str → Option Value} {base : Heap} {N : List Str} {qual : Str} {scope : Scope} {f : Addr} {cd : Value} {A : Around} {outer : List Env} {s : Shared} {H : Hp} {E : XK} :
    (cxOf CX P w K mg base N qual scope f cd A outer s H E).w = w := rfl
theorem cxwn {CX : CXT} {P : Program} {w : World} {K : PySem.W.Frag} {mg : Str → Option Value} {base : Heap} {N : List Str} {qual : Str} {scope : Scope} {f : Addr} {cd : Value} {A : Around} {outer : List Env} {s : Shared} {H : Hp} {E : XK} :
    (cxOf CX P w K mg base N qual scope f cd A outer s H E).nox.w = w := rfl
theorem cxkn {CX : CXT} {P : Program} {w : World} {K : PySem.W.Frag} {mg : Str → Option Value} {base : Heap} {N : List Str} {qual : Str} {scope : Scope} {f : Addr} {cd : Value} {A : Around} {outer : List Env} {s : Shared} {H : Hp} {E : XK} :
    (cxOf CX P w K mg base N qual scope f cd A outer s H E).nox.K = K := rfl
/-- a def of the top, as it stands behind the top -/
structure Df (K : PySem.W.Frag) (mg : Str → Option Value) (x : Str) (st : Stmt) : Prop where
  ex : ∃ f fd, FunD K x x (defArgs st) (defBody st) (defScope st) [] [] f fd ∧ mg x = some (.ref f)
section
variable {P : Program} {w : World} {K : PySem.W.Frag} {mg : Str → Option Value} {base : Heap} {x : Str} {st : Stmt} {N ps : List Str} {k : Nat} {sp : Sp}
/-- THE RULE for a def that lets nothing out -/
theorem Df.ca0 (D : Df K mg x st) (S : FnScope N ps (defScope st))
    (bd : ∀ (kV doc pm : Value) (an : Option Addr) (cdv ct : Value) (us : List Value), us.length = ps.length → bindArgs (PySem.W.fnOf x x (defArgs st) (defBody st) (defScope st) .none kV doc pm an cdv ct) ⟨us, []⟩ = pure (ps.zip us))
    (len : ∀ vs H Q E, sp vs H Q E → vs.length = ps.length)
    (hbody : ∀ (f : Addr) (cdv : Value) (A : Around) (outer : List Env) (s : Shared) (H : Hp) (vs : List V) (Q : VK) (E : XK), Room k (A.deeper (envOfC x (defScope st) s.heap.objs.size f cdv)) → sp vs H Q E →
      ∃ t, PSs (cxOf CX0 P w K mg base N x (defScope st) f cdv A outer s H E).nox (defBody st) t ∧ t { nx := fun _ H' => Q .non H', rt := Q } (start N vs) H) : Ca P w K mg base CX0 (k + 1) x sp := by
  obtain ⟨f, fd, F, hm⟩ := D.ex
  refine ⟨f, fd, ps, F.ok S len fun cdv A outer s H vs Q E hr h => ?_, hm, F.kp, F.bindsN bd⟩
  obtain ⟨t, h1, h2⟩ := hbody f cdv A outer s H vs Q E hr h
  exact ⟨t, h1.nox, h2⟩
/-- .. for one that may let exceptions out -/
theorem Df.caX {CX : CXT} (D : Df K mg x st) (S : FnScope N ps (defScope st))
    (bd : ∀ (kV doc pm : Value) (an : Option Addr) (cdv ct : Value) (us : List Value), us.length = ps.length → bindArgs (PySem.W.fnOf x x (defArgs st) (defBody st) (defScope st) .none kV doc pm an cdv ct) ⟨us, []⟩ = pure (ps.zip us))
    (len : ∀ vs H Q E, sp vs H Q E → vs.length = ps.length)
    (hbody : ∀ (f : Addr) (cdv : Value) (A : Around) (outer : List Env) (s : Shared) (H : Hp) (vs : List V) (Q : VK) (E : XK), Room k (A.deeper (envOfC x (defScope st) s.heap.objs.size f cdv)) → sp vs H Q E →
      ∃ t, PSs (cxOf CX P w K mg base N x (defScope st) f cdv A outer s H E) (defBody st) t ∧ t { nx := fun _ H' => Q .non H', rt := Q } (start N vs) H) : Ca P w K mg base CX (k + 1) x sp := by
  obtain ⟨f, fd, F, hm⟩ := D.ex
  exact ⟨f, fd, ps, F.ok S len fun cdv A outer s H vs Q E hr h => hbody f cdv A outer s H vs Q E hr h, hm, F.kp, F.bindsN bd⟩
end

/-! ### isinstance(e, T), T a built-in class by its name -/
def rIsiN (K : PySem.W.Frag) : List V → Hp → VK → Prop := fun xs H Q => ∃ (x : V) (n t : String) (b : Bool), xs = [x, .ty n] ∧ TyX K H x (.type t) ∧ kitB t n = some b ∧ Q (.bl b) H
theorem call_isiN {X : Cx} : CallR X (.builtin "isinstance") (rIsiN X.K) := fun pins s σ H xs us Q I r h => by
  obtain ⟨x, n, t, b, e, ty, k, q⟩ := h
  exact call_isi pins s σ H xs us Q I r ⟨x, .ty n, .type t, .type n, b, e, .ty n, ty, kit_ty k, q⟩
theorem w_isi {K : PySem.W.Frag} {x : V} {n t : String} {b : Bool} {H : Hp} {Q : VK} (ty : TyX K H x (.type t)) (k : kitB t n = some b) (h : Q (.bl b) H) : rIsiN K [x, .ty n] H Q := ⟨x, n, t, b, rfl, ty, k, h⟩
theorem tyx_int {K : PySem.W.Frag} {H : Hp} {i : Int} : TyX K H (.int i) (.type "int") := .base (.int i)
theorem tyx_non {K : PySem.W.Frag} {H : Hp} : TyX K H .non (.type "NoneType") := .base .non
theorem tyx_str {K : PySem.W.Frag} {H : Hp} {i : Str} : TyX K H (.str i) (.type "str") := .base (.str i)
theorem tyx_bl {K : PySem.W.Frag} {H : Hp} {i : Bool} : TyX K H (.bl i) (.type "bool") := .base (.bl i)
theorem tyx_sqL {K : PySem.W.Frag} {H : Hp} {a : Addr} {xs : List V} (h : SqL K H a xs) : TyX K H (.ref a) (.type "list") := by
  rcases h with (h | ⟨o, h⟩) | ⟨o, its, n, h, c, _⟩
  · exact .base (.lst h)
  · exact .base (.frz h)
  · exact .kList h c
theorem tyx_sqT {K : PySem.W.Frag} {H : Hp} {a : Addr} {xs : List V} (h : SqT K H a xs) : TyX K H (.ref a) (.type "tuple") := by
  rcases h with (h | ⟨o, h⟩) | ⟨o, its, n, h, c, _⟩
  · exact .base (.tup h)
  · exact .fTuple h
  · exact .kTuple h c
section
variable {K : PySem.W.Frag} {H : Hp} {Q : VK} {a : Addr} {xs : List V} {i : Int} {z : Str}
theorem k_ii : kitB "int" "int" = some true := by decide +kernel
theorem k_ib : kitB "int" "bool" = some false := by decide +kernel
theorem k_it : kitB "int" "tuple" = some false := by decide +kernel
theorem k_il : kitB "int" "list" = some false := by decide +kernel
theorem k_tt : kitB "tuple" "tuple" = some true := by decide +kernel
theorem k_tl : kitB "tuple" "list" = some false := by decide +kernel
theorem k_lt : kitB "list" "tuple" = some false := by decide +kernel
theorem k_ll : kitB "list" "list" = some true := by decide +kernel
theorem k_ss : kitB "str" "str" = some true := by decide +kernel
theorem k_st : kitB "str" "tuple" = some false := by decide +kernel
theorem k_sl : kitB "str" "list" = some false := by decide +kernel
theorem k_nt : kitB "NoneType" "tuple" = some false := by decide +kernel
theorem k_nl : kitB "NoneType" "list" = some false := by decide +kernel
theorem k_ni : kitB "NoneType" "int" = some false := by decide +kernel
theorem w_isi_ii (h : Q (.bl true) H) : rIsiN K [.int i, .ty "int"] H Q := w_isi tyx_int k_ii h
theorem w_isi_ib (h : Q (.bl false) H) : rIsiN K [.int i, .ty "bool"] H Q := w_isi tyx_int k_ib h
theorem w_isi_it (h : Q (.bl false) H) : rIsiN K [.int i, .ty "tuple"] H Q := w_isi tyx_int k_it h
theorem w_isi_il (h : Q (.bl false) H) : rIsiN K [.int i, .ty "list"] H Q := w_isi tyx_int k_il h
theorem w_isi_ss (h : Q (.bl true) H) : rIsiN K [.str z, .ty "str"] H Q := w_isi tyx_str k_ss h
theorem w_isi_st (h : Q (.bl false) H) : rIsiN K [.str z, .ty "tuple"] H Q := w_isi tyx_str k_st h
theorem w_isi_sl (h : Q (.bl false) H) : rIsiN K [.str z, .ty "list"] H Q := w_isi tyx_str k_sl h
theorem w_isi_nt (h : Q (.bl false) H) : rIsiN K [.non, .ty "tuple"] H Q := w_isi tyx_non k_nt h
theorem w_isi_nl (h : Q (.bl false) H) : rIsiN K [.non, .ty "list"] H Q := w_isi tyx_non k_nl h
theorem w_isi_ni (h : Q (.bl false) H) : rIsiN K [.non, .ty "int"] H Q := w_isi tyx_non k_ni h
theorem w_isi_tt (s : SqT K H a xs) (h : Q (.bl true) H) : rIsiN K [.ref a, .ty "tuple"] H Q := w_isi (tyx_sqT s) k_tt h
theorem w_isi_lt (s : SqL K H a xs) (h : Q (.bl false) H) : rIsiN K [.ref a, .ty "tuple"] H Q := w_isi (tyx_sqL s) k_lt h
theorem w_isi_ll (s : SqL K H a xs) (h : Q (.bl true) H) : rIsiN K [.ref a, .ty "list"] H Q := w_isi (tyx_sqL s) k_ll h
theorem w_isi_tl (s : SqT K H a xs) (h : Q (.bl false) H) : rIsiN K [.ref a, .ty "list"] H Q := w_isi (tyx_sqT s) k_tl h
end
/-! ### named readings -/
section
variable {X : Cx} {K : PySem.W.Frag} {H : Hp} {Q : VK} {a : Addr} {xs : List V} {i j : Int} {v : V}
def rLenA (K : PySem.W.Frag) : List V → Hp → VK → Prop := fun xs H Q => ∃ p ys, xs = [V.ref p] ∧ (SqL K H p ys ∨ SqT K H p ys) ∧ Q (.int (ys.length : Nat)) H
theorem call_lenA : CallR X (.builtin "len") (rLenA X.K) := call_len_seq
theorem w_lenL (ha : SqL K H a xs) (h : Q (.int (xs.length : Nat)) H) : rLenA K [.ref a] H Q := ⟨a, xs, rfl, .inl ha, h⟩
theorem w_lenT (ha : SqT K H a xs) (h : Q (.int (xs.length : Nat)) H) : rLenA K [.ref a] H Q := ⟨a, xs, rfl, .inr ha, h⟩
def rListA (K : PySem.W.Frag) : List V → Hp → VK → Prop := fun xs H Q => ∃ p ys, xs = [V.ref p] ∧ (SqL K H p ys ∨ SqT K H p ys) ∧ ∀ l, H l = none → Q (.ref l) (upd H l (.lst ys))
theorem call_listA : CallR X (.type "list") (rListA X.K) := call_list_of
theorem w_listL (ha : SqL K H a xs) (h : ∀ l, H l = none → Q (.ref l) (upd H l (.lst xs))) : rListA K [.ref a] H Q := ⟨a, xs, rfl, .inl ha, h⟩
def rTupA (K : PySem.W.Frag) : List V → Hp → VK → Prop := fun xs H Q => ∃ p ys, xs = [V.ref p] ∧ ((SqL K H p ys ∧ ∀ l, H l = none → Q (.ref l) (upd H l (.tup ys))) ∨ (SqT K H p ys ∧ Q (.ref p) H))
theorem call_tupA : CallR X (.type "tuple") (rTupA X.K) := call_tuple_of
theorem w_tupL (ha : SqL K H a xs) (h : ∀ l, H l = none → Q (.ref l) (upd H l (.tup xs))) : rTupA K [.ref a] H Q := ⟨a, xs, rfl, .inl ⟨ha, h⟩⟩
def rIntA : List V → Hp → VK → Prop := fun xs H Q => (∃ i, xs = [V.int i] ∧ Q (.int i) H) ∨ ∃ k, xs = [V.bl k] ∧ Q (.int (if k then 1 else 0)) H
theorem call_intA : CallR X (.type "int") rIntA := call_int1
theorem w_intI (h : Q (.int i) H) : rIntA [.int i] H Q := .inl ⟨i, rfl, h⟩
theorem w_intB {k : Bool} (h : Q (.int (if k then 1 else 0)) H) : rIntA [.bl k] H Q := .inr ⟨k, rfl, h⟩
def rMin2 : List V → Hp → VK → Prop := fun xs H Q => ∃ i j, xs = [V.int i, V.int j] ∧ Q (.int (if j < i then j else i)) H
theorem call_minA (hc : X.calm = true) : CallR X (.builtin "min") rMin2 := call_min2 hc
theorem w_min (h : Q (.int (if j < i then j else i)) H) : rMin2 [.int i, .int j] H Q := ⟨i, j, rfl, h⟩
def rMax2 : List V → Hp → VK → Prop := fun xs H Q => ∃ i j, xs = [V.int i, V.int j] ∧ Q (.int (if j > i then j else i)) H
theorem call_maxA (hc : X.calm = true) : CallR X (.builtin "max") rMax2 := call_max2 hc
theorem w_max (h : Q (.int (if j > i then j else i)) H) : rMax2 [.int i, .int j] H Q := ⟨i, j, rfl, h⟩
def rIsNo : R2 := fun x y H Q => y = .non ∧ Q (.bl (decide (x = .non))) H
theorem op_isNo : OpR X (compareOp .Is) rIsNo := op_isN
theorem w_isNoT (h : Q (.bl true) H) : rIsNo .non .non H Q := ⟨rfl, h⟩
theorem w_isNoI (h : Q (.bl false) H) : rIsNo (.int i) .non H Q := ⟨rfl, h⟩
theorem w_isNoR (h : Q (.bl false) H) : rIsNo (.ref a) .non H Q := ⟨rfl, h⟩
def rNotNo : R2 := fun x y H Q => y = .non ∧ Q (.bl (!decide (x = .non))) H
theorem op_notNo : OpR X (compareOp .IsNot) rNotNo := op_notN
theorem w_notNoT (h : Q (.bl false) H) : rNotNo .non .non H Q := ⟨rfl, h⟩
theorem w_notNoI (h : Q (.bl true) H) : rNotNo (.int i) .non H Q := ⟨rfl, h⟩
theorem w_notNoR (h : Q (.bl true) H) : rNotNo (.ref a) .non H Q := ⟨rfl, h⟩
end
/-! ### subscripts of lists and tuples -/
def rIxLT (K : PySem.W.Frag) : R2 := fun x y H Q => rIxL K x y H Q ∨ rIxT K x y H Q
theorem ix_lt {X : Cx} : IxR X (rIxLT X.K) := ix_list.or ix_tup
theorem w_ixLL {K : PySem.W.Frag} {H : Hp} {Q : VK} {a : Addr} {xs : List V} {i : Int} {v : V} (ha : SqL K H a xs) (hi : atI xs i = some v) (h : Q v H) : rIxLT K (.ref a) (.int i) H Q := .inl ⟨a, xs, i, v, rfl, rfl, ha, hi, h⟩
theorem w_ixTT0 {K : PySem.W.Frag} {H : Hp} {Q : VK} {a : Addr} {xs : List V} {v : V} (ha : SqT K H a (v :: xs)) (h : Q v H) : rIxLT K (.ref a) (.int 0) H Q := .inr ⟨a, v :: xs, 0, v, rfl, rfl, ha, atI_nat (j := 0) rfl, h⟩
theorem w_ixTT {K : PySem.W.Frag} {H : Hp} {Q : VK} {a : Addr} {xs : List V} {i : Int} {v : V} (ha : SqT K H a xs) (hi : atI xs i = some v) (h : Q v H) : rIxLT K (.ref a) (.int i) H Q := .inr ⟨a, xs, i, v, rfl, rfl, ha, hi, h⟩
/-! ### loops -/
/-- what a for over J wants -/
def ForB (J : It) (g : TG) (tb : TS) (nx : L2.St → Hp → Prop) (rt : VK) (σ : L2.St) (H : Hp) : Prop := ∃ W : Nat → Nat → L2.St → Hp → Prop, (∃ m, W 0 m σ H) ∧ ∀ i m σ H, W i m σ H →
  (J.stop i H ∧ nx σ H) ∨ (J.go i H ∧ ∃ N : L2.St → Hp → Prop, (∀ σ' H', N σ' H' → ∃ m', m' < m ∧ W (i + 1) m' σ' H') ∧ ∀ x H', J.yld i H x H' → g x σ H' fun σ2 H2 => tb ⟨N, rt, nx, N⟩ σ2 H2)
def ItL (K : PySem.W.Frag) (R : It → Hp → Prop) (x : V) (H1 : Hp) : Prop := ∃ a, x = .ref a ∧ (∃ xs, SqL K H1 a xs) ∧ R (Itl K a) H1
def ItT (K : PySem.W.Frag) (R : It → Hp → Prop) (x : V) (H1 : Hp) : Prop := ∃ a, x = .ref a ∧ (∃ xs, SqT K H1 a xs) ∧ R (Itt K a) H1
def ItR1 (R : It → Hp → Prop) (vs : List V) (H1 : Hp) : Prop := ∃ j : Int, vs = [.int j] ∧ -(2 ^ 62) ≤ j ∧ j < 2 ^ 62 ∧ R (Itr 0 j.toNat) H1
def ItR2 (R : It → Hp → Prop) (vs : List V) (H1 : Hp) : Prop := ∃ i j : Int, vs = [.int i, .int j] ∧ (-(2 ^ 62) ≤ i ∧ i < 2 ^ 62 ∧ -(2 ^ 62) ≤ j ∧ j < 2 ^ 62) ∧ R (Itr i (j - i).toNat) H1
section
variable {K : PySem.W.Frag} {wi : TI} {g : TG} {tb : TS} {nx bk ct : L2.St → Hp → Prop} {rt : VK} {σ : L2.St} {H : Hp} {te : TE} {ta : TA} {R : It → Hp → Prop} {a : Addr} {xs : List V} {tt : TT} {vs : List Nat}
theorem w_for (h : wi σ H fun J H1 => ForB J g tb nx rt σ H1) : tFor wi g tb ⟨nx, rt, bk, ct⟩ σ H := h
theorem w_iL (h : te σ H fun x H1 => ItL K R x H1) : iList K te σ H R := h
theorem w_iT (h : te σ H fun x H1 => ItT K R x H1) : iTup K te σ H R := h
theorem w_iR1 (h : ta σ H fun vs H1 => ItR1 R vs H1) : iRng1 ta σ H R := h
theorem w_iR2 (h : ta σ H fun vs H1 => ItR2 R vs H1) : iRng2 ta σ H R := h
theorem for_L (Pv : Nat → L2.St → Hp → Prop) (hS : SqL K H a xs) (h0 : Pv 0 σ H) (hl : ∀ i σ H, i ≤ xs.length → Pv i σ H → SqL K H a xs)
    (hs : ∀ i x σ H, xs[i]? = some x → Pv i σ H → g x σ H fun σ2 H2 => tb ⟨Pv (i + 1), rt, nx, Pv (i + 1)⟩ σ2 H2) (hd : ∀ σ H, Pv xs.length σ H → nx σ H) :
    ItL K (fun J H1 => ForB J g tb nx rt σ H1) (.ref a) H :=
  ⟨a, rfl, ⟨xs, hS⟩, for_list (D := ⟨nx, rt, nx, nx⟩) Pv h0 hl hs hd⟩
theorem for_T (Pv : Nat → L2.St → Hp → Prop) (hS : SqT K H a xs) (h0 : Pv 0 σ H) (hl : ∀ i σ H, i ≤ xs.length → Pv i σ H → SqT K H a xs)
    (hs : ∀ i x σ H, xs[i]? = some x → Pv i σ H → g x σ H fun σ2 H2 => tb ⟨Pv (i + 1), rt, nx, Pv (i + 1)⟩ σ2 H2) (hd : ∀ σ H, Pv xs.length σ H → nx σ H) :
    ItT K (fun J H1 => ForB J g tb nx rt σ H1) (.ref a) H :=
  ⟨a, rfl, ⟨xs, hS⟩, for_tup (D := ⟨nx, rt, nx, nx⟩) Pv h0 hl hs hd⟩
theorem for_R1 {j : Int} (Pv : Nat → L2.St → Hp → Prop) (b1 : -(2 ^ 62) ≤ j) (b2 : j < 2 ^ 62) (h0 : Pv 0 σ H)
    (hs : ∀ i σ H, i < j.toNat → Pv i σ H → g (.int (0 + (i : Nat))) σ H fun σ2 H2 => tb ⟨Pv (i + 1), rt, nx, Pv (i + 1)⟩ σ2 H2) (hd : ∀ σ H, Pv j.toNat σ H → nx σ H) :
    ItR1 (fun J H1 => ForB J g tb nx rt σ H1) [.int j] H :=
  ⟨j, rfl, b1, b2, for_range (D := ⟨nx, rt, nx, nx⟩) Pv h0 hs hd⟩
theorem for_R2 {i j : Int} (Pv : Nat → L2.St → Hp → Prop) (b1 : -(2 ^ 62) ≤ i) (b2 : i < 2 ^ 62) (b3 : -(2 ^ 62) ≤ j) (b4 : j < 2 ^ 62) (h0 : Pv 0 σ H)
    (hs : ∀ m σ H, m < (j - i).toNat → Pv m σ H → g (.int (i + (m : Nat))) σ H fun σ2 H2 => tb ⟨Pv (m + 1), rt, nx, Pv (m + 1)⟩ σ2 H2) (hd : ∀ σ H, Pv (j - i).toNat σ H → nx σ H) :
    ItR2 (fun J H1 => ForB J g tb nx rt σ H1) [.int i, .int j] H :=
  ⟨i, j, rfl, ⟨b1, b2, b3, b4⟩, for_range (D := ⟨nx, rt, nx, nx⟩) Pv h0 hs hd⟩
/-- what a comprehension wants -/
def LcB (J : It) (g : TG) (tt : TT) (te : TE) (vs : List Nat) (σ : L2.St) (Q : VK) (H1 : Hp) : Prop := ∀ D, H1 D = none → ∃ W : Nat → Nat → Hp → Prop, (∃ m, W 0 m (upd H1 D (.lst []))) ∧ ∀ i m H, W i m H →
  (J.stop i H ∧ Q (.ref D) H) ∨ (J.go i H ∧ ∃ Nx : Hp → Prop, (∀ H', Nx H' → ∃ m', m' < m ∧ W (i + 1) m' H') ∧ ∀ x H', J.yld i H x H' → g x (wipe σ vs) H' fun σ2 H2 => wipe σ2 vs = wipe σ vs ∧ tt σ2 H2 fun b H3 =>
    if b = true then te σ2 H3 fun y H4 => ∃ acc, H4 D = some (.lst acc) ∧ acc.length < sizeLine ∧ Nx (upd H4 D (.lst (acc ++ [y]))) else Nx H3)
theorem w_lc {Q : VK} (h : wi σ H fun J H1 => LcB J g tt te vs σ Q H1) : tLc wi g tt te vs σ H Q := h
/-- a turn's end: the item is laid on -/
def LcE (D : Addr) (Nx : Hp → Prop) (y : V) (H4 : Hp) : Prop := ∃ acc, H4 D = some (.lst acc) ∧ acc.length < sizeLine ∧ Nx (upd H4 D (.lst (acc ++ [y])))
theorem lc_L {Q : VK} (Pv : Addr → Nat → Hp → Prop) (hS : SqL K H a xs) (h0 : ∀ D, H D = none → Pv D 0 (upd H D (.lst []))) (hl : ∀ D i H1, H D = none → i ≤ xs.length → Pv D i H1 → SqL K H1 a xs)
    (hs : ∀ D i x H1, H D = none → xs[i]? = some x → Pv D i H1 → g x (wipe σ vs) H1 fun σ2 H2 => wipe σ2 vs = wipe σ vs ∧ tt σ2 H2 fun b H3 => if b = true then te σ2 H3 fun y H4 => LcE D (Pv D (i + 1)) y H4 else Pv D (i + 1) H3)
    (hd : ∀ D H1, H D = none → Pv D xs.length H1 → Q (.ref D) H1) :
    ItL K (fun J H1 => LcB J g tt te vs σ Q H1) (.ref a) H :=
  ⟨a, rfl, ⟨xs, hS⟩, fun D hD => lc_list (Qd := fun H1 => Q (.ref D) H1) (Pv D) (h0 D hD) (fun i H1 hi p => hl D i H1 hD hi p) (fun i x H1 hx p => hs D i x H1 hD hx p) (fun H1 p => hd D H1 hD p)⟩
theorem lc_R1 {Q : VK} {j : Int} (Pv : Addr → Nat → Hp → Prop) (b1 : -(2 ^ 62) ≤ j) (b2 : j < 2 ^ 62) (h0 : ∀ D, H D = none → Pv D 0 (upd H D (.lst [])))
    (hs : ∀ D i H1, H D = none → i < j.toNat → Pv D i H1 → g (.int (0 + (i : Nat))) (wipe σ vs) H1 fun σ2 H2 => wipe σ2 vs = wipe σ vs ∧ tt σ2 H2 fun b H3 => if b = true then te σ2 H3 fun y H4 => LcE D (Pv D (i + 1)) y H4 else Pv D (i + 1) H3)
    (hd : ∀ D H1, H D = none → Pv D j.toNat H1 → Q (.ref D) H1) :
    ItR1 (fun J H1 => LcB J g tt te vs σ Q H1) [.int j] H :=
  ⟨j, rfl, b1, b2, fun D hD => lc_range (Qd := fun H1 => Q (.ref D) H1) (Pv D) (h0 D hD) (fun i H1 hi p => hs D i H1 hD hi p) (fun H1 p => hd D H1 hD p)⟩
theorem w_lcE {D : Addr} {Nx : Hp → Prop} {y : V} {acc : List V} (ha : H D = some (.lst acc)) (hl : acc.length < sizeLine) (h : Nx (upd H D (.lst (acc ++ [y])))) : LcE D Nx y H := ⟨acc, ha, hl, h⟩
theorem w_wipe {A : Prop} {σ1 σ2 : L2.St} (e : σ1 = σ2) (h : A) : σ1 = σ2 ∧ A := ⟨e, h⟩
theorem w_ttYes {QB : Bool → Hp → Prop} (h : QB true H) : tYes σ H QB := h
theorem w_isiT {x : V} {n t : String} {b : Bool} {Q : VK} (ty : TyX K H x (.type t)) (k : kitB t n = some b) (h : Q (.bl b) H) : rIsiN K [x, .ty n] H Q := w_isi ty k h
end
end U

/-! U2: data at any depth over the abstract heap (own work). -/
open PySem PySem.Spec PyProof.Rows L2
namespace L2
section
variable {K : PySem.W.Frag} {H H' : Hp}
theorem Same.seqT {a : Addr} {xs : List V} (e : Same H H') (h : SqT K H a xs) : SqT K H' a xs := by
  rcases h with (h | ⟨o, h⟩) | h
  · exact .inl (.inl (e _ _ h))
  · exact .inl (.inr ⟨o, e _ _ h⟩)
  · exact .inr h
theorem Same.seqL {a : Addr} {xs : List V} (e : Same H H') (h : SqL K H a xs) : SqL K H' a xs := e.seq h
mutual
theorem Dp.same (e : Same H H') : ∀ (d : PyData) (v : V), Dp K H v d → Dp K H' v d
  | .none, _, h => by cases h; exact .non
  | .bool b, _, h => by cases h; exact .bl b
  | .int i, _, h => by cases h; exact .int i
  | .str x, _, h => by cases h; exact .str x
  | .list ds, _, h => by
    cases h with
    | lst hs ha => exact .lst (Same.seqL e hs) (DpAll.same e ds _ ha)
  | .tuple ds, _, h => by
    cases h with
    | tup hs ha => exact .tup (Same.seqT e hs) (DpAll.same e ds _ ha)
  | .dict _, _, h => by cases h
theorem DpAll.same (e : Same H H') : ∀ (ds : List PyData) (vs : List V), DpAll K H vs ds → DpAll K H' vs ds
  | [], _, h => by cases h; exact .nil
  | d :: ds, _, h => by
    cases h with
    | cons h1 h2 => exact .cons (Dp.same e d _ h1) (DpAll.same e ds _ h2)
end
theorem Dp.up (e : Same H H') {d : PyData} {v : V} (h : Dp K H v d) : Dp K H' v d := Dp.same e d v h
theorem DpAll.up (e : Same H H') {ds : List PyData} {vs : List V} (h : DpAll K H vs ds) : DpAll K H' vs ds := DpAll.same e ds vs h
theorem DpAll.len : ∀ {vs : List V} {ds : List PyData}, DpAll K H vs ds → vs.length = ds.length
  | _, _, .nil => rfl
  | _, _, .cons _ t => by rw [List.length_cons, List.length_cons, DpAll.len t]
theorem DpAll.get : ∀ {vs : List V} {ds : List PyData} {i : Nat} {v : V}, DpAll K H vs ds → vs[i]? = some v → ∃ d, ds[i]? = some d ∧ Dp K H v d
  | _, _, _, _, .nil, e => by simp at e
  | _, _, 0, _, .cons r _, e => by simp at e; subst e; exact ⟨_, rfl, r⟩
  | _, _, i + 1, v, .cons _ t, e => by
    obtain ⟨d, h1, h2⟩ := DpAll.get (i := i) (v := v) t (by simpa using e)
    exact ⟨d, by simpa using h1, h2⟩
theorem DpAll.getD : ∀ {vs : List V} {ds : List PyData} {i : Nat} {d : PyData}, DpAll K H vs ds → ds[i]? = some d → ∃ v, vs[i]? = some v ∧ Dp K H v d
  | _, _, _, _, .nil, e => by simp at e
  | _, _, 0, _, .cons r _, e => by simp at e; subst e; exact ⟨_, rfl, r⟩
  | _, _, i + 1, d, .cons _ t, e => by
    obtain ⟨v, h1, h2⟩ := DpAll.getD (i := i) (d := d) t (by simpa using e)
    exact ⟨v, by simpa using h1, h2⟩
theorem DpAll.snoc : ∀ {vs : List V} {ds : List PyData} {v : V} {d : PyData}, DpAll K H vs ds → Dp K H v d → DpAll K H (vs ++ [v]) (ds ++ [d])
  | _, _, _, _, .nil, h => .cons h .nil
  | _, _, _, _, .cons r t, h => .cons r (DpAll.snoc t h)
theorem DpAll.app : ∀ {vs ws : List V} {ds es : List PyData}, DpAll K H vs ds → DpAll K H ws es → DpAll K H (vs ++ ws) (ds ++ es)
  | _, _, _, _, .nil, h => h
  | _, _, _, _, .cons r t, h => .cons r (DpAll.app t h)
theorem DpAll.take : ∀ {vs : List V} {ds : List PyData} (n : Nat), DpAll K H vs ds → DpAll K H (vs.take n) (ds.take n)
  | _, _, 0, _ => .nil
  | _, _, _ + 1, .nil => .nil
  | _, _, n + 1, .cons r t => .cons r (DpAll.take n t)
theorem DpAll.drop : ∀ {vs : List V} {ds : List PyData} (n : Nat), DpAll K H vs ds → DpAll K H (vs.drop n) (ds.drop n)
  | _, _, 0, h => h
  | _, _, _ + 1, .nil => .nil
  | _, _, n + 1, .cons _ t => DpAll.drop n t
theorem DpAll.set {v : V} {d : PyData} (r : Dp K H v d) : ∀ {vs : List V} {ds : List PyData} (i : Nat), DpAll K H vs ds → DpAll K H (vs.set i v) (ds.set i d)
  | _, _, _, .nil => .nil
  | _, _, 0, .cons _ t => .cons r t
  | _, _, i + 1, .cons q t => .cons q (DpAll.set r i t)
theorem DpAll.ints : ∀ (ns : List Int), DpAll K H (ns.map V.int) (ns.map PyData.int)
  | [] => .nil
  | n :: r => .cons (.int n) (DpAll.ints r)
theorem dpAll_ints : ∀ {ns : List Int} {vs : List V}, DpAll K H vs (ns.map PyData.int) → vs = ns.map V.int
  | [], _, h => by cases h; rfl
  | n :: r, _, h => by
    cases h with
    | cons h1 h2 =>
      cases h1
      rw [dpAll_ints h2]
      rfl
theorem dp_int {v : V} {i : Int} (h : Dp K H v (.int i)) : v = .int i := by cases h; rfl
theorem dp_str {v : V} {x : Str} (h : Dp K H v (.str x)) : v = .str x := by cases h; rfl
theorem dp_non {v : V} (h : Dp K H v .none) : v = .non := by cases h; rfl
theorem dp_tup {v : V} {ds : List PyData} (h : Dp K H v (.tuple ds)) : ∃ p vs, v = .ref p ∧ SqT K H p vs ∧ DpAll K H vs ds := by
  cases h with
  | tup hs ha => exact ⟨_, _, rfl, hs, ha⟩
theorem dp_lst {v : V} {ds : List PyData} (h : Dp K H v (.list ds)) : ∃ p vs, v = .ref p ∧ SqL K H p vs ∧ DpAll K H vs ds := by
  cases h with
  | lst hs ha => exact ⟨_, _, rfl, hs, ha⟩
theorem dpa_nil {vs : List V} (h : DpAll K H vs []) : vs = [] := by cases h; rfl
theorem dpa_cons {vs : List V} {d : PyData} {ds : List PyData} (h : DpAll K H vs (d :: ds)) : ∃ v ws, vs = v :: ws ∧ Dp K H v d ∧ DpAll K H ws ds := by
  cases h with
  | cons h1 h2 => exact ⟨_, _, rfl, h1, h2⟩
/-- tuples of one, two, three, .. things -/
theorem dp_tup1 {v : V} {d1 : PyData} (h : Dp K H v (.tuple [d1])) : ∃ p v1, v = .ref p ∧ SqT K H p [v1] ∧ Dp K H v1 d1 := by
  obtain ⟨p, vs, e, s, a⟩ := dp_tup h
  obtain ⟨v1, w1, rfl, h1, a⟩ := dpa_cons a
  cases dpa_nil a
  exact ⟨p, v1, e, s, h1⟩
theorem dp_tup2 {v : V} {d1 d2 : PyData} (h : Dp K H v (.tuple [d1, d2])) : ∃ p v1 v2, v = .ref p ∧ SqT K H p [v1, v2] ∧ Dp K H v1 d1 ∧ Dp K H v2 d2 := by
  obtain ⟨p, vs, e, s, a⟩ := dp_tup h
  obtain ⟨v1, w1, rfl, h1, a⟩ := dpa_cons a
  obtain ⟨v2, w2, rfl, h2, a⟩ := dpa_cons a
  cases dpa_nil a
  exact ⟨p, v1, v2, e, s, h1, h2⟩
theorem dp_tup3 {v : V} {d1 d2 d3 : PyData} (h : Dp K H v (.tuple [d1, d2, d3])) : ∃ p v1 v2 v3, v = .ref p ∧ SqT K H p [v1, v2, v3] ∧ Dp K H v1 d1 ∧ Dp K H v2 d2 ∧ Dp K H v3 d3 := by
  obtain ⟨p, vs, e, s, a⟩ := dp_tup h
  obtain ⟨v1, w1, rfl, h1, a⟩ := dpa_cons a
  obtain ⟨v2, w2, rfl, h2, a⟩ := dpa_cons a
  obtain ⟨v3, w3, rfl, h3, a⟩ := dpa_cons a
  cases dpa_nil a
  exact ⟨p, v1, v2, v3, e, s, h1, h2, h3⟩
theorem dp_tup4 {v : V} {d1 d2 d3 d4 : PyData} (h : Dp K H v (.tuple [d1, d2, d3, d4])) : ∃ p v1 v2 v3 v4, v = .ref p ∧ SqT K H p [v1, v2, v3, v4] ∧ Dp K H v1 d1 ∧ Dp K H v2 d2 ∧ Dp K H v3 d3 ∧ Dp K H v4 d4 := by
  obtain ⟨p, vs, e, s, a⟩ := dp_tup h
  obtain ⟨v1, w1, rfl, h1, a⟩ := dpa_cons a
  obtain ⟨v2, w2, rfl, h2, a⟩ := dpa_cons a
  obtain ⟨v3, w3, rfl, h3, a⟩ := dpa_cons a
  obtain ⟨v4, w4, rfl, h4, a⟩ := dpa_cons a
  cases dpa_nil a
  exact ⟨p, v1, v2, v3, v4, e, s, h1, h2, h3, h4⟩
theorem dp_tup5 {v : V} {d1 d2 d3 d4 d5 : PyData} (h : Dp K H v (.tuple [d1, d2, d3, d4, d5])) : ∃ p v1 v2 v3 v4 v5, v = .ref p ∧ SqT K H p [v1, v2, v3, v4, v5] ∧ Dp K H v1 d1 ∧ Dp K H v2 d2 ∧ Dp K H v3 d3 ∧ Dp K H v4 d4 ∧ Dp K H v5 d5 := by
  obtain ⟨p, vs, e, s, a⟩ := dp_tup h
  obtain ⟨v1, w1, rfl, h1, a⟩ := dpa_cons a
  obtain ⟨v2, w2, rfl, h2, a⟩ := dpa_cons a
  obtain ⟨v3, w3, rfl, h3, a⟩ := dpa_cons a
  obtain ⟨v4, w4, rfl, h4, a⟩ := dpa_cons a
  obtain ⟨v5, w5, rfl, h5, a⟩ := dpa_cons a
  cases dpa_nil a
  exact ⟨p, v1, v2, v3, v4, v5, e, s, h1, h2, h3, h4, h5⟩
/-- a list that was just laid -/
theorem dp_newT {p : Addr} {xs : List V} {ds : List PyData} (h : H p = some (.tup xs)) (a : DpAll K H xs ds) : Dp K H (.ref p) (.tuple ds) := .tup (SqT.of h) a
theorem dp_newL {p : Addr} {xs : List V} {ds : List PyData} (h : H p = some (.lst xs)) (a : DpAll K H xs ds) : Dp K H (.ref p) (.list ds) := .lst (SqL.of h) a
/-- .. of a new tuple over older parts -/
theorem dp_tupN {p : Addr} {xs : List V} {ds : List PyData} (n : H p = none) (a : DpAll K H xs ds) : Dp K (upd H p (.tup xs)) (.ref p) (.tuple ds) := .tup (SqT.of upd_same) (a.up (U.same_new n _))
theorem dp_lstN {p : Addr} {xs : List V} {ds : List PyData} (n : H p = none) (a : DpAll K H xs ds) : Dp K (upd H p (.lst xs)) (.ref p) (.list ds) := .lst (SqL.of upd_same) (a.up (U.same_new n _))
end
/-! ### data that may be compared -/
theorem canLayAll_of : ∀ {ds : List PyData}, (∀ d ∈ ds, d.canLay0 = true) → PyData.canLayAll0 ds = true
  | [], _ => rfl
  | d :: r, h => by
    show (d.canLay0 && PyData.canLayAll0 r) = true
    rw [h d (List.mem_cons_self ..), canLayAll_of fun e he => h e (List.mem_cons_of_mem _ he)]
    rfl
theorem depthAll_of : ∀ {ds : List PyData} {n : Nat}, (∀ d ∈ ds, d.depth ≤ n) → PyData.depthAll ds ≤ n
  | [], _, _ => Nat.zero_le _
  | d :: r, n, h => by
    show max d.depth (PyData.depthAll r) ≤ n
    exact Nat.max_le.mpr ⟨h d (List.mem_cons_self ..), depthAll_of fun e he => h e (List.mem_cons_of_mem _ he)⟩
theorem shaped_of {d : PyData} (h : d.canLay0 = true) (h2 : d.depth ≤ 64) : SeqAt.shaped d = true := by
  unfold SeqAt.shaped
  rw [h, decide_eq_true h2]
  rfl
theorem canLay_of {d : PyData} (h : SeqAt.shaped d = true) : d.canLay0 = true := (Bool.and_eq_true_iff.mp h).1
theorem depth_of {d : PyData} (h : SeqAt.shaped d = true) : d.depth ≤ 64 := of_decide_eq_true (Bool.and_eq_true_iff.mp h).2
theorem shaped_list {ds : List PyData} {n : Nat} (h : ∀ d ∈ ds, d.canLay0 = true ∧ d.depth ≤ n) (hn : n < 64) : SeqAt.shaped (.list ds) = true :=
  shaped_of (canLayAll_of fun d hd => (h d hd).1) (Nat.succ_le_of_lt (Nat.lt_of_le_of_lt (depthAll_of fun d hd => (h d hd).2) hn))
theorem w_neD {K : PySem.W.Frag} {H : Hp} {Q : VK} {x y : V} {d : PyData} (hx : Dp K H x d) (hy : Dp K H y d) (s : SeqAt.shaped d = true) (h : Q (.bl false) H) : rNeD K x y H Q :=
  ⟨d, d, hx, hy, s, s, by rw [SeqAt.eqv_refl d (canLay_of s)]; exact h⟩
theorem w_eqD {K : PySem.W.Frag} {H : Hp} {Q : VK} {x y : V} {d : PyData} (hx : Dp K H x d) (hy : Dp K H y d) (s : SeqAt.shaped d = true) (h : Q (.bl true) H) : rEqD K x y H Q :=
  ⟨d, d, hx, hy, s, s, by rw [SeqAt.eqv_refl d (canLay_of s)]; exact h⟩
end L2

/-! U3: a heap with a part that never changes (the region), and how both grow (own work). -/
namespace U
open PySem PySem.Spec PyProof.Rows L2
/-- from (R, H) to (R', H'): R' holds R and new objects alone, H' holds R'; outside of W nothing that stood changed -/
structure Gw (W : List Addr) (R H R' H' : Hp) : Prop where
  sub : Same R' H'
  ext : Same R R'
  out : ∀ a, R' a ≠ none → R a ≠ none ∨ H a = none
  kee : ∀ a o, H a = some o → a ∉ W → H' a = some o
  dom : ∀ a, H a ≠ none → H' a ≠ none
section
variable {W : List Addr} {R H R' H' R1 H1 R2 H2 : Hp} {p m : Addr} {o u : HO}
theorem Gw.refl (s : Same R H) : Gw W R H R H := ⟨s, Same.refl R, fun _ h => .inl h, fun _ _ h _ => h, fun _ h => h⟩
theorem Gw.trans (a : Gw W R H R1 H1) (b : Gw W R1 H1 R2 H2) : Gw W R H R2 H2 where
  sub := b.sub
  ext := a.ext.trans b.ext
  out := fun c h => by
    rcases b.out c h with q | q
    · exact a.out c q
    · refine .inr ?_
      cases e : H c with
      | none => rfl
      | some o => exact absurd q (a.dom c (by rw [e]; exact fun z => nomatch z))
  kee := fun c o h n => b.kee c o (a.kee c o h n) n
  dom := fun c h => b.dom c (a.dom c h)
theorem nn_of {a : Addr} {o : HO} (h : H a = some o) : H a ≠ none := by rw [h]; exact fun z => nomatch z
theorem none_of {a : Addr} (h : ¬ H a ≠ none) : H a = none := Classical.byContradiction h
/-- a new thing that never changes -/
theorem Gw.new (g : Gw W R H R1 H1) (n : H1 p = none) (o : HO) : Gw W R H (upd R1 p o) (upd H1 p o) := g.trans {
  sub := fun a u h => by
    by_cases e : a = p
    · subst e; rw [upd_same] at h ⊢; exact h
    · rw [upd_ne e] at h ⊢; exact g.sub a u h
  ext := fun a u h => by
    by_cases e : a = p
    · subst e; have := g.sub _ _ h; rw [n] at this; cases this
    · rw [upd_ne e]; exact h
  out := fun a h => by
    by_cases e : a = p
    · subst e; exact .inr n
    · rw [upd_ne e] at h; exact .inl h
  kee := fun a u h _ => by rw [upd_ne (ne_of_none h n)]; exact h
  dom := fun a h => by
    by_cases e : a = p
    · subst e; exact absurd n h
    · rw [upd_ne e]; exact h }
/-- a new thing that will change -/
theorem Gw.newM (g : Gw W R H R1 H1) (n : H1 p = none) (o : HO) : Gw W R H R1 (upd H1 p o) := g.trans {
  sub := fun a u h => by
    rw [upd_ne (ne_of_none (g.sub a u h) n)]; exact g.sub a u h
  ext := Same.refl _
  out := fun a h => .inl h
  kee := fun a u h _ => by rw [upd_ne (ne_of_none h n)]; exact h
  dom := fun a h => by
    by_cases e : a = p
    · subst e; exact absurd n h
    · rw [upd_ne e]; exact h }
/-- a change -/
theorem Gw.mut (g : Gw W R H R1 H1) (hm : m ∈ W ∨ H m = none) (hr : R1 m = none) (o : HO) : Gw W R H R1 (upd H1 m o) where
  sub := fun a u h => by
    rw [upd_ne (ne_of_none h hr)]; exact g.sub a u h
  ext := g.ext
  out := g.out
  kee := fun a u h n => by
    by_cases e : a = m
    · subst e
      rcases hm with q | q
      · exact absurd q n
      · rw [h] at q; cases q
    · rw [upd_ne e]; exact g.kee a u h n
  dom := fun a h => by
    by_cases e : a = m
    · subst e; rw [upd_same]; exact fun z => nomatch z
    · rw [upd_ne e]; exact g.dom a h
/-- a thing that stays from now on -/
theorem Gw.frz (g : Gw W R H R1 H1) (n : H m = none) (h1 : H1 m = some o) (hr : R1 m = none) : Gw W R H (upd R1 m o) H1 where
  sub := fun a u h => by
    by_cases e : a = m
    · subst e; rw [upd_same] at h; rw [h1]; exact h
    · rw [upd_ne e] at h; exact g.sub a u h
  ext := fun a u h => by
    have q := g.ext a u h
    rw [upd_ne (ne_of_none q hr)]; exact q
  out := fun a h => by
    by_cases e : a = m
    · subst e; exact .inr n
    · rw [upd_ne e] at h; exact g.out a h
  kee := g.kee
  dom := g.dom
theorem Gw.mono {W' : List Addr} (g : Gw W R H R1 H1) (h : ∀ a ∈ W, a ∈ W' ∨ H a = none) : Gw W' R H R1 H1 where
  sub := g.sub
  ext := g.ext
  out := g.out
  kee := fun a u q n => g.kee a u q fun z => by
    rcases h a z with y | y
    · exact n y
    · rw [q] at y; cases y
  dom := g.dom
/-- .. behind a start of one's own: what the later step may change is new or allowed -/
theorem Gw.then {W' : List Addr} (a : Gw W R H R1 H1) (b : Gw W' R1 H1 R2 H2) (h : ∀ a ∈ W', a ∈ W ∨ H a = none) : Gw W R H R2 H2 where
  sub := b.sub
  ext := a.ext.trans b.ext
  out := fun c h => by
    rcases b.out c h with q | q
    · exact a.out c q
    · refine .inr ?_
      cases e : H c with
      | none => rfl
      | some o => exact absurd q (a.dom c (by rw [e]; exact fun z => nomatch z))
  kee := fun c o q n => b.kee c o (a.kee c o q n) fun z => by
    rcases h c z with y | y
    · exact n y
    · rw [q] at y; cases y
  dom := fun c h => b.dom c (a.dom c h)
/-- what is not of the region stays so, if it stood -/
theorem Gw.notR (g : Gw W R H R1 H1) (h : H m ≠ none) (hr : R m = none) : R1 m = none := by
  refine none_of fun z => ?_
  rcases g.out m z with q | q
  · exact q hr
  · exact h q
theorem Gw.noR (g : Gw W R H R1 H1) (n : H1 m = none) : R1 m = none := g.sub.free n
theorem Gw.no (g : Gw W R H R1 H1) (n : H1 m = none) : H m = none := none_of fun z => g.dom m z n
theorem Gw.at {a : Addr} {o : HO} (g : Gw W R H R1 H1) (h : H a = some o) (n : a ∉ W) : H1 a = some o := g.kee a o h n
theorem Gw.of_same (s : Same R H) (s' : Same H H1) : Gw W R H R H1 where
  sub := s.trans s'
  ext := Same.refl R
  out := fun a h => .inl h
  kee := fun a o h _ => s' a o h
  dom := fun a h => by
    cases e : H a with
    | none => exact absurd e h
    | some o => exact nn_of (s' a o e)
end
/-! ### comprehensions that make lists of data -/
section
variable {K : PySem.W.Frag} {W : List Addr} {R H : Hp} {g : TG} {tt : TT} {te : TE} {vs : List Nat} {σ : L2.St} {a : Addr} {xs : List V} {Q : VK}
/-- the invariant: D, new and not of the region, holds what stands for ds -/
def LcP (K : PySem.W.Frag) (W : List Addr) (R H : Hp) (ds : List PyData) (D : Addr) (H1 : Hp) : Prop := ∃ R1 ys, Gw W R H R1 H1 ∧ H1 D = some (.lst ys) ∧ R1 D = none ∧ DpAll K R1 ys ds
theorem lcP_nil (s : Same R H) (D : Addr) (n : H D = none) : LcP K W R H [] D (upd H D (.lst [])) := ⟨R, [], (Gw.refl s).newM n _, upd_same, s.free n, .nil⟩
theorem lcP_put {ds : List PyData} {d : PyData} {D : Addr} {R1 H1 R2 H2 : Hp} {ys : List V} {y : V} (n : H D = none) (hD : D ∉ W) (g1 : Gw W R H R1 H1) (h1 : H1 D = some (.lst ys)) (r1 : R1 D = none) (a1 : DpAll K R1 ys ds) (hl : ds.length < 100000)
    (g2 : Gw W R1 H1 R2 H2) (hy : Dp K R2 y d) : LcE D (LcP K W R H (ds ++ [d]) D) y H2 :=
  ⟨ys, g2.at h1 hD, by rw [a1.len]; exact szlt hl, R2, ys ++ [y], (g1.trans g2).mut (.inr n) (g2.notR (nn_of h1) r1) _, upd_same, g2.notR (nn_of h1) r1, (a1.up g2.ext).snoc hy⟩
theorem lcP_end {ds : List PyData} {D : Addr} {H1 : Hp} (h : LcP K W R H ds D H1) (n : H D = none) (k : ∀ R1 ys, Gw W R H R1 H1 → H1 D = some (.lst ys) → R1 D = none → DpAll K R1 ys ds → Q (.ref D) H1) : Q (.ref D) H1 := by
  obtain ⟨R1, ys, g, h1, r1, a1⟩ := h
  exact k R1 ys g h1 r1 a1
theorem take_succ {α : Type} {l : List α} {i : Nat} {x : α} (h : l[i]? = some x) : l.take (i + 1) = l.take i ++ [x] := by
  rw [List.take_add_one, h]
  rfl
theorem range_get {n i j : Nat} (h : (List.range n)[i]? = some j) : i < n ∧ j = i := by
  obtain ⟨h1, h2⟩ := List.getElem?_eq_some_iff.mp h
  rw [List.getElem_range] at h2
  rw [List.length_range] at h1
  exact ⟨h1, h2.symm⟩
/-- [te for x in l], without a test: the i-th item stands for ds[i] -/
theorem lc_data (ds : List PyData) (s : Same R H) (hW : ∀ D, H D = none → D ∉ W) (hS : SqL K R a xs) (hl : xs.length = ds.length) (hz : ds.length < 100000)
    (turn : ∀ (i : Nat) (x : V) (d : PyData) (R1 H1 : Hp) (N : V → Hp → Prop), xs[i]? = some x → ds[i]? = some d → Gw W R H R1 H1 → (∀ y R2 H2, Gw W R1 H1 R2 H2 → Dp K R2 y d → N y H2) →
      g x (wipe σ vs) H1 fun σ2 H2 => wipe σ2 vs = wipe σ vs ∧ tt σ2 H2 fun b H3 => b = true ∧ te σ2 H3 N)
    (mono : ∀ x σ H P P', (∀ σ2 H2, P σ2 H2 → P' σ2 H2) → g x σ H P → g x σ H P') (monoT : ∀ σ H P P', (∀ b H2, P b H2 → P' b H2) → tt σ H P → tt σ H P')
    (done : ∀ D R1 H1 ys, Gw W R H R1 H1 → H D = none → H1 D = some (.lst ys) → R1 D = none → DpAll K R1 ys ds → Q (.ref D) H1) :
    ItL K (fun J H1 => LcB J g tt te vs σ Q H1) (.ref a) H := by
  refine lc_L (fun D i H1 => LcP K W R H (ds.take i) D H1) (Same.seqL s hS) (fun D n => by rw [List.take_zero]; exact lcP_nil s D n) (fun D i H1 _ _ p => ?_) (fun D i x H1 n hx p => ?_) (fun D H1 n p => ?_)
  · obtain ⟨R1, ys, g1, _⟩ := p
    exact Same.seqL (g1.ext.trans g1.sub) hS
  · obtain ⟨R1, ys, g1, h1, r1, a1⟩ := p
    have hi : i < ds.length := by
      rw [← hl]
      exact (List.getElem?_eq_some_iff.mp hx).1
    have hd : ds[i]? = some ds[i] := List.getElem?_eq_getElem hi
    refine mono _ _ _ _ _ (fun σ2 H2 q => ⟨q.1, monoT _ _ _ _ (fun b H3 q => ?_) q.2⟩) (turn i x ds[i] R1 H1 (fun y H4 => LcE D (LcP K W R H (ds.take (i + 1)) D) y H4) hx hd g1 fun y R2 H2 g2 hy => ?_)
    · rw [q.1, if_pos rfl]
      exact q.2
    · rw [take_succ hd]
      exact lcP_put n (hW D n) g1 h1 r1 a1 (by rw [List.length_take]; omega) g2 hy
  · rw [hl, List.take_length] at p
    exact lcP_end p n fun R1 ys g1 h1 r1 a1 => done D R1 H1 ys g1 n h1 r1 a1
/-- .. over range(j) -/
theorem lc_dataR {j : Int} (ds : List PyData) (s : Same R H) (hW : ∀ D, H D = none → D ∉ W) (b1 : -(2 ^ 62) ≤ j) (b2 : j < 2 ^ 62) (hl : j.toNat = ds.length) (hz : ds.length < 100000)
    (turn : ∀ (i : Nat) (d : PyData) (R1 H1 : Hp) (N : V → Hp → Prop), ds[i]? = some d → Gw W R H R1 H1 → (∀ y R2 H2, Gw W R1 H1 R2 H2 → Dp K R2 y d → N y H2) →
      g (.int (0 + (i : Nat))) (wipe σ vs) H1 fun σ2 H2 => wipe σ2 vs = wipe σ vs ∧ tt σ2 H2 fun b H3 => b = true ∧ te σ2 H3 N)
    (mono : ∀ x σ H P P', (∀ σ2 H2, P σ2 H2 → P' σ2 H2) → g x σ H P → g x σ H P') (monoT : ∀ σ H P P', (∀ b H2, P b H2 → P' b H2) → tt σ H P → tt σ H P')
    (done : ∀ D R1 H1 ys, Gw W R H R1 H1 → H D = none → H1 D = some (.lst ys) → R1 D = none → DpAll K R1 ys ds → Q (.ref D) H1) :
    ItR1 (fun J H1 => LcB J g tt te vs σ Q H1) [.int j] H := by
  refine lc_R1 (fun D i H1 => LcP K W R H (ds.take i) D H1) b1 b2 (fun D n => by rw [List.take_zero]; exact lcP_nil s D n) (fun D i H1 n hi p => ?_) (fun D H1 n p => ?_)
  · obtain ⟨R1, ys, g1, h1, r1, a1⟩ := p
    have hi : i < ds.length := by omega
    have hd : ds[i]? = some ds[i] := List.getElem?_eq_getElem hi
    refine mono _ _ _ _ _ (fun σ2 H2 q => ⟨q.1, monoT _ _ _ _ (fun b H3 q => ?_) q.2⟩) (turn i ds[i] R1 H1 (fun y H4 => LcE D (LcP K W R H (ds.take (i + 1)) D) y H4) hd g1 fun y R2 H2 g2 hy => ?_)
    · rw [q.1, if_pos rfl]
      exact q.2
    · rw [take_succ hd]
      exact lcP_put n (hW D n) g1 h1 r1 a1 (by rw [List.length_take]; omega) g2 hy
  · rw [hl, List.take_length] at p
    exact lcP_end p n fun R1 ys g1 h1 r1 a1 => done D R1 H1 ys g1 n h1 r1 a1
/-- a comprehension whose test always fails -/
theorem lc_none (hS : SqL K H a xs) (turn : ∀ (i : Nat) (x : V) (D : Addr), xs[i]? = some x → H D = none → g x (wipe σ vs) (upd H D (.lst [])) fun σ2 H2 => wipe σ2 vs = wipe σ vs ∧ tt σ2 H2 fun b H3 => if b = true then te σ2 H3 fun y H4 => LcE D (fun H1 => H1 = upd H D (.lst [])) y H4 else H3 = upd H D (.lst []))
    (done : ∀ D, H D = none → Q (.ref D) (upd H D (.lst []))) : ItL K (fun J H1 => LcB J g tt te vs σ Q H1) (.ref a) H :=
  lc_L (fun D i H1 => H1 = upd H D (.lst [])) hS (fun D _ => rfl) (fun D i H1 n _ p => by rw [p]; exact Same.seqL (same_new n _) hS) (fun D i x H1 n hx p => by subst p; exact turn i x D hx n) (fun D H1 n p => by subst p; exact done D n)
theorem mono_gName (i : Nat) : ∀ x σ H P P', (∀ σ2 H2, P σ2 H2 → P' σ2 H2) → gName i x σ H P → gName i x σ H P' := fun _ _ _ _ _ h q => h _ _ q
theorem mono_yes : ∀ σ H (P P' : Bool → Hp → Prop), (∀ b H2, P b H2 → P' b H2) → tYes σ H P → tYes σ H P' := fun _ _ _ _ h q => h _ _ q
end
end U

/-! U4: the end: what the head tells of defs and built-in names (own work). -/
namespace U
open PySem PySem.Spec PyProof.Rows L2 He
def mkD (q : Str × Stmt) : DefD := ⟨(q.1, none), q.1, q.1, defArgs q.2, defBody q.2, defScope q.2, [], []⟩
def biNames : List Str := ["len", "range", "list", "isinstance", "int", "bool", "str", "tuple", "enumerate", "zip", "min", "max", "sum", "reversed"]
def faOf (ds : List (Str × Stmt)) : List Fa := biNames.map Fa.free ++ ds.map fun q => Fa.glo q.1
section
variable {fa : List Fa} {fn : List DefD} {K : PySem.W.Frag} {h : Heap} {mg : Str → Option Value} {ds : List (Str × Stmt)}
theorem bi_of (X : K.In h) (G : h.Ns mainGlobals mg) (c : SaysD fa fn K) (hf : ∀ x ∈ biNames, Fa.free x ∈ fa) : Bi mg := by
  have f : ∀ x ∈ biNames, mg x = none := fun x hx => free_ok X G (c.facts (hf x hx))
  exact ⟨f _ (by decide), f _ (by decide), f _ (by decide), f _ (by decide), f _ (by decide), f _ (by decide), f _ (by decide), f _ (by decide), f _ (by decide), f _ (by decide), f _ (by decide), f _ (by decide), f _ (by decide), f _ (by decide)⟩
theorem df_of (X : K.In h) (G : h.Ns mainGlobals mg) (c : SaysD fa fn K) {x : Str} {st : Stmt} (hf : Fa.glo x ∈ fa) (hd : mkD (x, st) ∈ fn) : Df K mg x st := by
  obtain ⟨fd, F⟩ := c.defs hd
  exact ⟨_, fd, F, glo_ok X G (c.facts hf)⟩
theorem df_i (X : K.In h) (G : h.Ns mainGlobals mg) (c : SaysD (faOf ds) (ds.map mkD) K) (i : Nat) {x : Str} {st : Stmt} (e : ds[i]? = some (x, st) := by rfl) : Df K mg x st := by
  have m : (x, st) ∈ ds := List.mem_of_getElem? e
  exact df_of X G c (List.mem_append.mpr (.inr (List.mem_map.mpr ⟨_, m, rfl⟩))) (List.mem_map.mpr ⟨_, m, rfl⟩)
theorem bi_i (X : K.In h) (G : h.Ns mainGlobals mg) (c : SaysD (faOf ds) (ds.map mkD) K) : Bi mg := bi_of X G c fun x hx => List.mem_append.mpr (.inl (List.mem_map.mpr ⟨x, hx, rfl⟩))
end
/-- what is wanted of the law's def -/
def spTrue (K : PySem.W.Frag) : Sp := fun vs H Q _ => ∃ (a : Addr) (ns : List Int), vs = [.ref a] ∧ SqL K H a (ns.map V.int) ∧ ns.length ≤ 63 ∧ ∀ H', Q (.bl true) H'
abbrev LawF (K : PySem.W.Frag) (st : Stmt) (f : Addr) (fd : FuncData) : Prop := FunD K "law" "law" (defArgs st) (defBody st) (defScope st) [] [] f fd
theorem law0 {P : Program} {w : World} {K : PySem.W.Frag} {mg : Str → Option Value} {base : Heap} {k : Nat} {st : Stmt} {N ps : List Str} {sp : Sp} (S : FnScope N ps (defScope st)) (len : ∀ vs H Q E, sp vs H Q E → vs.length = ps.length)
    (hbody : ∀ (f : Addr) (cdv : Value) (A : Around) (outer : List Env) (s : Shared) (H : Hp) (vs : List V) (Q : VK) (E : XK), Room k (A.deeper (envOfC "law" (defScope st) s.heap.objs.size f cdv)) → sp vs H Q E →
      ∃ t, PSs (cxOf CX0 P w K mg base N "law" (defScope st) f cdv A outer s H E).nox (defBody st) t ∧ t { nx := fun _ H' => Q .non H', rt := Q } (start N vs) H) :
    ∀ f fd, LawF K st f fd → FnOk P w K mg base CX0 (k + 1) f fd ps sp := fun f fd F => F.ok S len fun cdv A outer s H vs Q E hr h => by
  obtain ⟨t, h1, h2⟩ := hbody f cdv A outer s H vs Q E hr h
  exact ⟨t, h1.nox, h2⟩
/-- the walk of a law whose def is the last of ds -/
theorem walk_my {l : PySem.W.OpenLaw} {k n j : Nat} {q : Program} {loose : List Str} {XP : (Str → Option Value) → Heap → Prop} {d : DefRec} {x : Str} {ds : List (Str × Stmt)} {st : Stmt}
    (hn : l.most = some 63) (hdf : d.params.defaults = []) (hr : Room k callerA) (hname : d.name = ("law" : Str)) (hl : ds[j]? = some (("law" : Str), st))
    (hbind : ∀ (kV doc pm : Value) (an : Option Addr) (cdv ct : Value) (us : List Value), us.length = [x].length → bindArgs (PySem.W.fnOf "law" "law" (defArgs st) (defBody st) (defScope st) .none kV doc pm an cdv ct) ⟨us, []⟩ = pure ([x].zip us))
    (F : ∀ (w : World) (K : PySem.W.Frag) (mg : Str → Option Value) (h base : Heap), K.In h → h.Ns mainGlobals mg → SaysD (faOf ds) (ds.map mkD) K → K.In base → base.Ns mainGlobals mg → ∀ f fd, LawF K st f fd → FnOk l.prog w K mg base CX0 k f fd [x] (spTrue K)) :
    PySem.W.WalkO q loose XP (hookD n (faOf ds) (ds.map mkD)).says l.row.toRowW d [] (fun f vs => PySem.call f vs) := by
  refine L2.walk_ofE (l := l) (n := 63) (k := k) (x := x) (CX := L2.CX0) hn (by decide) hdf hr ?_ (fun _ _ _ _ z => z)
  intro w mg fa h Y G hmg
  obtain ⟨K, KX, c⟩ := Y
  rw [hname] at hmg
  have m : (("law" : Str), st) ∈ ds := List.mem_of_getElem? hl
  obtain ⟨fd, FD⟩ := c.defs (d := mkD ("law", st)) (List.mem_map.mpr ⟨_, m, rfl⟩)
  have e : fa = ga K "law" := by
    have e1 := glo_ok KX G (c.facts (f := .glo "law") (List.mem_append.mpr (.inr (List.mem_map.mpr ⟨_, m, rfl⟩))))
    rw [hmg] at e1
    exact Value.ref.inj (Option.some.inj e1)
  have FD' : LawF K st fa fd := by rw [e]; exact FD
  have b := FunD.bindsA (ps := [x]) FD' hbind
  exact ⟨K, fd, spTrue K, KX, fun s u => b s [u] rfl, fun H a ns hl _ hS => ⟨a, ns, rfl, hS, hl, fun _ => rfl⟩, fun base hb hg => F w K mg h base KX G c hb hg fa fd FD'⟩
end U

/-! U5: things of one's own that change, apart from the region; classes, methods, defs held by names (own work). -/
namespace U
open PySem PySem.Spec PyProof.Rows L2
/-! ### things that change -/
/-- what stands at L's addresses, each once, none of the region, none known at the start B -/
def Own (R B H : Hp) (L : List (Addr × HO)) : Prop := (L.map (·.1)).Nodup ∧ ∀ q ∈ L, H q.1 = some q.2 ∧ B q.1 = none ∧ R q.1 = none
structure Sta (W : List Addr) (R0 B R H : Hp) (L : List (Addr × HO)) : Prop where
  g : Gw W R0 B R H
  o : Own R B H L
section
variable {W : List Addr} {R0 B R H R1 H1 : Hp} {L L' : List (Addr × HO)} {a b p : Addr} {o u : HO} {i j : Nat}
theorem Sta.get (S : Sta W R0 B R H L) (i : Nat) (e : L[i]? = some (a, o)) : H a = some o := (S.o.2 _ (List.mem_of_getElem? e)).1
theorem Sta.noB (S : Sta W R0 B R H L) (i : Nat) (e : L[i]? = some (a, o)) : B a = none := (S.o.2 _ (List.mem_of_getElem? e)).2.1
theorem Sta.noR (S : Sta W R0 B R H L) (i : Nat) (e : L[i]? = some (a, o)) : R a = none := (S.o.2 _ (List.mem_of_getElem? e)).2.2
theorem Sta.old (S : Sta W R0 B R H L) : Same R0 H := S.g.ext.trans S.g.sub
theorem Sta.sub' (S : Sta W R0 B R H L) : Same R H := S.g.sub
theorem Sta.ext' (S : Sta W R0 B R H L) : Same R0 R := S.g.ext
theorem keys_set : ∀ {L : List (Addr × HO)} {i : Nat}, L[i]? = some (a, o) → (L.set i (a, u)).map (·.1) = L.map (·.1)
  | [], _, e => by simp at e
  | x :: r, 0, e => by
    have q : x = (a, o) := by simpa using e
    subst q
    rfl
  | x :: r, i + 1, e => by
    have q : r[i]? = some (a, o) := by simpa using e
    show x.1 :: (r.set i (a, u)).map (·.1) = x.1 :: r.map (·.1)
    rw [keys_set q]
theorem mem_set_own (nd : (L.map (·.1)).Nodup) (e : L[i]? = some (a, o)) {q : Addr × HO} (h : q ∈ L.set i (a, u)) : q = (a, u) ∨ (q ∈ L ∧ q.1 ≠ a) := by
  obtain ⟨k, hk⟩ := List.mem_iff_getElem?.mp h
  rw [List.getElem?_set] at hk
  by_cases c : i = k
  · rw [if_pos c] at hk
    split at hk
    · exact .inl (Option.some.inj hk).symm
    · cases hk
  · rw [if_neg c] at hk
    refine .inr ⟨List.mem_of_getElem? hk, fun z => c ?_⟩
    have e1 : (L.map (·.1))[i]? = some a := by rw [List.getElem?_map, e]; rfl
    have e2 : (L.map (·.1))[k]? = some a := by rw [List.getElem?_map, hk, ← z]; rfl
    exact nd_ix nd e1 e2
/-- one of them changes -/
theorem Sta.set (S : Sta W R0 B R H L) (i : Nat) (e : L[i]? = some (a, o)) (u : HO) : Sta W R0 B R (upd H a u) (L.set i (a, u)) where
  g := S.g.mut (.inr (S.noB i e)) (S.noR i e) u
  o := by
    refine ⟨by rw [keys_set e]; exact S.o.1, fun q hq => ?_⟩
    rcases mem_set_own S.o.1 e hq with rfl | ⟨h, n⟩
    · exact ⟨L2.upd_same, S.noB i e, S.noR i e⟩
    · obtain ⟨h1, h2⟩ := S.o.2 q h
      exact ⟨by rw [upd_ne n]; exact h1, h2⟩
theorem Sta.ne_new (S : Sta W R0 B R H L) (n : H p = none) {q : Addr × HO} (h : q ∈ L) : q.1 ≠ p := fun z => by
  have := (S.o.2 q h).1
  rw [z, n] at this
  cases this
/-- a new one -/
theorem Sta.new (S : Sta W R0 B R H L) (n : H p = none) (o : HO) : Sta W R0 B R (upd H p o) ((p, o) :: L) where
  g := S.g.newM n o
  o := by
    refine ⟨List.nodup_cons.mpr ⟨fun m => ?_, S.o.1⟩, fun q hq => ?_⟩
    · obtain ⟨q, hq, e⟩ := List.mem_map.mp m
      exact S.ne_new n hq e
    · rcases List.mem_cons.mp hq with rfl | h
      · exact ⟨L2.upd_same, S.g.no n, S.g.noR n⟩
      · obtain ⟨h1, h2⟩ := S.o.2 q h
        exact ⟨by rw [upd_ne (S.ne_new n h)]; exact h1, h2⟩
/-- a new thing that never changes -/
theorem Sta.newR (S : Sta W R0 B R H L) (n : H p = none) (o : HO) : Sta W R0 B (upd R p o) (upd H p o) L where
  g := S.g.new n o
  o := ⟨S.o.1, fun q hq => by
    obtain ⟨h1, h2, h3⟩ := S.o.2 q hq
    exact ⟨by rw [upd_ne (S.ne_new n hq)]; exact h1, h2, by rw [upd_ne (S.ne_new n hq)]; exact h3⟩⟩
/-- a new thing that is left out of both -/
theorem Sta.newX (S : Sta W R0 B R H L) (n : H p = none) (o : HO) : Sta W R0 B R (upd H p o) L where
  g := S.g.newM n o
  o := ⟨S.o.1, fun q hq => by
    obtain ⟨h1, h2, h3⟩ := S.o.2 q hq
    exact ⟨by rw [upd_ne (S.ne_new n hq)]; exact h1, h2, h3⟩⟩
theorem Sta.perm (S : Sta W R0 B R H L) (h : L.Perm L') : Sta W R0 B R H L' where
  g := S.g
  o := ⟨(h.map (·.1)).nodup_iff.mp S.o.1, fun q hq => S.o.2 q (h.mem_iff.mpr hq)⟩
theorem Sta.eqL (S : Sta W R0 B R H L) (e : L = L') : Sta W R0 B R H L' := by subst e; exact S
theorem Sta.less (S : Sta W R0 B R H L) (h : L'.Sublist L) : Sta W R0 B R H L' where
  g := S.g
  o := ⟨(h.map (·.1)).nodup S.o.1, fun q hq => S.o.2 q (h.mem hq)⟩
/-- one of them stays as it is from now on: into the region -/
theorem Sta.frz (S : Sta W R0 B R H ((a, o) :: L)) : Sta W R0 B (upd R a o) H L where
  g := S.g.frz (S.noB 0 rfl) (S.get 0 rfl) (S.noR 0 rfl)
  o := by
    obtain ⟨n1, n2⟩ := List.nodup_cons.mp S.o.1
    refine ⟨n2, fun q hq => ?_⟩
    obtain ⟨h1, h2, h3⟩ := S.o.2 q (List.mem_cons_of_mem _ hq)
    exact ⟨h1, h2, by rw [upd_ne (fun z => n1 (List.mem_map.mpr ⟨q, hq, z⟩))]; exact h3⟩
/-- behind a step that touches none of them -/
theorem Sta.step {W' : List Addr} (S : Sta W R0 B R H L) (g : Gw W' R H R1 H1) (hW : ∀ a ∈ W', (a ∈ W ∨ B a = none) ∧ a ∉ L.map (·.1)) : Sta W R0 B R1 H1 L where
  g := S.g.then g fun a h => (hW a h).1
  o := ⟨S.o.1, fun q hq => by
    obtain ⟨h1, h2, h3⟩ := S.o.2 q hq
    exact ⟨g.kee _ _ h1 fun z => (hW _ z).2 (List.mem_map.mpr ⟨q, hq, rfl⟩), h2, g.notR (nn_of h1) h3⟩⟩
theorem Sta.start (s : Same R H) : Sta W R H R H [] := ⟨Gw.refl s, List.nodup_nil, fun _ h => by cases h⟩
theorem Sta.mem (S : Sta W R0 B R H L) {q : Addr × HO} (h : q ∈ L) : H q.1 = some q.2 := (S.o.2 q h).1
end

/-! ### classes -/
structure CI (K : PySem.W.Frag) (C : Addr) (fs : List Str) : Prop where
  cls : Cls K C
  na : ∀ f, fs.contains f = true → NoAttr K C f
/-- a method as it stands behind the top -/
structure DfM (K : PySem.W.Frag) (mg : Str → Option Value) (c : Str) (C : Addr) (m q : Str) (st : Stmt) : Prop where
  ex : ∃ f fd, FunD K m q (defArgs st) (defBody st) (defScope st) [] [] f fd ∧ Meth K C m f
  gl : mg c = some (.ref C)
structure DfI (K : PySem.W.Frag) (mg : Str → Option Value) (c : Str) (C : Addr) (q : Str) (st : Stmt) : Prop where
  ex : ∃ f fd, FunD K "__init__" q (defArgs st) (defBody st) (defScope st) [] [] f fd ∧ Mk K C f
  gl : mg c = some (.ref C)
/-- a method that may be called -/
structure CaM (P : Program) (w : World) (K : PySem.W.Frag) (mg : Str → Option Value) (base : Heap) (CX : CXT) (k : Nat) (C : Addr) (m : Str) (sp : Sp) : Prop where
  ex : ∃ f fd ps, FnOk P w K mg base CX k f fd ps sp ∧ Meth K C m f ∧ Binds K fd ps []
structure CaI (P : Program) (w : World) (K : PySem.W.Frag) (mg : Str → Option Value) (base : Heap) (CX : CXT) (k : Nat) (c : Str) (C : Addr) (sp : Sp) : Prop where
  ex : ∃ f fd ps, FnOk P w K mg base CX k f fd ps sp ∧ Mk K C f ∧ Binds K fd ps [] ∧ mg c = some (.ref C)
theorem CaM.mono {P : Program} {w : World} {K : PySem.W.Frag} {mg : Str → Option Value} {base : Heap} {CX : CXT} {j k : Nat} {C : Addr} {m : Str} {sp : Sp} (c : CaM P w K mg base CX j C m sp) (h : j ≤ k) : CaM P w K mg base CX k C m sp := by
  obtain ⟨f, fd, ps, F, r⟩ := c.ex
  exact ⟨f, fd, ps, F.mono h, r⟩
section
variable {P : Program} {w : World} {K : PySem.W.Frag} {mg : Str → Option Value} {base : Heap} {c m q : Str} {C : Addr} {st : Stmt} {N ps : List Str} {k : Nat} {sp : Sp}
theorem DfM.ca0 (D : DfM K mg c C m q st) (S : FnScope N ps (defScope st))
    (bd : ∀ (kV doc pm : Value) (an : Option Addr) (cdv ct : Value) (us : List Value), us.length = ps.length → bindArgs (PySem.W.fnOf m q (defArgs st) (defBody st) (defScope st) .none kV doc pm an cdv ct) ⟨us, []⟩ = pure (ps.zip us))
    (len : ∀ vs H Q E, sp vs H Q E → vs.length = ps.length)
    (hbody : ∀ (f : Addr) (cdv : Value) (A : Around) (outer : List Env) (s : Shared) (H : Hp) (vs : List V) (Q : VK) (E : XK), Room k (A.deeper (envOfC q (defScope st) s.heap.objs.size f cdv)) → sp vs H Q E →
      ∃ t, PSs (cxOf CX0 P w K mg base N q (defScope st) f cdv A outer s H E).nox (defBody st) t ∧ t { nx := fun _ H' => Q .non H', rt := Q } (start N vs) H) : CaM P w K mg base CX0 (k + 1) C m sp := by
  obtain ⟨f, fd, F, hm⟩ := D.ex
  refine ⟨f, fd, ps, F.ok S len fun cdv A outer s H vs Q E hr h => ?_, hm, F.bindsN bd⟩
  obtain ⟨t, h1, h2⟩ := hbody f cdv A outer s H vs Q E hr h
  exact ⟨t, h1.nox, h2⟩
theorem DfI.ca0 (D : DfI K mg c C q st) (S : FnScope N ps (defScope st))
    (bd : ∀ (kV doc pm : Value) (an : Option Addr) (cdv ct : Value) (us : List Value), us.length = ps.length → bindArgs (PySem.W.fnOf "__init__" q (defArgs st) (defBody st) (defScope st) .none kV doc pm an cdv ct) ⟨us, []⟩ = pure (ps.zip us))
    (len : ∀ vs H Q E, sp vs H Q E → vs.length = ps.length)
    (hbody : ∀ (f : Addr) (cdv : Value) (A : Around) (outer : List Env) (s : Shared) (H : Hp) (vs : List V) (Q : VK) (E : XK), Room k (A.deeper (envOfC q (defScope st) s.heap.objs.size f cdv)) → sp vs H Q E →
      ∃ t, PSs (cxOf CX0 P w K mg base N q (defScope st) f cdv A outer s H E).nox (defBody st) t ∧ t { nx := fun _ H' => Q .non H', rt := Q } (start N vs) H) : CaI P w K mg base CX0 (k + 1) c C sp := by
  obtain ⟨f, fd, F, hm⟩ := D.ex
  refine ⟨f, fd, ps, F.ok S len fun cdv A outer s H vs Q E hr h => ?_, hm, F.bindsN bd, D.gl⟩
  obtain ⟨t, h1, h2⟩ := hbody f cdv A outer s H vs Q E hr h
  exact ⟨t, h1.nox, h2⟩
end
section
variable {X : Cx} {CX : CXT} {k j : Nat} {x m : Str} {C : Addr} {sp : Sp} {E : XK} {p pos apos : Pos} {o e : Expr} {es : List Expr} {ta : TE} {t : TA}
theorem pe_mk (c : CaI X.prog X.w X.K X.mg X.base CX k x C sp) (hr : Room j X.A) (hk : k + 1 ≤ j) (hg : Gl X x) (hx : Passes CX X E) (ha : PA X (e :: es) t) (hdb : (x == ("__debug__" : Str)) = false := by decide)
    (he : starEach (e :: es) X.env = (false, eval e X.env) :: starEach es X.env := by rfl) (hpl : (backTo pos (starEach es X.env)).any (·.1) = false := by rfl) : PE X (.Call (.Name x p) (e :: es) [] pos) (tMake C sp [] E t) := by
  refine ⟨fun pins s σ H Q I h => ?_⟩
  obtain ⟨f, fd, ps, F, M, hb, hm⟩ := c.ex
  exact (pe_make (dvs := []) M F (hr.mono hk) hg hm hb .nil hx ha hdb he hpl).run pins s σ H Q I h
end
section
variable {K : PySem.W.Frag} {σ : L2.St} {H : Hp} {Q : VK} {te ta : TE} {t : TA} {nx bk ct : L2.St → Hp → Prop} {rt : VK} {f m : Str} {a C dx : Addr} {fs : List (Str × V)} {v y : V} {sp : Sp} {E : XK} {cs : List Str}
/-- a field is read -/
def FldE (K : PySem.W.Frag) (f : Str) (Q : VK) (x : V) (H1 : Hp) : Prop := ∃ a C dx fs v, x = .ref a ∧ H1 a = some (.ins C dx fs) ∧ Cls K C ∧ NoAttr K C f ∧ fs.lookup f = some v ∧ Q v H1
theorem w_fldX (h : te σ H fun x H1 => FldE K f Q x H1) : tFld K te f σ H Q := h
theorem w_fldEE (ha : H a = some (.ins C dx fs)) (c : CI K C cs) (n : cs.contains f = true) (l : fs.lookup f = some v) (h : Q v H) : FldE K f Q (.ref a) H := ⟨a, C, dx, fs, v, rfl, ha, c.cls, c.na f n, l, h⟩
def FldS (K : PySem.W.Frag) (f : Str) (nx : Hp → Prop) (y x : V) (H2 : Hp) : Prop := ∃ a C dx fs, x = .ref a ∧ H2 a = some (.ins C dx fs) ∧ Cls K C ∧ NoAttr K C f ∧ fs.length < 1000 ∧ nx (upd H2 a (.ins C dx (putF f y fs)))
theorem w_sFld {tv : TE} (h : tv σ H fun y H1 => ta σ H1 fun x H2 => FldS K f (nx σ) y x H2) : sFld K ta tv f ⟨nx, rt, bk, ct⟩ σ H := h
theorem w_fldS {N : Hp → Prop} {gs : List (Str × V)} (ha : H a = some (.ins C dx fs)) (c : CI K C cs) (n : cs.contains f = true) (l : Nat.ble fs.length 999 = true) (e : putF f y fs = gs) (h : N (upd H a (.ins C dx gs))) : FldS K f N y (.ref a) H :=
  ⟨a, C, dx, fs, rfl, ha, c.cls, c.na f n, Nat.lt_succ_of_le (ble l), by rw [e]; exact h⟩
def FldA1 (K : PySem.W.Frag) (f : Str) (R : Addr → Addr → V → Hp → Prop) (x : V) (H1 : Hp) : Prop := ∃ a C dx fs v, x = .ref a ∧ H1 a = some (.ins C dx fs) ∧ Cls K C ∧ NoAttr K C f ∧ fs.lookup f = some v ∧ R a C v H1
def FldA2 (f : Str) (nx : Hp → Prop) (a C : Addr) (z : V) (H3 : Hp) : Prop := ∃ dx' fs', H3 a = some (.ins C dx' fs') ∧ fs'.length < 1000 ∧ nx (upd H3 a (.ins C dx' (putF f z fs')))
theorem w_sFldAug {tv : TE} {rd : V → V → Hp → VK → Prop} (h : ta σ H fun x H1 => FldA1 K f (fun a C v H1 => tv σ H1 fun y H2 => rd v y H2 fun z H3 => FldA2 f (nx σ) a C z H3) x H1) : sFldAug K ta tv rd f ⟨nx, rt, bk, ct⟩ σ H := h
theorem w_fldA1 {R : Addr → Addr → V → Hp → Prop} (ha : H a = some (.ins C dx fs)) (c : CI K C cs) (n : cs.contains f = true) (l : fs.lookup f = some v) (h : R a C v H) : FldA1 K f R (.ref a) H := ⟨a, C, dx, fs, v, rfl, ha, c.cls, c.na f n, l, h⟩
theorem w_fldA2 {N : Hp → Prop} {z : V} {gs : List (Str × V)} (ha : H a = some (.ins C dx fs)) (l : Nat.ble fs.length 999 = true) (e : putF f z fs = gs) (h : N (upd H a (.ins C dx gs))) : FldA2 f N a C z H := ⟨dx, fs, ha, Nat.lt_succ_of_le (ble l), by rw [e]; exact h⟩
theorem w_rAdd {i j : Int} (h : Q (.int (i + j)) H) : rAdd (.int i) (.int j) H Q := ⟨i, j, rfl, rfl, h⟩
theorem w_rSub {i j : Int} (h : Q (.int (i - j)) H) : rSub (.int i) (.int j) H Q := ⟨i, j, rfl, rfl, h⟩
/-- a method is called: its contract may be of any def that the class holds by that name -/
def tMe (K : PySem.W.Frag) (C : Addr) (m : Str) (sp : Sp) (E : XK) (ta : TE) (t : TA) : TE := tMeth C m sp [] E ta t
def MethE (C : Addr) (m : Str) (R : V → Hp → Prop) (x : V) (H1 : Hp) : Prop := ∃ a dx fs, x = .ref a ∧ H1 a = some (.ins C dx fs) ∧ fs.lookup m = none ∧ R x H1
theorem w_meth (h : ta σ H fun x H1 => ∃ a dx fs, x = .ref a ∧ H1 a = some (.ins C dx fs) ∧ fs.lookup m = none ∧ t σ H1 fun vs H2 => sp (x :: (vs ++ [])) H2 Q E) : tMeth C m sp [] E ta t σ H Q := h
theorem w_methE {A : Prop} (ha : H a = some (.ins C dx fs)) (l : fs.lookup m = none) (h : A) : ∃ a' dx fs, V.ref a = .ref a' ∧ H a' = some (.ins C dx fs) ∧ fs.lookup m = none ∧ A := ⟨a, dx, fs, rfl, ha, l, h⟩
theorem w_make (h : t σ H fun vs H1 => ∀ x dx, H1 x = none → H1 dx = none → dx ≠ x → sp (.ref x :: (vs ++ [])) (upd (upd H1 dx (.own x)) x (.ins C dx [])) (fun v H2 => v = .non ∧ Q (.ref x) H2) E) : tMake C sp [] E t σ H Q := h
end
/-! ### a def that is held by a name -/
/-- a def that may be called, by its address -/
structure Cf (P : Program) (w : World) (K : PySem.W.Frag) (mg : Str → Option Value) (base : Heap) (CX : CXT) (k : Nat) (f : Addr) (sp : Sp) : Prop where
  ex : ∃ fd ps, FnOk P w K mg base CX k f fd ps sp ∧ PySem.W.keepIn K (.ref f) = true ∧ Binds K fd ps []
theorem Ca.cf {P : Program} {w : World} {K : PySem.W.Frag} {mg : Str → Option Value} {base : Heap} {CX : CXT} {k : Nat} {x : Str} {sp : Sp} {f : Addr} (c : Ca P w K mg base CX k x sp) (h : mg x = some (.ref f)) : Cf P w K mg base CX k f sp := by
  obtain ⟨g, fd, ps, F, hm, kp, hb⟩ := c.ex
  rw [h] at hm
  cases hm
  exact ⟨fd, ps, F, kp, hb⟩
def tCallH (i : Nat) (Hl : Addr → Sp → Prop) (E : XK) (t : TA) : TE := fun σ H Q => ∃ f sp, σ[i]? = some (some (.ref f)) ∧ Hl f sp ∧ t σ H fun vs H1 => sp vs H1 Q E
section
variable {X : Cx} {CX : CXT} {k j i : Nat} {x : Str} {E : XK} {p pos : Pos} {e : Expr} {es : List Expr} {t : TA} {Hl : Addr → Sp → Prop}
theorem pe_callH (A : ∀ f sp, Hl f sp → Cf X.prog X.w X.K X.mg X.base CX k f sp) (hr : Room j X.A) (hk : k ≤ j) (hx : Passes CX X E) (hN : X.N[i]? = some x) (hv : Vis X.env.scope x) (ha : PA X (e :: es) t)
    (hdb : (x == ("__debug__" : Str)) = false := by decide) (hcd : (x == ("__classdict__" : Str)) = false := by decide)
    (he : starEach (e :: es) X.env = (false, eval e X.env) :: starEach es X.env := by rfl) (hpl : (backTo pos (starEach es X.env)).any (·.1) = false := by rfl) : PE X (.Call (.Name x p) (e :: es) [] pos) (tCallH i Hl E t) := by
  refine ⟨fun pins s σ H Q I h => ?_⟩
  obtain ⟨f, sp, hs, hS, ht⟩ := h
  obtain ⟨fd, ps, F, hk', hb⟩ := (A f sp hS).ex
  refine (pe_callL (i := i) (f := f) (sp := sp) (dvs := []) (E := E) F (hr.mono hk) hN hv hk' hb .nil hx ha hdb hcd he hpl).run pins s σ H Q I ⟨hs, ?_⟩
  have e0 : (fun (vs : List V) (H1 : Hp) => sp (vs ++ []) H1 Q E) = fun vs H1 => sp vs H1 Q E := by
    funext vs H1
    rw [List.append_nil]
  show t σ H (fun vs H1 => sp (vs ++ []) H1 Q E)
  rw [e0]
  exact ht
end
theorem w_callH {i : Nat} {Hl : Addr → Sp → Prop} {E : XK} {t : TA} {σ : L2.St} {H : Hp} {Q : VK} {f : Addr} {sp : Sp} (e : σ[i]? = some (some (.ref f))) (hl : Hl f sp) (h : t σ H fun vs H1 => sp vs H1 Q E) : tCallH i Hl E t σ H Q := ⟨f, sp, e, hl, h⟩
/-! ### truth, while, written dicts -/
def TrE (K : PySem.W.Frag) (Q : Bool → Hp → Prop) (x : V) (H : Hp) : Prop := ∃ k, TruV K x H k ∧ Q k H
def tTru (K : PySem.W.Frag) (te : TE) : TT := fun σ H Q => te σ H fun x H' => TrE K Q x H'
theorem pt_tru {X : Cx} {a : Expr} {ta : TE} (ha : PE X a ta) (he : ∀ whole, isTrue a X.env whole = (do let v ← whole; standAt a.pos; holding [v] (truthy v)) := by intro _; rfl) : PT X a (tTru X.K ta) := pt_truth ha he
def WhT (W : Nat → L2.St → Hp → Prop) (m : Nat) (tb : TS) (nx : L2.St → Hp → Prop) (rt : VK) (b : Bool) (σ : L2.St) (H1 : Hp) : Prop :=
  if b = true then ∃ N : L2.St → Hp → Prop, (∀ σ' H', N σ' H' → ∃ m', m' < m ∧ W m' σ' H') ∧ tb ⟨N, rt, nx, N⟩ σ H1 else nx σ H1
section
variable {K : PySem.W.Frag} {σ : L2.St} {H : Hp} {Q : VK} {QB : Bool → Hp → Prop} {te : TE} {nx bk ct : L2.St → Hp → Prop} {rt : VK} {a : Addr} {xs : List V} {c : TT} {tb : TS} {w : World} {z : Str} {v : V}
theorem w_tru (h : te σ H fun x H' => TrE K QB x H') : tTru K te σ H QB := h
theorem w_truL (ha : SqL K H a xs) (h : QB (!xs.isEmpty) H) : TrE K QB (.ref a) H := ⟨_, .inl ⟨xs, ha, rfl⟩, h⟩
theorem w_truI {i : Int} (h : QB (i != 0) H) : TrE K QB (.int i) H := ⟨_, rfl, h⟩
theorem w_while (W : Nat → L2.St → Hp → Prop) (m0 : Nat) (h0 : W m0 σ H) (hs : ∀ m σ H, W m σ H → c σ H fun b H1 => WhT W m tb nx rt b σ H1) : tWhile c tb ⟨nx, rt, bk, ct⟩ σ H := ⟨W, ⟨m0, h0⟩, hs⟩
theorem w_whT {W : Nat → L2.St → Hp → Prop} {m : Nat} (h : tb ⟨fun σ' H' => ∃ m', m' < m ∧ W m' σ' H', rt, nx, fun σ' H' => ∃ m', m' < m ∧ W m' σ' H'⟩ σ H) : WhT W m tb nx rt true σ H := by
  unfold WhT
  rw [if_pos rfl]
  exact ⟨_, fun _ _ q => q, h⟩
theorem w_whF {W : Nat → L2.St → Hp → Prop} {m : Nat} (h : nx σ H) : WhT W m tb nx rt false σ H := by
  unfold WhT
  rw [if_neg Bool.false_ne_true]
  exact h
theorem wh_cases {W : Nat → L2.St → Hp → Prop} {m : Nat} {p : Prop} [Decidable p] (h1 : p → WhT W m tb nx rt true σ H) (h2 : ¬ p → WhT W m tb nx rt false σ H) : WhT W m tb nx rt (decide p) σ H := by
  by_cases h : p
  · rw [decide_eq_true h]; exact h1 h
  · rw [decide_eq_false h]; exact h2 h
theorem w_ixD (k : KDct K w a z v) (h : Q v H) : rIxD K w (.ref a) (.str z) H Q := ⟨a, z, v, rfl, rfl, k, h⟩
end
end U

/-! U6: // of any two whole numbers (own work). -/
namespace U
open PySem PySem.Spec PyProof.Rows L2
def nsOk (K : PySem.W.Frag) (a : Addr) : Bool := match K.lookup a with
  | some ⟨_, _, .dict es _, _⟩ => es.toList.all fun e => match e.key with
    | .str _ _ => true
    | _ => false
  | _ => false
theorem ns_of {K : PySem.W.Frag} {h : Heap} {a : Addr} (X : K.In h) (e : nsOk K a = true) : ∃ m, h.Ns a m ∧ ∀ x, PySem.W.nsIn K a x = some none → m x = none := by
  unfold nsOk at e
  split at e
  · rename_i c d es n sl q
    refine ⟨fun x => nsFind es x, ⟨_, es, n, X _ _ q, rfl, fun en hen => ?_, fun _ => rfl⟩, fun x hx => ?_⟩
    · have z := List.all_eq_true.mp e en (Array.mem_toList_iff.mpr hen)
      split at z
      · rename_i x t ek
        exact ⟨x, t, ek⟩
      · cases z
    · unfold PySem.W.nsIn at hx
      rw [q] at hx
      dsimp only at hx
      split at hx
      · cases hx
      · rename_i he
        show nsFind es x = none
        unfold nsFind findBy
        rw [← Array.find?_toList, he]
        rfl
  · cases e
/-- the module that the top's names know as the built-in one -/
def bmOf (K : PySem.W.Frag) : Addr := match PySem.W.nsIn K mainGlobals "__builtins__" with
  | some (some (.ref b)) => b
  | _ => 0
def bmOk (K : PySem.W.Frag) : Bool := match K.lookup (bmOf K) with
  | some ⟨.type c, some d, _, _⟩ => decide (c = "module") && decide (d = builtinsNs)
  | _ => false
/-- nothing looks on: what a division of great numbers asks -/
def seerB (K : PySem.W.Frag) : Bool := (nsOk K cStatics && (He.eqO (PySem.W.nsIn K cStatics "sys.audit-hooks") (some none) && He.eqO (PySem.W.nsIn K cStatics "sys.dict") (some none))) &&
  ((nsOk K sysModules && He.eqO (PySem.W.nsIn K sysModules "_pylong") (some none)) && (He.eqO (PySem.W.nsIn K mainGlobals "__builtins__") (some (some (.ref (bmOf K)))) && bmOk K))
theorem noSeer_of {K : PySem.W.Frag} {mg : Str → Option Value} {base : Heap} (M : Mod K mg base) (e : seerB K = true) : base.NoSeer := by
  obtain ⟨e1, e2⟩ := He.ba e
  obtain ⟨a1, a2⟩ := He.ba e1
  obtain ⟨a3, a4⟩ := He.ba a2
  obtain ⟨b1, b2⟩ := He.ba e2
  obtain ⟨b3, b4⟩ := He.ba b1
  obtain ⟨b5, b6⟩ := He.ba b2
  obtain ⟨m1, n1, k1⟩ := ns_of M.kin a1
  obtain ⟨m2, n2, k2⟩ := ns_of M.kin b3
  refine ⟨⟨m1, n1, k1 _ (He.eqO_ok a3), k1 _ (He.eqO_ok a4)⟩, ⟨m2, n2, k2 _ (He.eqO_ok b4)⟩, M.blt, ?_⟩
  unfold bmOk at b6
  split at b6
  · rename_i c d dt sl q
    obtain ⟨c1, c2⟩ := He.ba b6
    have e1 := of_decide_eq_true c1
    have e2 := of_decide_eq_true c2
    subst e1 e2
    exact ⟨mg, bmOf K, _, M.glob, PySem.W.mg_of M.kin M.glob (He.eqO_ok b5), M.kin _ _ q, rfl, rfl⟩
  · cases b6
def rFdA : R2 := rI (fun _ j => j ≠ 0) fun i j => .int (i.fdiv j)
theorem op_fdivA {X : Cx} (hS : seerB X.K = true) (hP : X.prog.given.tree = none) (hs : X.stack = X.env :: X.outer) (hgen : X.env.scope.isGenerator = false) (hco : X.env.scope.isCoroutine = false) (hd : X.A.depth + 100 < recursionLimit) : OpR X (binaryOp .FloorDiv) rFdA := by
  intro pins s σ H x y v u Q I rx ry h
  obtain ⟨i, j, rfl, rfl, hj, q⟩ := h
  obtain ⟨t, rfl⟩ := rx
  obtain ⟨t', rfl⟩ := ry
  have hN : s.heap.NoSeer := (noSeer_of I.mod hS).keeps I.bk
  refine floordiv_int hj ⟨.int (i.fdiv j), H, I.tok _, ⟨_, rfl⟩, q⟩ (.inr (PylongRoom.of I.nolimit hd ?_))
  exact SeerAt.of (M := model X.prog X.w) hN hP (I.ok.frames.trans (by rw [hs])) hgen hco I.ok.blt I.ok.glob
theorem w_fdA {i j : Int} {H : Hp} {Q : VK} (hj : j ≠ 0) (h : Q (.int (i.fdiv j)) H) : rFdA (.int i) (.int j) H Q := ⟨i, j, rfl, rfl, hj, h⟩
theorem room_deep {k : Nat} {A : Around} (r : Room k A) (h : 35 ≤ k) : A.depth + 100 < recursionLimit := by
  have := r.dp
  omega
end U

/-! U7: the end by a hook of one's own: defs, methods, constants, tables, and that nothing looks on (own work). -/
namespace U
open PySem PySem.Spec PyProof.Rows L2 He
/-- what is told of the written part: facts, defs, tables with text keys, one more Bool; the roots take in what the divisions ask -/
def rootsU (g : Addr → Option Obj) (n : Nat) : List Addr := asD g n ++ [cStatics, sysModules]
abbrev AlU : Type := AlT × Bool
def obsU (fa : List Fa) (fn : List DefD) (ts : List Tab) (ex : PySem.W.Frag → Bool) (K : PySem.W.Frag) : AlU := (obsT fa fn ts K, ex K)
def obsUG (n : Nat) (fa : List Fa) (fn : List DefD) (ts : List Tab) (ex : PySem.W.Frag → Bool) (g : Addr → Option Obj) : AlU := obsU fa fn ts ex (frG g (rootsU g n))
def SaysU (fa : List Fa) (fn : List DefD) (ts : List Tab) (ex : PySem.W.Frag → Bool) (w : World) (K : PySem.W.Frag) : Prop := obsU fa fn ts ex K = (valT fn ts w, true)
def hookU (n : Nat) (fa : List Fa) (fn : List DefD) (ts : List Tab) (ex : PySem.W.Frag → Bool) : PySem.W.Hook where
  α := AlU
  obs := fun s => obsUG n fa fn ts ex s.heap.get?
  val := fun w => (valT fn ts w, true)
  says := fun w h => ∃ K : PySem.W.Frag, K.In h ∧ SaysU fa fn ts ex w K
  of := fun _ _ e => ⟨_, frG_in, e⟩
  keeps := fun _ _ _ ⟨K, hK, c⟩ k => ⟨K, PySem.W.Frag.In.keeps hK k, c⟩
theorem obsU_eq {n : Nat} {fa : List Fa} {fn : List DefD} {ts : List Tab} {ex : PySem.W.Frag → Bool} {g : Addr → Option Obj} {s : Shared} (h : ∀ a, g a = s.heap.get? a) : obsUG n fa fn ts ex g = (hookU n fa fn ts ex).obs s := by
  have e : g = s.heap.get? := funext h
  rw [e] <;> rfl
/-- a row of the end: a def of the top; a class with its attributes; a method; a class's __init__; a whole number; a table of defs -/
inductive Wd where
  | df (x : Str) (st : Stmt)
  | cls (c : Str) (fs : List Str)
  | me (c m q : Str) (st : Stmt)
  | ini (c q : Str) (st : Stmt)
  | num (x : Str) (i : Int)
  | any (x : Str)
def Wd.fa : Wd → List Fa
  | .df x _ => [.glo x]
  | .cls c fs => .glo c :: .cls c :: fs.map fun f => .noat c f
  | .me c m _ _ => [.glo c, .meth c m]
  | .ini c _ _ => [.glo c, .mkr c]
  | .num x i => [.int x i]
  | .any x => [.glo x]
def Wd.fn : Wd → List DefD
  | .df x st => [⟨(x, none), x, x, defArgs st, defBody st, defScope st, [], []⟩]
  | .me c m q st => [⟨(c, some m), m, q, defArgs st, defBody st, defScope st, [], []⟩]
  | .ini c q st => [⟨(c, some "__init__"), "__init__", q, defArgs st, defBody st, defScope st, [], []⟩]
  | _ => []
def faU (ws : List Wd) : List Fa := biNames.map Fa.free ++ ws.flatMap Wd.fa
def fnU (ws : List Wd) : List DefD := ws.flatMap Wd.fn
section
variable {ws : List Wd} {ts : List Tab} {ex : PySem.W.Frag → Bool} {w : World} {K : PySem.W.Frag} {h : Heap} {mg : Str → Option Value}
theorem SaysU.t (c : SaysU (faU ws) (fnU ws) ts ex w K) : SaysT (faU ws) (fnU ws) ts w K := congrArg (fun z : AlU => z.1) c
theorem SaysU.more (c : SaysU (faU ws) (fnU ws) ts ex w K) : ex K = true := congrArg (fun z : AlU => z.2) c
theorem SaysU.fact (c : SaysU (faU ws) (fnU ws) ts ex w K) {d : Wd} (hd : d ∈ ws) {f : Fa} (hf : f ∈ d.fa) : f.ok K = true := c.t.d.facts (List.mem_append.mpr (.inr (List.mem_flatMap.mpr ⟨d, hd, hf⟩)))
theorem SaysU.fun_ (c : SaysU (faU ws) (fnU ws) ts ex w K) {d : Wd} (hd : d ∈ ws) {f : DefD} (hf : f ∈ d.fn) : ∃ fd, FunD K f.name f.qual f.params f.body f.scope (f.dvs K) (f.kws K) (fAd K f.at_) fd := c.t.d.defs (List.mem_flatMap.mpr ⟨d, hd, hf⟩)
theorem bi_u (X : K.In h) (G : h.Ns mainGlobals mg) (c : SaysU (faU ws) (fnU ws) ts ex w K) : Bi mg := bi_of X G c.t.d fun x hx => List.mem_append.mpr (.inl (List.mem_map.mpr ⟨x, hx, rfl⟩))
theorem df_u (X : K.In h) (G : h.Ns mainGlobals mg) (c : SaysU (faU ws) (fnU ws) ts ex w K) (i : Nat) {x : Str} {st : Stmt} (e : ws[i]? = some (.df x st) := by rfl) : Df K mg x st := by
  have m := List.mem_of_getElem? e
  obtain ⟨fd, F⟩ := c.fun_ m (f := ⟨(x, none), x, x, defArgs st, defBody st, defScope st, [], []⟩) List.mem_cons_self
  exact ⟨_, fd, F, glo_ok X G (c.fact m List.mem_cons_self)⟩
theorem ci_u (c : SaysU (faU ws) (fnU ws) ts ex w K) (i : Nat) {x : Str} {fs : List Str} (e : ws[i]? = some (.cls x fs) := by rfl) : CI K (ga K x) fs := by
  have m := List.mem_of_getElem? e
  refine ⟨cls_ok (c.fact m (f := .cls x) (List.mem_cons_of_mem _ List.mem_cons_self)), fun f hf => noat_ok (c.fact m (f := .noat x f) (List.mem_cons_of_mem _ (List.mem_cons_of_mem _ (List.mem_map.mpr ⟨f, ?_, rfl⟩))))⟩
  exact List.contains_iff_mem.mp hf
theorem me_u (X : K.In h) (G : h.Ns mainGlobals mg) (c : SaysU (faU ws) (fnU ws) ts ex w K) (i : Nat) {x m q : Str} {st : Stmt} (e : ws[i]? = some (.me x m q st) := by rfl) : DfM K mg x (ga K x) m q st := by
  have hm := List.mem_of_getElem? e
  obtain ⟨fd, F⟩ := c.fun_ hm (f := ⟨(x, some m), m, q, defArgs st, defBody st, defScope st, [], []⟩) List.mem_cons_self
  exact ⟨⟨_, fd, F, meth_ok (c.fact hm (f := .meth x m) (List.mem_cons_of_mem _ List.mem_cons_self))⟩, glo_ok X G (c.fact hm (f := .glo x) List.mem_cons_self)⟩
theorem ini_u (X : K.In h) (G : h.Ns mainGlobals mg) (c : SaysU (faU ws) (fnU ws) ts ex w K) (i : Nat) {x q : Str} {st : Stmt} (e : ws[i]? = some (.ini x q st) := by rfl) : DfI K mg x (ga K x) q st := by
  have hm := List.mem_of_getElem? e
  obtain ⟨fd, F⟩ := c.fun_ hm (f := ⟨(x, some "__init__"), "__init__", q, defArgs st, defBody st, defScope st, [], []⟩) List.mem_cons_self
  exact ⟨⟨_, fd, F, mkr_ok (c.fact hm (f := .mkr x) (List.mem_cons_of_mem _ List.mem_cons_self))⟩, glo_ok X G (c.fact hm (f := .glo x) List.mem_cons_self)⟩
theorem num_u (X : K.In h) (G : h.Ns mainGlobals mg) (c : SaysU (faU ws) (fnU ws) ts ex w K) (i : Nat) {x : Str} {n : Int} (e : ws[i]? = some (.num x n) := by rfl) : ∃ t, mg x = some (.int n t) :=
  int_ok X G (c.fact (List.mem_of_getElem? e) (f := .int x n) List.mem_cons_self)
theorem any_u (X : K.In h) (G : h.Ns mainGlobals mg) (c : SaysU (faU ws) (fnU ws) ts ex w K) (i : Nat) {x : Str} (e : ws[i]? = some (.any x) := by rfl) : mg x = some (.ref (ga K x)) :=
  glo_ok X G (c.fact (List.mem_of_getElem? e) (f := .glo x) List.mem_cons_self)
/-- a table's entry -/
theorem tab_u (c : SaysU (faU ws) (fnU ws) ts ex w K) (i : Nat) {t : Tab} (e : ts[i]? = some t) {kvs : List (Str × Dv)} (hv : valsB K (t.1 K) kvs = true) {q : Str × Dv} (hq : q ∈ kvs) : KDct K w (t.1 K) q.1 (q.2.v K) := by
  obtain ⟨es, n, hk⟩ := c.t.tab i e
  obtain ⟨u, hu, r⟩ := valsB_ok hv hq
  obtain ⟨k1, k2, k3⟩ := hk
  exact ⟨es, n, u, k1, k2, hu, r⟩
end
/-- the walk of a law whose def stands at j of ws -/
theorem walk_u {l : PySem.W.OpenLaw} {k n j : Nat} {q : Program} {loose : List Str} {XP : (Str → Option Value) → Heap → Prop} {d : DefRec} {x : Str} {ws : List Wd} {ts : List Tab} {ex : PySem.W.Frag → Bool} {st : Stmt}
    (hn : l.most = some 63) (hdf : d.params.defaults = []) (hr : Room k callerA) (hname : d.name = ("law" : Str)) (hl : ws[j]? = some (.df "law" st))
    (hbind : ∀ (kV doc pm : Value) (an : Option Addr) (cdv ct : Value) (us : List Value), us.length = [x].length → bindArgs (PySem.W.fnOf "law" "law" (defArgs st) (defBody st) (defScope st) .none kV doc pm an cdv ct) ⟨us, []⟩ = pure ([x].zip us))
    (F : ∀ (w : World) (K : PySem.W.Frag) (mg : Str → Option Value) (h base : Heap), K.In h → h.Ns mainGlobals mg → SaysU (faU ws) (fnU ws) ts ex w K → ∀ f fd, LawF K st f fd → FnOk l.prog w K mg base CX0 k f fd [x] (spTrue K)) :
    PySem.W.WalkO q loose XP (hookU n (faU ws) (fnU ws) ts ex).says l.row.toRowW d [] (fun f vs => PySem.call f vs) := by
  refine L2.walk_ofE (l := l) (n := 63) (k := k) (x := x) (CX := L2.CX0) hn (by decide) hdf hr ?_ (fun _ _ _ _ z => z)
  intro w mg fa h Y G hmg
  obtain ⟨K, KX, c⟩ := Y
  rw [hname] at hmg
  have m := List.mem_of_getElem? hl
  obtain ⟨fd, FD⟩ := c.fun_ m (f := ⟨("law", none), "law", "law", defArgs st, defBody st, defScope st, [], []⟩) List.mem_cons_self
  have e : fa = ga K "law" := by
    have e1 := glo_ok KX G (c.fact m (f := .glo "law") List.mem_cons_self)
    rw [hmg] at e1
    exact Value.ref.inj (Option.some.inj e1)
  have FD' : LawF K st fa fd := by rw [e]; exact FD
  have b := FunD.bindsA (ps := [x]) FD' hbind
  exact ⟨K, fd, spTrue K, KX, fun s u => b s [u] rfl, fun H a ns hl _ hS => ⟨a, ns, rfl, hS, hl, fun _ => rfl⟩, fun base hb hg => F w K mg h base KX G c fa fd FD'⟩
end U

/-! U8: dicts with text keys, enumerate (own work). -/
namespace U
open PySem PySem.Spec PyProof.Rows L2
def DgE (Q : VK) (x y : V) (H2 : Hp) : Prop := ∃ a v, x = .ref a ∧ DGet H2 a y (some v) ∧ Q v H2
def DpE (nx : Hp → Prop) (x y v : V) (H3 : Hp) : Prop := ∃ a H4, x = .ref a ∧ DPut H3 a y v H4 ∧ nx H4
def DsE (Q : VK) (p : Addr) (ps : List (V × V)) (H2 : Hp) : Prop := H2 p = some (.dK []) ∧ ∃ kvs : List (Key × V), ps = kvs.map (fun kv => (kV kv.1, kv.2)) ∧ kvs.length ≤ 15 ∧ Q (.ref p) (upd H2 p (.dK (mergeK [] kvs)))
section
variable {K : PySem.W.Frag} {σ : L2.St} {H : Hp} {Q : VK} {td ty tv tk : TE} {nx bk ct : L2.St → Hp → Prop} {rt : VK} {a p : Addr} {kvs kvs' : List (Key × V)} {x : Str} {v : V} {tr : List (TE × TE)} {QP : List (V × V) → Hp → Prop}
theorem w_dg (h : td σ H fun x H1 => ty σ H1 fun y H2 => DgE Q x y H2) : tDGet td ty σ H Q := h
theorem w_dgE (ha : H a = some (.dK kvs)) (e : valV kvs (Sum.inr x) = some v) (h : Q v H) : DgE Q (.ref a) (.str x) H := ⟨a, v, rfl, by rw [← e]; exact .k ha (k := .inr x), h⟩
theorem w_dp (h : tv σ H fun v H1 => td σ H1 fun x H2 => ty σ H2 fun y H3 => DpE (fun H4 => nx σ H4) x y v H3) : sDPut td ty tv ⟨nx, rt, bk, ct⟩ σ H := h
theorem w_dpE {N : Hp → Prop} (ha : H a = some (.dK kvs)) (l : Nat.ble kvs.length 999 = true) (e : putK kvs (Sum.inr x) v = kvs') (h : N (upd H a (.dK kvs'))) : DpE N (.ref a) (.str x) v H :=
  ⟨a, _, rfl, .k ha (k := .inr x) (szlt (Nat.lt_of_le_of_lt (ble l) (by decide))), by rw [e]; exact h⟩
theorem w_disp (h : ∀ p, H p = none → tPairs tr σ (upd H p (.dK [])) fun ps H2 => DsE Q p ps H2) : tDisp tr σ H Q := h
theorem w_prN (h : QP [] H) : tPairs [] σ H QP := h
theorem w_prC (h : tk σ H fun x H1 => tv σ H1 fun y H2 => tPairs tr σ H2 fun ps H3 => QP ((x, y) :: ps) H3) : tPairs ((tk, tv) :: tr) σ H QP := h
theorem w_dsE {ps : List (V × V)} (kvs : List (Key × V)) (ha : H p = some (.dK [])) (e : ps = kvs.map (fun kv => (kV kv.1, kv.2))) (l : Nat.ble kvs.length 15 = true) (m : mergeK [] kvs = kvs') (h : Q (.ref p) (upd H p (.dK kvs'))) : DsE Q p ps H :=
  ⟨ha, kvs, e, ble l, by rw [m]; exact h⟩
/-! ### enumerate -/
def ItE (K : PySem.W.Frag) (R : It → Hp → Prop) (vs : List V) (H1 : Hp) : Prop := ∃ a xs, vs = [.ref a] ∧ SqL K H1 a xs ∧ R (Ite K a) H1
theorem w_iE {ta : TA} {R : It → Hp → Prop} (h : ta σ H fun vs H1 => ItE K R vs H1) : iEnum K ta σ H R := h
theorem for_E {xs : List V} {g : TG} {tb : TS} (Pv : Nat → L2.St → Hp → Prop) (hS : SqL K H a xs) (h0 : Pv 0 σ H) (hl : ∀ i σ H, i ≤ xs.length → Pv i σ H → SqL K H a xs)
    (hs : ∀ i x σ H T, xs[i]? = some x → Pv i σ H → H T = none → g (.ref T) σ (upd H T (.tup [.int (i : Nat), x])) fun σ2 H2 => tb ⟨Pv (i + 1), rt, nx, Pv (i + 1)⟩ σ2 H2) (hd : ∀ σ H, Pv xs.length σ H → nx σ H) :
    ItE K (fun J H1 => ForB J g tb nx rt σ H1) [.ref a] H := by
  refine ⟨a, xs, rfl, hS, fun i m σ H => m = xs.length - i ∧ i ≤ xs.length ∧ Pv i σ H, ⟨xs.length, by simp, Nat.zero_le _, h0⟩, ?_⟩
  rintro i m σ H ⟨rfl, hi, p⟩
  have q := hl i σ H hi p
  by_cases hlt : i < xs.length
  · refine .inr ⟨⟨xs, xs[i], q, by simp [hlt]⟩, Pv (i + 1), fun σ' H' p' => ⟨xs.length - (i + 1), by omega, rfl, hlt, p'⟩, fun x H' y => ?_⟩
    obtain ⟨T, z, e, hT, e2, y⟩ := y
    subst e e2
    exact hs i z σ H T (y xs q) p hT
  · have e : i = xs.length := by omega
    subst e
    exact .inl ⟨⟨xs, q, Nat.le_refl _⟩, hd σ H p⟩
end
/-! ### lists joined and repeated -/
section
variable {W : List Addr} {R0 B R H R1 H1 : Hp} {L : List (Addr × HO)} {K : PySem.W.Frag} {Q : VK} {a b p l : Addr} {xs ys vs : List V} {o : HO} {ds es : List PyData}
theorem w_cat (ha : H a = some (.lst xs)) (hb : H b = some (.lst ys)) (hl : xs.length + ys.length ≤ 100000) (h : ∀ p, H p = none → Q (.ref p) (upd H p (.lst (xs ++ ys)))) : rCat (.ref a) (.ref b) H Q := ⟨a, b, xs, ys, rfl, rfl, ha, hb, sz hl, h⟩
theorem w_rep {k : Int} (ha : H a = some (.lst xs)) (h0 : -1000 ≤ k) (h1 : k ≤ 1000) (hl : xs.length * k.toNat ≤ 100000) (h : ∀ p, H p = none → Q (.ref p) (upd H p (.lst (List.replicate k.toNat xs).flatten))) : rRep (.ref a) (.int k) H Q :=
  ⟨a, k, xs, rfl, rfl, ha, by omega, by omega, sz hl, h⟩
/-- a new thing, made by a step, is one's own from now on -/
theorem Sta.take (S : Sta W R0 B R H L) (g : Gw [] R H R1 H1) (n : H p = none) (h : H1 p = some o) (r : R1 p = none) : Sta W R0 B R1 H1 ((p, o) :: L) where
  g := S.g.then g fun _ h => nomatch h
  o := by
    have S1 := S.step g fun _ h => nomatch h
    refine ⟨List.nodup_cons.mpr ⟨fun m => ?_, S.o.1⟩, fun q hq => ?_⟩
    · obtain ⟨q, hq, e⟩ := List.mem_map.mp m
      exact S.ne_new n hq e
    · rcases List.mem_cons.mp hq with rfl | h'
      · exact ⟨h, S.g.no n, r⟩
      · exact S1.o.2 q h'
theorem Sta.sm (S : Sta W R0 B R H L) (s : Same H H1) : Sta W R0 B R H1 L := S.step (W' := []) (Gw.of_same S.sub' s) fun _ h => nomatch h
theorem Sta.nR (S : Sta W R0 B R H L) (n : H p = none) : R p = none := S.g.noR n
/-- one more tuple of data behind those so far, in the region -/
theorem Sta.row (S : Sta W R0 B R H L) (n : H p = none) (as : DpAll K R vs es) (a : DpAll K R xs ds) : DpAll K (upd R p (.tup xs)) (vs ++ [.ref p]) (es ++ [.tuple ds]) :=
  (as.up (same_new (S.nR n) _)).snoc (dp_tupN (S.nR n) a)
theorem Sta.row0 (S : Sta W R0 B R H L) (n : H p = none) (a : DpAll K R xs ds) : DpAll K (upd R p (.tup xs)) [.ref p] [.tuple ds] := S.row n .nil a
theorem Sta.upR (S : Sta W R0 B R H L) (n : H p = none) (o : HO) (as : DpAll K R vs es) : DpAll K (upd R p o) vs es := as.up (same_new (S.nR n) _)
end
theorem dpAll_rep {K : PySem.W.Frag} {H : Hp} {xs : List V} {ds : List PyData} (h : DpAll K H xs ds) : ∀ n : Nat, DpAll K H (List.replicate n xs).flatten (List.replicate n ds).flatten
  | 0 => .nil
  | n + 1 => by
    rw [List.replicate_succ, List.replicate_succ, List.flatten_cons, List.flatten_cons]
    exact h.app (dpAll_rep h n)
end U

/-! U9: slices with a step, in, comprehensions over enumerate, == of lists with one that is empty (own work). -/
namespace U
open PySem PySem.Spec PyProof.Rows L2
theorem vals_pick {xs : List V} {us : List Value} (r : Vals xs us) : ∀ idx : List Nat, Vals (idx.filterMap (xs[·]?)) (idx.filterMap (us[·]?))
  | [] => .nil
  | i :: idx => by
    rw [List.filterMap_cons, List.filterMap_cons]
    cases h : xs[i]? with
    | none => rw [Vals.none_of r h]; exact vals_pick r idx
    | some x =>
      obtain ⟨u, hu, ru⟩ := r.get h
      rw [hu]
      exact .cons ru (vals_pick r idx)
/-- xs[lo:hi:st] of a list: some of its items -/
def tSl3 (K : PySem.W.Frag) (te : TE) (tl th tt : TO) : TE := fun σ H Q => te σ H fun x H1 => tl σ H1 fun l H2 => th σ H2 fun u H3 => tt σ H3 fun st H4 => ∃ a xs, x = .ref a ∧ SqL K H4 a xs ∧ st ≠ some 0 ∧ ∀ ys p, ys.length ≤ xs.length → (∀ y ∈ ys, y ∈ xs) → H4 p = none → Q (.ref p) (upd H4 p (.lst ys))
theorem pe_slice3 {X : Cx} {e es : Expr} {lo hi : Option Expr} {te : TE} {tl th tt : TO} {p2 pos : Pos} (he : PE X e te) (hl : PO X lo tl) (hu : PO X hi th) (hst : PO X (some es) tt) : PE X (.Subscript e (.Slice lo hi (some es) p2) pos) (tSl3 X.K te tl th tt) := by
  refine ⟨fun pins s σ H Q I h => ?_⟩
  refine Subscript_ (thn (he.run pins s σ H _ I h) fun v s1 ⟨x, H1, I1, r1, q1⟩ => ?_)
  refine wpAny_Slice (thn (hl.run pins s1 σ H1 _ I1 q1) fun vl s2 ⟨l, H2, I2, pl, q2⟩ => thn (hu.run pins s2 σ H2 _ I2 q2) fun vu s3 ⟨u, H3, I3, pu, q3⟩ => thn (hst.run pins s3 σ H3 _ I3 q3) fun vst s4 ⟨st, H4, I4, pst, q4⟩ => ?_)
  obtain ⟨a, xs, rfl, hx, h0, q⟩ := q4
  cases r1
  have I5 : Inv X pins σ H4 { s4 with heap := s4.heap.push { cls := .type "slice", data := .fields #[vl, vu, vst] } } := I4.kept (t' := s4.toks) fun b ob q => Heap.get?_push_of_some _ q
  obtain ⟨its, r, ht, hz⟩ := I5.list hx
  have hlen := r.length
  show wpAny (model X.prog X.w) X.A (subscriptTail e (.Slice lo hi (some es) p2) (.ref a) (.ref s4.heap.objs.size)) (EP X pins σ Q) X.xe { s4 with heap := s4.heap.push { cls := .type "slice", data := .fields #[vl, vu, vst] } }
  refine tail_any (ops := [.ref a, .ref s4.heap.objs.size]) (T := "list") ht.isList.typeIs slot_list_getitem.lookup ?_ (by with_unfolding_all rfl)
  refine wpAny_getItem_list_slice ht.isList (Heap.IsSliceOf.new ..) pl pu pst h0 ?_ (by rw [List.size_toArray] <;> omega)
  have hv := vals_pick r (sliceRange (sliceBounds l u st its.toArray.size).1 (sliceBounds l u st its.toArray.size).2.1 (sliceBounds l u st its.toArray.size).2.2)
  have e1 : slicePick its.toArray l u st = ((sliceRange (sliceBounds l u st its.toArray.size).1 (sliceBounds l u st its.toArray.size).2.1 (sliceBounds l u st its.toArray.size).2.2).filterMap (its[·]?)).toArray := by
    unfold slicePick
    congr 2
    funext i
    rw [List.getElem?_toArray]
  have hs := slicePick_size_le its.toArray l u st
  generalize hidx : sliceRange (sliceBounds l u st its.toArray.size).1 (sliceBounds l u st its.toArray.size).2.1 (sliceBounds l u st its.toArray.size).2.2 = idx at *
  rw [e1] at hs ⊢
  have hl2 : (idx.filterMap (xs[·]?)).length ≤ xs.length := by
    rw [hv.length, hlen]
    rw [List.size_toArray, List.size_toArray] at hs
    exact hs
  refine ⟨.ref _, _, I5.laid (t' := s4.toks) (o := .lst (idx.filterMap (xs[·]?))) (fun b ob q => Heap.get?_push_of_some _ q) (Nat.le_refl _) ?_, rfl, q _ _ hl2 (fun y hy => ?_) (I5.hok.fresh (Nat.le_refl _))⟩
  · exact ⟨Nat.le_trans hl2 (by omega), _, 0, hv, Heap.get?_push_size _ rfl⟩
  · obtain ⟨i, _, hi⟩ := List.mem_filterMap.mp hy
    exact List.mem_of_getElem? hi
/-! ### in, == -/
section
variable {K : PySem.W.Frag} {H : Hp} {Q : VK} {a p : Addr} {xs : List V} {x : V} {b : Bool}
theorem w_inT (ha : SqT K H p xs) (fx : flatV x = true) (fs : xs.all flatV = true) (e : inV x xs = b) (h : Q (.bl b) H) : rIn K false x (.ref p) H Q := ⟨p, xs, rfl, .inr ha, fx, fs, by rw [if_neg Bool.false_ne_true, e]; exact h⟩
theorem w_neDD {x y : V} {d e : PyData} (hx : Dp K H x d) (hy : Dp K H y e) (s : SeqAt.shaped d = true) (t : SeqAt.shaped e = true) (h : Q (.bl (!PyData.eqv d e)) H) : rNeD K x y H Q := ⟨d, e, hx, hy, s, t, h⟩
theorem w_eqDD {x y : V} {d e : PyData} (hx : Dp K H x d) (hy : Dp K H y e) (s : SeqAt.shaped d = true) (t : SeqAt.shaped e = true) (h : Q (.bl (PyData.eqv d e)) H) : rEqD K x y H Q := ⟨d, e, hx, hy, s, t, h⟩
theorem eqv_nil {ds : List PyData} : PyData.eqv (.list ds) (.list []) = ds.isEmpty := by
  rw [PyData.eqv]
  cases ds <;> rfl
theorem shaped_nil : SeqAt.shaped (.list []) = true := by decide +kernel
/-- a list, whatever stands in it, against a new empty one -/
theorem w_neNil {y : V} {ds : List PyData} {vs : List V} (ha : SqL K H a vs) (hd : DpAll K H vs ds) (hy : Dp K H y (.list [])) (s : SeqAt.shaped (.list ds) = true) (h : Q (.bl (!vs.isEmpty)) H) : rNeD K (.ref a) y H Q :=
  w_neDD (.lst ha hd) hy s shaped_nil (by
    rw [eqv_nil]
    have e : ds.isEmpty = vs.isEmpty := by cases hd <;> rfl
    rw [e]; exact h)
theorem w_eqNil {y : V} {ds : List PyData} {vs : List V} (ha : SqL K H a vs) (hd : DpAll K H vs ds) (hy : Dp K H y (.list [])) (s : SeqAt.shaped (.list ds) = true) (h : Q (.bl vs.isEmpty) H) : rEqD K (.ref a) y H Q :=
  w_eqDD (.lst ha hd) hy s shaped_nil (by
    rw [eqv_nil]
    have e : ds.isEmpty = vs.isEmpty := by cases hd <;> rfl
    rw [e]; exact h)
end
/-! ### comprehensions over enumerate -/
section
variable {K : PySem.W.Frag} {g : TG} {tt : TT} {te : TE} {vs : List Nat} {σ : L2.St} {H : Hp} {a : Addr} {xs : List V}
theorem lc_E {Q : VK} (Pv : Addr → Nat → Hp → Prop) (hS : SqL K H a xs) (h0 : ∀ D, H D = none → Pv D 0 (upd H D (.lst []))) (hl : ∀ D i H1, H D = none → i ≤ xs.length → Pv D i H1 → SqL K H1 a xs)
    (hs : ∀ D i x H1 T, H D = none → xs[i]? = some x → Pv D i H1 → H1 T = none → g (.ref T) (wipe σ vs) (upd H1 T (.tup [.int (i : Nat), x])) fun σ2 H2 => wipe σ2 vs = wipe σ vs ∧ tt σ2 H2 fun b H3 => if b = true then te σ2 H3 fun y H4 => LcE D (Pv D (i + 1)) y H4 else Pv D (i + 1) H3)
    (hd : ∀ D H1, H D = none → Pv D xs.length H1 → Q (.ref D) H1) :
    ItE K (fun J H1 => LcB J g tt te vs σ Q H1) [.ref a] H := by
  refine ⟨a, xs, rfl, hS, fun D hD => ⟨fun i m H => m = xs.length - i ∧ i ≤ xs.length ∧ Pv D i H, ⟨xs.length, by simp, Nat.zero_le _, h0 D hD⟩, ?_⟩⟩
  rintro i m H ⟨rfl, hi, p⟩
  have q := hl D i H hD hi p
  by_cases hlt : i < xs.length
  · refine .inr ⟨⟨xs, xs[i], q, by simp [hlt]⟩, Pv D (i + 1), fun H' p' => ⟨xs.length - (i + 1), by omega, rfl, hlt, p'⟩, fun x H' y => ?_⟩
    obtain ⟨T, z, e, hT, e2, y⟩ := y
    subst e e2
    exact hs D i z H T hD (y xs q) p hT
  · have e : i = xs.length := by omega
    subst e
    exact .inl ⟨⟨xs, q, Nat.le_refl _⟩, hd D H hD p⟩
end
theorem ix_ltK {X : Cx} {K : PySem.W.Frag} (h : X.K = K) : IxR X (rIxLT K) := by
  subst h
  exact ix_lt
theorem cut_hi (xs : List V) (j : Nat) : cutV xs none (some (j : Int)) = xs.take j := by
  unfold cutV
  rw [HT.sIx_none, HT.sIx_nat]
  show (xs.drop 0).take (min j xs.length - 0) = _
  rw [List.drop_zero, Nat.sub_zero]
  by_cases h : j ≤ xs.length
  · rw [Nat.min_eq_left h]
  · rw [Nat.min_eq_right (by omega), List.take_of_length_le (Nat.le_refl _), List.take_of_length_le (by omega)]
theorem ixN_nat' {n k : Nat} (h : k < n) : ixN n (k : Int) = some k := by
  unfold ixN
  rw [if_pos (by omega), if_pos (by omega), Int.toNat_natCast]
theorem op_inK {X : Cx} {K : PySem.W.Frag} (h : X.K = K) : OpR X (compareOp .In) (rIn K false) := by
  subst h
  exact op_in_seq
section
variable {K : PySem.W.Frag} {g : TG} {tt : TT} {te : TE} {vs : List Nat} {σ : L2.St} {H : Hp}
theorem lc_R2 {Q : VK} {i0 j0 : Int} (Pv : Addr → Nat → Hp → Prop) (b1 : -(2 ^ 62) ≤ i0) (b2 : i0 < 2 ^ 62) (b3 : -(2 ^ 62) ≤ j0) (b4 : j0 < 2 ^ 62) (h0 : ∀ D, H D = none → Pv D 0 (upd H D (.lst [])))
    (hs : ∀ D i H1, H D = none → i < (j0 - i0).toNat → Pv D i H1 → g (.int (i0 + (i : Nat))) (wipe σ vs) H1 fun σ2 H2 => wipe σ2 vs = wipe σ vs ∧ tt σ2 H2 fun b H3 => if b = true then te σ2 H3 fun y H4 => LcE D (Pv D (i + 1)) y H4 else Pv D (i + 1) H3)
    (hd : ∀ D H1, H D = none → Pv D (j0 - i0).toNat H1 → Q (.ref D) H1) :
    ItR2 (fun J H1 => LcB J g tt te vs σ Q H1) [.int i0, .int j0] H :=
  ⟨i0, j0, rfl, ⟨b1, b2, b3, b4⟩, fun D hD => lc_range (Qd := fun H1 => Q (.ref D) H1) (Pv D) (h0 D hD) (fun i H1 hi p => hs D i H1 hD hi p) (fun H1 p => hd D H1 hD p)⟩
end
end U

/-! U10: tuples as targets of comprehensions (own work). -/
namespace U
open PySem PySem.Spec PyProof.Rows L2
theorem pg_tupK {X : Cx} {K : PySem.W.Frag} {es : List Expr} {k : Nat} {t : TGs} {n : Nat} {pos : Pos} (hK : X.K = K) (hc : X.calm = true) (h : PGs X es t)
    (hn : (assignEach es X.env).length = n := by rfl) (hst : (assignEach es X.env).findIdx? (·.1) = none := by rfl) : PG X (.Tuple es k pos) (gTup K n t) := by
  subst hK
  exact pg_tup hc h hn hst
theorem pe_slice3K {X : Cx} {K : PySem.W.Frag} {e es : Expr} {lo hi : Option Expr} {te : TE} {tl th tt : TO} {p2 pos : Pos} (hK : X.K = K) (he : PE X e te) (hl : PO X lo tl) (hu : PO X hi th) (hst : PO X (some es) tt) : PE X (.Subscript e (.Slice lo hi (some es) p2) pos) (tSl3 K te tl th tt) := by
  subst hK
  exact pe_slice3 he hl hu hst
section
variable {K : PySem.W.Frag} {σ : L2.St} {H : Hp} {Q : VK} {te : TE} {tl th tt : TO} {a : Addr} {xs : List V}
def Sl3E (K : PySem.W.Frag) (Q : VK) (x : V) (st : Option Int) (H4 : Hp) : Prop := ∃ a xs, x = .ref a ∧ SqL K H4 a xs ∧ st ≠ some 0 ∧ ∀ ys p, ys.length ≤ xs.length → (∀ y ∈ ys, y ∈ xs) → H4 p = none → Q (.ref p) (upd H4 p (.lst ys))
theorem w_sl3 (h : te σ H fun x H1 => tl σ H1 fun _ H2 => th σ H2 fun _ H3 => tt σ H3 fun st H4 => Sl3E K Q x st H4) : tSl3 K te tl th tt σ H Q := h
theorem w_sl3E {st : Int} (ha : SqL K H a xs) (h0 : st ≠ 0) (h : ∀ ys p, ys.length ≤ xs.length → (∀ y ∈ ys, y ∈ xs) → H p = none → Q (.ref p) (upd H p (.lst ys))) : Sl3E K Q (.ref a) (some st) H := ⟨a, xs, rfl, ha, fun e => h0 (Option.some.inj e), h⟩
end
end U

/-! MM: the machine as a function of plain Lean (own work). -/
namespace MM
open PySem L2 U
inductive Op4 where
  | add | sub | less | share
  deriving DecidableEq
@[reducible] def Op4.word : Op4 → Str
  | .add => "add"
  | .sub => "sub"
  | .less => "less"
  | .share => "share"
def reck : Op4 → Int → Int → Option Int
  | .add, a, b => some (a + b)
  | .sub, a, b => some (a - b)
  | .less, a, b => some (if a < b then 1 else 0)
  | .share, a, b => if b = 0 then none else some (a.fdiv b)
inductive Rw where
  | put (n : Int) | get (k : Int) | set (k : Int) | say | rek (o : Op4) | go (p : Int) | nought (p : Int) | on (k : Int) | turn | call (f : Int) | back | raise
  deriving DecidableEq
def Rw.enc : Rw → PyData
  | .put n => .tuple [.str "put", .int n]
  | .get n => .tuple [.str "get", .int n]
  | .set n => .tuple [.str "set", .int n]
  | .say => .tuple [.str "say"]
  | .rek o => .tuple [.str o.word]
  | .go n => .tuple [.str "go", .int n]
  | .nought n => .tuple [.str "nought", .int n]
  | .on n => .tuple [.str "on", .int n]
  | .turn => .tuple [.str "turn"]
  | .call n => .tuple [.str "call", .int n]
  | .back => .tuple [.str "back"]
  | .raise => .tuple [.str "raise"]
abbrev St3 := Int × Int × Int
def enc3 (t : St3) : PyData := .tuple [.int t.1, .int t.2.1, .int t.2.2]
structure Cd where
  rows : List Rw
  str : List St3
  begins : List Int
  boxes : Int
def Cd.enc (C : Cd) : PyData := .tuple [.list (C.rows.map Rw.enc), .list (C.str.map enc3), .list (C.begins.map .int), .int C.boxes]
theorem Rw.enc_ok (r : Rw) : r.enc.canLay0 = true ∧ r.enc.depth ≤ 1 := by
  cases r with
  | rek o => cases o <;> exact ⟨by decide +kernel, by decide +kernel⟩
  | put n => exact ⟨by simp only [Rw.enc, PyData.canLay0, PyData.canLayAll0]; decide +kernel, by simp [Rw.enc, PyData.depth, PyData.depthAll]⟩
  | get n => exact ⟨by simp only [Rw.enc, PyData.canLay0, PyData.canLayAll0]; decide +kernel, by simp [Rw.enc, PyData.depth, PyData.depthAll]⟩
  | set n => exact ⟨by simp only [Rw.enc, PyData.canLay0, PyData.canLayAll0]; decide +kernel, by simp [Rw.enc, PyData.depth, PyData.depthAll]⟩
  | go n => exact ⟨by simp only [Rw.enc, PyData.canLay0, PyData.canLayAll0]; decide +kernel, by simp [Rw.enc, PyData.depth, PyData.depthAll]⟩
  | nought n => exact ⟨by simp only [Rw.enc, PyData.canLay0, PyData.canLayAll0]; decide +kernel, by simp [Rw.enc, PyData.depth, PyData.depthAll]⟩
  | on n => exact ⟨by simp only [Rw.enc, PyData.canLay0, PyData.canLayAll0]; decide +kernel, by simp [Rw.enc, PyData.depth, PyData.depthAll]⟩
  | call n => exact ⟨by simp only [Rw.enc, PyData.canLay0, PyData.canLayAll0]; decide +kernel, by simp [Rw.enc, PyData.depth, PyData.depthAll]⟩
  | say => exact ⟨by decide +kernel, by decide +kernel⟩
  | turn => exact ⟨by decide +kernel, by decide +kernel⟩
  | back => exact ⟨by decide +kernel, by decide +kernel⟩
  | raise => exact ⟨by decide +kernel, by decide +kernel⟩
theorem rows_shaped (l : List Rw) : SeqAt.shaped (.list (l.map Rw.enc)) = true := shaped_list (n := 1) (fun d hd => by
  obtain ⟨r, _, rfl⟩ := List.mem_map.mp hd
  exact r.enc_ok) (by decide)
theorem str_shaped (l : List St3) : SeqAt.shaped (.list (l.map enc3)) = true := shaped_list (n := 1) (fun d hd => by
  obtain ⟨r, _, rfl⟩ := List.mem_map.mp hd
  exact ⟨rfl, Nat.le_refl 1⟩) (by decide)
theorem ints_shaped (l : List Int) : SeqAt.shaped (.list (l.map PyData.int)) = true := shaped_list (n := 0) (fun d hd => by
  obtain ⟨r, _, rfl⟩ := List.mem_map.mp hd
  exact ⟨rfl, Nat.le_refl 0⟩) (by decide)
structure Fr where
  place : Int
  boxes : List Int
  pile : List Int
inductive Ou where
  | answer (n : Int) | fault (n : Int) | tired
@[reducible] def Ou.word : Ou → Str
  | .answer _ => "answer"
  | .fault _ => "fault"
  | .tired => "tired"
@[reducible] def Ou.num : Ou → Int
  | .answer n => n
  | .fault n => n
  | .tired => 0
structure MS where
  turns : Int
  fs : List Fr
  said : List Int
  out : Option Ou
@[reducible] def optV : Option Int → V
  | none => .non
  | some i => .int i
def outEnc (said : List Int) (o : Ou) : PyData := .tuple [.list (said.map .int), .str o.word, .int o.num]
/-- the goal of the first stretch that holds a place -/
def goal (place : Int) : List St3 → Option Int
  | [] => none
  | t :: r => if t.1 ≤ place ∧ place < t.2.1 then some t.2.2 else goal place r
theorem goal_cons {place : Int} {t : St3} {r : List St3} : goal place (t :: r) = if t.1 ≤ place ∧ place < t.2.1 then some t.2.2 else goal place r := rfl
/-- a fault: the functions that stand then, and the outcome, if any -/
def fault (S : List St3) (n : Int) : List Fr → List Fr × Option Ou
  | [] => ([], some (.fault n))
  | f :: r => match goal (f.place - 1) S with
    | some g => ({ f with place := g, pile := [n] } :: r, none)
    | none => fault S n r
def MS.faulted (s : MS) (S : List St3) (n : Int) : MS := { s with fs := (fault S n s.fs).1, out := (fault S n s.fs).2 }
def newFr (C : Cd) (b n : Int) : Fr := ⟨b, n :: List.replicate (C.boxes - 1).toNat 0, []⟩
/-- a function is entered -/
def enter (C : Cd) (f n : Int) (s : MS) : Option MS :=
  if s.fs.length = 8 then some (s.faulted C.str 102)
  else match atI C.begins f with
    | some b => some { s with fs := newFr C b n :: s.fs }
    | none => none
/-- a row is done; the place of the uppermost function is already the next one -/
def act (C : Cd) (s : MS) : Rw → Option MS := fun r => match s.fs with
  | [] => none
  | f :: fs => match r with
    | .put n => some { s with fs := { f with pile := n :: f.pile } :: fs }
    | .get k => match atI f.boxes k with
      | some n => some { s with fs := { f with pile := n :: f.pile } :: fs }
      | none => none
    | .set k => match f.pile, ixN f.boxes.length k with
      | n :: p, some j => some { s with fs := { f with pile := p, boxes := f.boxes.set j n } :: fs }
      | _, _ => none
    | .say => match f.pile with
      | n :: p => some { s with fs := { f with pile := p } :: fs, said := s.said ++ [n] }
      | _ => none
    | .rek o => match f.pile with
      | b :: a :: p => match reck o a b with
        | some n => some { s with fs := { f with pile := n :: p } :: fs }
        | none => some ({ s with fs := { f with pile := p } :: fs }.faulted C.str 101)
      | _ => none
    | .go p => some { s with fs := { f with place := p } :: fs }
    | .nought q => match f.pile with
      | n :: p => some { s with fs := { f with pile := p, place := if n = 0 then q else f.place } :: fs }
      | _ => none
    | .on k => match atI f.boxes k with
      | some n => some { s with fs := { f with place := n } :: fs }
      | none => none
    | .turn => if s.turns < 1 then some { s with out := some .tired } else some { s with turns := s.turns - 1 }
    | .call g => match f.pile with
      | n :: p => if s.turns < 1 then some { s with fs := { f with pile := p } :: fs, out := some .tired } else enter C g n { s with fs := { f with pile := p } :: fs, turns := s.turns - 1 }
      | _ => none
    | .back => match f.pile with
      | n :: _ => match fs with
        | [] => some { s with fs := [], out := some (.answer n) }
        | g :: gs => some { s with fs := { g with pile := n :: g.pile } :: gs }
      | _ => none
    | .raise => match f.pile with
      | n :: p => some ({ s with fs := { f with pile := p } :: fs }.faulted C.str n)
      | _ => none
def step (C : Cd) (s : MS) : Option MS := match s.fs with
  | [] => none
  | f :: fs => match atI C.rows f.place with
    | some r => act C { s with fs := { f with place := f.place + 1 } :: fs } r
    | none => none
/-- n steps, each ahead of an outcome -/
def runs (C : Cd) : Nat → MS → Option MS
  | 0, s => some s
  | n + 1, s => match s.out with
    | some _ => none
    | none => (step C s).bind (runs C n)
def init (C : Cd) (number turns : Int) : Option MS := enter C 0 number ⟨turns, [], [], none⟩
/-! ### piles and what was said stay small -/
def Small (b : Nat) (s : MS) : Prop := s.said.length ≤ b ∧ ∀ f ∈ s.fs, f.pile.length ≤ b
theorem Small.mono {b c : Nat} {s : MS} (h : Small b s) (l : b ≤ c) : Small c s := ⟨Nat.le_trans h.1 l, fun f hf => Nat.le_trans (h.2 f hf) l⟩
theorem fault_small {S : List St3} {n : Int} {b : Nat} : ∀ {l : List Fr}, (∀ f ∈ l, f.pile.length ≤ b + 1) → ∀ f ∈ (fault S n l).1, f.pile.length ≤ b + 1
  | [], _, f, h => by cases h
  | g :: r, hl, f, h => by
    unfold fault at h
    split at h
    · rcases List.mem_cons.mp h with rfl | h
      · simp
      · exact hl f (List.mem_cons_of_mem _ h)
    · exact fault_small (fun f hf => hl f (List.mem_cons_of_mem _ hf)) f h
theorem faulted_small {S : List St3} {n : Int} {b : Nat} {s : MS} (h : Small (b + 1) s) : Small (b + 1) (s.faulted S n) := ⟨h.1, fun f hf => fault_small h.2 f hf⟩
theorem small_top {b : Nat} {s : MS} {f g : Fr} {fs : List Fr} (h : Small b s) (e : s.fs = f :: fs) (l : g.pile.length ≤ b + 1) {t : Int} {sd : List Int} {o : Option Ou} (ls : sd.length ≤ b + 1) : Small (b + 1) ⟨t, g :: fs, sd, o⟩ :=
  ⟨ls, fun x hx => by
    rcases List.mem_cons.mp hx with rfl | hx
    · exact l
    · exact Nat.le_succ_of_le (h.2 x (by rw [e]; exact List.mem_cons_of_mem _ hx))⟩
theorem enter_small {C : Cd} {f n : Int} {b : Nat} {s s' : MS} (h : Small (b + 1) s) (e : enter C f n s = some s') : Small (b + 1) s' := by
  unfold enter at e
  split at e
  · cases e
    exact faulted_small h
  · split at e
    · cases e
      refine ⟨h.1, fun x hx => ?_⟩
      rcases List.mem_cons.mp hx with rfl | hx
      · simp [newFr]
      · exact h.2 x hx
    · cases e
theorem act_small {C : Cd} {b : Nat} {s s' : MS} {r : Rw} (h : Small b s) (e : act C s r = some s') : Small (b + 1) s' := by
  unfold act at e
  split at e
  · cases e
  · rename_i f fs ef
    have hf : f.pile.length ≤ b := h.2 f (by rw [ef]; exact List.mem_cons_self ..)
    have ls : s.said.length ≤ b + 1 := Nat.le_succ_of_le h.1
    cases r with
    | put n => cases e; exact small_top h ef (by simpa using hf) ls
    | get k =>
      simp only at e
      split at e
      · cases e; exact small_top h ef (by simpa using hf) ls
      · cases e
    | set k =>
      simp only at e
      split at e
      · rename_i n p j ep ej
        cases e
        exact small_top h ef (by rw [ep] at hf; simp at hf ⊢; omega) ls
      · cases e
    | say =>
      simp only at e
      split at e
      · rename_i n p ep
        cases e
        exact small_top h ef (by rw [ep] at hf; simp at hf ⊢; omega) (by have := h.1; simp; omega)
      · cases e
    | rek o =>
      simp only at e
      split at e
      · rename_i n m p ep
        rw [ep] at hf
        simp at hf
        split at e
        · cases e
          exact small_top h ef (by simp; omega) ls
        · cases e
          exact faulted_small (small_top h ef (by simp; omega) ls)
      · cases e
    | go p => cases e; exact small_top h ef (by simpa using Nat.le_succ_of_le hf) ls
    | nought q =>
      simp only at e
      split at e
      · rename_i n p ep
        cases e
        exact small_top h ef (by rw [ep] at hf; simp at hf ⊢; omega) ls
      · cases e
    | on k =>
      simp only at e
      split at e
      · cases e; exact small_top h ef (by simpa using Nat.le_succ_of_le hf) ls
      · cases e
    | turn =>
      simp only at e
      split at e
      · cases e; exact ⟨ls, fun x hx => Nat.le_succ_of_le (h.2 x hx)⟩
      · cases e; exact ⟨ls, fun x hx => Nat.le_succ_of_le (h.2 x hx)⟩
    | call g =>
      simp only at e
      split at e
      · rename_i n p ep
        rw [ep] at hf
        simp at hf
        split at e
        · cases e
          exact small_top h ef (by simp; omega) ls
        · exact enter_small (small_top h ef (by simp; omega) ls) e
      · cases e
    | back =>
      simp only at e
      split at e
      · rename_i n p ep
        split at e
        · cases e
          exact ⟨ls, fun x hx => by cases hx⟩
        · rename_i g gs
          cases e
          have hg : g.pile.length ≤ b := h.2 g (by rw [ef]; simp)
          refine ⟨ls, fun x hx => ?_⟩
          rcases List.mem_cons.mp hx with rfl | hx
          · simpa using hg
          · exact Nat.le_succ_of_le (h.2 x (by rw [ef]; simp [hx]))
      · cases e
    | raise =>
      simp only at e
      split at e
      · rename_i n p ep
        rw [ep] at hf
        simp at hf
        cases e
        exact faulted_small (small_top h ef (by simp; omega) ls)
      · cases e
theorem step_small {C : Cd} {b : Nat} {s s' : MS} (h : Small b s) (e : step C s = some s') : Small (b + 1) s' := by
  unfold step at e
  split at e
  · cases e
  · rename_i f fs ef
    split at e
    · refine act_small (s := { s with fs := { f with place := f.place + 1 } :: fs }) ⟨h.1, fun x hx => ?_⟩ e
      rcases List.mem_cons.mp hx with rfl | hx
      · exact h.2 f (by rw [ef]; exact List.mem_cons_self ..)
      · exact h.2 x (by rw [ef]; exact List.mem_cons_of_mem _ hx)
    · cases e
theorem runs_succ {C : Cd} {n : Nat} {s s' : MS} (h : runs C (n + 1) s = some s') : s.out = none ∧ ∃ t, step C s = some t ∧ runs C n t = some s' := by
  unfold runs at h
  split at h
  · cases h
  · rename_i e
    obtain ⟨t, h1, h2⟩ := Option.bind_eq_some_iff.mp h
    exact ⟨e, t, h1, h2⟩
theorem runs_of {C : Cd} {n : Nat} {s t s' : MS} (e : s.out = none) (h1 : step C s = some t) (h2 : runs C n t = some s') : runs C (n + 1) s = some s' := by
  unfold runs
  rw [e]
  show (step C s).bind (runs C n) = some s'
  rw [h1]
  exact h2
theorem runs_add {C : Cd} : ∀ {m n : Nat} {s t s' : MS}, runs C m s = some t → runs C n t = some s' → runs C (m + n) s = some s'
  | 0, n, s, t, s', h1, h2 => by
    have e : s = t := Option.some.inj h1
    rw [e, Nat.zero_add]
    exact h2
  | m + 1, n, s, t, s', h1, h2 => by
    obtain ⟨e, u, hu, h3⟩ := runs_succ h1
    rw [Nat.add_right_comm]
    exact runs_of e hu (runs_add h3 h2)
theorem fault_len {S : List St3} {n : Int} : ∀ {l : List Fr}, (fault S n l).1.length ≤ l.length
  | [] => Nat.le_refl _
  | g :: r => by
    unfold fault
    split
    · exact Nat.le_refl _
    · exact Nat.le_succ_of_le fault_len
theorem enter_len {C : Cd} {f n : Int} {s s' : MS} (h : s.fs.length ≤ 8) (e : enter C f n s = some s') : s'.fs.length ≤ 8 := by
  unfold enter at e
  split at e
  · cases e
    exact Nat.le_trans fault_len h
  · split at e
    · cases e
      show s.fs.length + 1 ≤ 8
      omega
    · cases e
theorem act_len {C : Cd} {s s' : MS} {r : Rw} (h : s.fs.length ≤ 8) (e : act C s r = some s') : s'.fs.length ≤ 8 := by
  unfold act at e
  split at e
  · cases e
  · rename_i f fs ef
    rw [ef] at h
    cases r with
    | put n => cases e; exact h
    | get k => simp only at e; split at e <;> first | (cases e; exact h) | cases e
    | set k => simp only at e; split at e <;> first | (cases e; exact h) | cases e
    | say => simp only at e; split at e <;> first | (cases e; exact h) | cases e
    | rek o =>
      simp only at e
      split at e
      · split at e
        · cases e; exact h
        · cases e; exact Nat.le_trans fault_len h
      · cases e
    | go p => cases e; exact h
    | nought q => simp only at e; split at e <;> first | (cases e; exact h) | cases e
    | on k => simp only at e; split at e <;> first | (cases e; exact h) | cases e
    | turn => simp only at e; split at e <;> (cases e; rw [ef]; exact h)
    | call g =>
      simp only at e
      split at e
      · split at e
        · cases e; exact h
        · exact enter_len (by exact h) e
      · cases e
    | back =>
      simp only at e
      split at e
      · split at e
        · cases e; exact Nat.zero_le _
        · cases e
          simp at h ⊢
          omega
      · cases e
    | raise =>
      simp only at e
      split at e
      · cases e; exact Nat.le_trans fault_len h
      · cases e
theorem step_len {C : Cd} {s s' : MS} (h : s.fs.length ≤ 8) (e : step C s = some s') : s'.fs.length ≤ 8 := by
  unfold step at e
  split at e
  · cases e
  · rename_i f fs ef
    rw [ef] at h
    split at e
    · exact act_len (s := { s with fs := { f with place := f.place + 1 } :: fs }) h e
    · cases e
end MM

/-! K05a: the machine on the code of k05's law always ends (own work). -/
namespace K05
open PySem L2 U MM
/-- the state of one function alone -/
abbrev mk1 (t p : Int) (b q sd : List Int) : MS := ⟨t, [⟨p, b, q⟩], sd, none⟩
section
variable {C : Cd} {t p : Int} {b q sd : List Int}
theorem s_put {n : Int} (h : atI C.rows p = some (.put n)) : MM.step C (mk1 t p b q sd) = some (mk1 t (p + 1) b (n :: q) sd) := by
  unfold MM.step; dsimp only; rw [h]; rfl
theorem s_get {k n : Int} (h : atI C.rows p = some (.get k)) (hb : atI b k = some n) : MM.step C (mk1 t p b q sd) = some (mk1 t (p + 1) b (n :: q) sd) := by
  unfold MM.step; dsimp only; rw [h]; dsimp only [act]; rw [hb]
theorem s_set {k n : Int} {j : Nat} (h : atI C.rows p = some (.set k)) (hb : ixN b.length k = some j) : MM.step C (mk1 t p b (n :: q) sd) = some (mk1 t (p + 1) (b.set j n) q sd) := by
  unfold MM.step; dsimp only; rw [h]; dsimp only [act]; rw [hb]
theorem s_say {n : Int} (h : atI C.rows p = some .say) : MM.step C (mk1 t p b (n :: q) sd) = some (mk1 t (p + 1) b q (sd ++ [n])) := by
  unfold MM.step; dsimp only; rw [h]; rfl
theorem s_add {n m : Int} (h : atI C.rows p = some (.rek .add)) : MM.step C (mk1 t p b (n :: m :: q) sd) = some (mk1 t (p + 1) b ((m + n) :: q) sd) := by
  unfold MM.step; dsimp only; rw [h]; rfl
theorem s_go {g : Int} (h : atI C.rows p = some (.go g)) : MM.step C (mk1 t p b q sd) = some (mk1 t g b q sd) := by
  unfold MM.step; dsimp only; rw [h]; rfl
theorem s_nought {n g : Int} (h : atI C.rows p = some (.nought g)) : MM.step C (mk1 t p b (n :: q) sd) = some (mk1 t (if n = 0 then g else p + 1) b q sd) := by
  unfold MM.step; dsimp only; rw [h]; rfl
theorem s_on {k n : Int} (h : atI C.rows p = some (.on k)) (hb : atI b k = some n) : MM.step C (mk1 t p b q sd) = some (mk1 t n b q sd) := by
  unfold MM.step; dsimp only; rw [h]; dsimp only [act]; rw [hb]
theorem s_turn (h : atI C.rows p = some .turn) (ht : ¬ t < 1) : MM.step C (mk1 t p b q sd) = some (mk1 (t - 1) (p + 1) b q sd) := by
  unfold MM.step; dsimp only; rw [h]; dsimp only [act]; rw [if_neg ht]
theorem s_tired (h : atI C.rows p = some .turn) (ht : t < 1) : MM.step C (mk1 t p b q sd) = some ⟨t, [⟨p + 1, b, q⟩], sd, some .tired⟩ := by
  unfold MM.step; dsimp only; rw [h]; dsimp only [act]; rw [if_pos ht]
theorem s_back {n : Int} (h : atI C.rows p = some .back) : MM.step C (mk1 t p b (n :: q) sd) = some ⟨t, [], sd, some (.answer n)⟩ := by
  unfold MM.step; dsimp only; rw [h]; rfl
end
/-- the rows of one cell -/
def grp (c near far : Int) : List Rw :=
  if c % 10 = 0 then [.put (c / 40 % 7 - 2), .say]
  else if c % 10 = 1 ∨ c % 10 = 8 then [.get (c / 10 % 4), .say]
  else if c % 10 = 2 ∨ c % 10 = 9 then [.get (c / 10 % 4), .put (c / 40 % 7 - 2), .rek .add, .set (c / 10 % 4)]
  else if c % 10 = 3 then [.get (c / 10 % 4), .nought near]
  else if c % 10 = 4 then [.go near]
  else if c % 10 = 5 then [.put near, .set (4 + c / 40 % 2), .on (4 + c / 40 % 2)]
  else if c % 10 = 6 then [.turn, .go far]
  else [.turn, .get (c / 10 % 4), .nought far]
/-- it ends within n steps -/
def Ends (C : Cd) (n : Nat) (s : MS) : Prop := ∃ m s' o, m ≤ n ∧ runs C m s = some s' ∧ s'.out = some o
theorem Ends.step {C : Cd} {n : Nat} {s t : MS} (e : s.out = none) (h : MM.step C s = some t) (r : Ends C n t) : Ends C (n + 1) s := by
  obtain ⟨m, s', o, l, h1, h2⟩ := r
  exact ⟨m + 1, s', o, by omega, runs_of e h h1, h2⟩
theorem Ends.now {C : Cd} {s : MS} {o : Ou} (h : s.out = some o) : Ends C 0 s := ⟨0, s, o, Nat.le_refl _, rfl, h⟩
theorem Ends.mono {C : Cd} {n m : Nat} {s : MS} (r : Ends C n s) (l : n ≤ m) : Ends C m s := by
  obtain ⟨k, s', o, l', h⟩ := r
  exact ⟨k, s', o, by omega, h⟩
theorem ix6 {b : List Int} (hb : b.length = 6) {k : Int} (h0 : 0 ≤ k) (h1 : k < 6) : ixN b.length k = some k.toNat ∧ ∃ n, atI b k = some n := by
  have e : ixN b.length k = some k.toNat := by
    unfold ixN
    rw [if_pos h0, if_pos (by omega)]
  refine ⟨e, b[k.toNat]'(by omega), ?_⟩
  unfold atI
  rw [e]
  exact List.getElem?_eq_getElem (by omega)
theorem set6 {b : List Int} (hb : b.length = 6) {k n : Int} (h0 : 0 ≤ k) (h1 : k < 6) : atI (b.set k.toNat n) k = some n := by
  have e : ixN (b.set k.toNat n).length k = some k.toNat := (ix6 (by rw [List.length_set]; exact hb) h0 h1).1
  unfold atI
  rw [e]
  show (b.set k.toNat n)[k.toNat]? = some n
  rw [List.getElem?_set_self (by omega)]
/-- one group: from its start to a start of a group behind it, or, for a turn, to any -/
theorem one {C : Cd} {c near far t p : Int} {b q sd : List Int} {n1 n2 : Nat} (hb : b.length = 6)
    (hr : ∀ (i : Nat) r, (grp c near far)[i]? = some r → atI C.rows (p + i) = some r)
    (hnext : ∀ b' sd', b'.length = 6 → Ends C n1 (mk1 t (p + (grp c near far).length) b' q sd'))
    (hnear : ∀ b' sd', b'.length = 6 → Ends C n1 (mk1 t near b' q sd'))
    (hfar : ¬ t < 1 → ∀ b' sd', b'.length = 6 → Ends C n2 (mk1 (t - 1) far b' q sd'))
    (hnextT : ¬ t < 1 → ∀ b' sd', b'.length = 6 → Ends C n2 (mk1 (t - 1) (p + (grp c near far).length) b' q sd')) : Ends C (max n1 n2 + 4) (mk1 t p b q sd) := by
  have k4 : 0 ≤ c / 10 % 4 ∧ c / 10 % 4 < 6 := by omega
  have k5 : 0 ≤ 4 + c / 40 % 2 ∧ 4 + c / 40 % 2 < 6 := by omega
  obtain ⟨i4, v4, a4⟩ := ix6 hb k4.1 k4.2
  obtain ⟨i5, v5, a5⟩ := ix6 hb k5.1 k5.2
  have l1 : n1 ≤ max n1 n2 := Nat.le_max_left _ _
  have l2 : n2 ≤ max n1 n2 := Nat.le_max_right _ _
  generalize max n1 n2 = N at *
  have r0 : ∀ r, (grp c near far)[0]? = some r → atI C.rows p = some r := fun r h => by have := hr 0 r h; rwa [show p + ((0 : Nat) : Int) = p by omega] at this
  have r1 : ∀ r, (grp c near far)[1]? = some r → atI C.rows (p + 1) = some r := fun r h => hr 1 r h
  have r2 : ∀ r, (grp c near far)[2]? = some r → atI C.rows (p + 1 + 1) = some r := fun r h => by have := hr 2 r h; rwa [show p + ((2 : Nat) : Int) = p + 1 + 1 by omega] at this
  have r3 : ∀ r, (grp c near far)[3]? = some r → atI C.rows (p + 1 + 1 + 1) = some r := fun r h => by have := hr 3 r h; rwa [show p + ((3 : Nat) : Int) = p + 1 + 1 + 1 by omega] at this
  clear hr
  obtain ⟨g, hg⟩ : ∃ g, g = grp c near far := ⟨_, rfl⟩
  rw [← hg] at r0 r1 r2 r3 hnext hnextT
  unfold grp at hg
  split at hg
  · subst hg; exact ((Ends.step rfl (s_put (r0 _ rfl)) (Ends.step rfl (s_say (r1 _ rfl)) (by have := hnext b (sd ++ [c / 40 % 7 - 2]) hb; rwa [show p + (([Rw.put (c / 40 % 7 - 2), Rw.say].length : Nat) : Int) = p + 1 + 1 by simp; omega] at this)))).mono (by omega)
  · split at hg
    · subst hg; exact ((Ends.step rfl (s_get (r0 _ rfl) a4) (Ends.step rfl (s_say (r1 _ rfl)) (by have := hnext b (sd ++ [v4]) hb; rwa [show p + (([Rw.get (c / 10 % 4), Rw.say].length : Nat) : Int) = p + 1 + 1 by simp; omega] at this)))).mono (by omega)
    · split at hg
      · subst hg; refine (Ends.step rfl (s_get (r0 _ rfl) a4) (Ends.step rfl (s_put (r1 _ rfl)) (Ends.step rfl (s_add (r2 _ rfl)) (Ends.step rfl (s_set (r3 _ rfl) i4) ?_)))).mono (n := n1 + 1 + 1 + 1 + 1) (by omega)
        have := hnext (b.set (c / 10 % 4).toNat (v4 + (c / 40 % 7 - 2))) sd (by rw [List.length_set]; exact hb)
        rwa [show p + (([Rw.get (c / 10 % 4), Rw.put (c / 40 % 7 - 2), Rw.rek .add, Rw.set (c / 10 % 4)].length : Nat) : Int) = p + 1 + 1 + 1 + 1 by simp; omega] at this
      · split at hg
        · subst hg; refine (Ends.step rfl (s_get (r0 _ rfl) a4) (Ends.step rfl (s_nought (r1 _ rfl)) ?_)).mono (n := n1 + 1 + 1) (by omega)
          split
          · exact hnear b sd hb
          · have := hnext b sd hb
            rwa [show p + (([Rw.get (c / 10 % 4), Rw.nought near].length : Nat) : Int) = p + 1 + 1 by simp; omega] at this
        · split at hg
          · subst hg; exact (Ends.step rfl (s_go (r0 _ rfl)) (hnear b sd hb)).mono (by omega)
          · split at hg
            · subst hg; exact (Ends.step rfl (s_put (r0 _ rfl)) (Ends.step rfl (s_set (r1 _ rfl) i5) (Ends.step rfl (s_on (r2 _ rfl) (set6 hb k5.1 k5.2)) (hnear _ sd (by rw [List.length_set]; exact hb))))).mono (by omega)
            · split at hg
              · subst hg; by_cases ht : t < 1
                · exact (Ends.step rfl (s_tired (r0 _ rfl) ht) (Ends.now rfl)).mono (by omega)
                · exact (Ends.step rfl (s_turn (r0 _ rfl) ht) (Ends.step rfl (s_go (r1 _ rfl)) (hfar ht b sd hb))).mono (by omega)
              · subst hg; by_cases ht : t < 1
                · exact (Ends.step rfl (s_tired (r0 _ rfl) ht) (Ends.now rfl)).mono (by omega)
                · refine (Ends.step rfl (s_turn (r0 _ rfl) ht) (Ends.step rfl (s_get (r1 _ rfl) a4) (Ends.step rfl (s_nought (r2 _ rfl)) ?_))).mono (n := n2 + 1 + 1 + 1) (by omega)
                  split
                  · exact hfar ht b sd hb
                  · have := hnextT ht b sd hb
                    rwa [show p + (([Rw.turn, Rw.get (c / 10 % 4), Rw.nought far].length : Nat) : Int) = p + 1 + 1 + 1 by simp; omega] at this
def sz (c : Int) : Nat := (grp c 0 0).length
theorem grp_len (c near far : Int) : (grp c near far).length = sz c := by
  unfold sz grp
  repeat' split
  all_goals rfl
/-- where the i-th cell's rows begin -/
def pl (st : Nat) (cells : List Int) (i : Nat) : Nat := st + ((cells.take i).map sz).sum
theorem pl_succ {st : Nat} {cells : List Int} {i : Nat} {c : Int} (h : cells[i]? = some c) : pl st cells (i + 1) = pl st cells i + sz c := by
  unfold pl
  rw [take_succ h, List.map_append, List.sum_append]
  simp
  omega
def nearOf (cells : List Int) (i : Nat) (c : Int) : Nat := i + 1 + (c / 280 % ((cells.length : Int) - i)).toNat
def farOf (cells : List Int) (c : Int) : Nat := (c / 280 % ((cells.length : Int) + 1)).toNat
def gsOf (st : Nat) (cells : List Int) : List (List Rw) := cells.zipIdx.map fun q => grp q.1 (pl st cells (nearOf cells q.2 q.1)) (pl st cells (farOf cells q.1))
theorem gs_at {st : Nat} {cells : List Int} {i : Nat} {c : Int} (h : cells[i]? = some c) : (gsOf st cells)[i]? = some (grp c (pl st cells (nearOf cells i c)) (pl st cells (farOf cells c))) := by
  unfold gsOf
  rw [List.getElem?_map, List.getElem?_zipIdx, h]
  simp
theorem gs_len (st : Nat) (cells : List Int) : (gsOf st cells).map List.length = cells.map sz := by
  refine List.ext_getElem? fun i => ?_
  rw [List.getElem?_map, List.getElem?_map]
  cases h : cells[i]? with
  | none =>
    rw [List.getElem?_eq_none (by unfold gsOf; rw [List.length_map, List.length_zipIdx]; exact List.getElem?_eq_none_iff.mp h)]
    rfl
  | some c =>
    rw [gs_at h]
    show some _ = some _
    rw [grp_len]
theorem flat_at {α : Type} : ∀ {ls : List (List α)} {i off : Nat} {l : List α} {x : α}, ls[i]? = some l → l[off]? = some x → ls.flatten[((ls.take i).map List.length).sum + off]? = some x
  | [], i, off, l, x, h, _ => by simp at h
  | a :: r, 0, off, l, x, h, h2 => by
    have e : a = l := by simpa using h
    subst e
    have lt := (List.getElem?_eq_some_iff.mp h2).1
    simp only [List.take_zero, List.map_nil, List.sum_nil, Nat.zero_add, List.flatten_cons]
    rw [List.getElem?_append_left lt]
    exact h2
  | a :: r, i + 1, off, l, x, h, h2 => by
    have h' : r[i]? = some l := by simpa using h
    have z := flat_at h' h2
    simp only [List.take_succ_cons, List.map_cons, List.sum_cons, List.flatten_cons]
    rw [List.getElem?_append_right (by omega)]
    rw [show a.length + ((r.take i).map List.length).sum + off - a.length = ((r.take i).map List.length).sum + off by omega]
    exact z
def tailOf (k : Nat) : List Rw := .get 0 :: (List.replicate k (.rek .add) ++ [.back])
/-- the law's code -/
def codeL (pre : List Rw) (cells : List Int) (k : Nat) : List Rw := pre ++ ((gsOf pre.length cells).flatten ++ tailOf k)
theorem pl_all (pre : List Rw) (cells : List Int) : pl pre.length cells cells.length = pre.length + (gsOf pre.length cells).flatten.length := by
  unfold pl
  rw [List.take_length, List.length_flatten, gs_len]
theorem code_at {pre : List Rw} {cells : List Int} {k i : Nat} {c : Int} (h : cells[i]? = some c) (j : Nat) (r : Rw) (hr : (grp c (pl pre.length cells (nearOf cells i c)) (pl pre.length cells (farOf cells c)))[j]? = some r) :
    atI (codeL pre cells k) ((pl pre.length cells i : Int) + j) = some r := by
  rw [show ((pl pre.length cells i : Int) + j) = ((pl pre.length cells i + j : Nat) : Int) by omega]
  refine atI_nat ?_
  have z := flat_at (gs_at (st := pre.length) h) hr
  unfold codeL pl
  rw [List.getElem?_append_right (by omega)]
  rw [show pre.length + ((cells.take i).map sz).sum + j - pre.length = ((cells.take i).map sz).sum + j by omega]
  rw [List.map_take, gs_len, ← List.map_take] at z
  have lt := (List.getElem?_eq_some_iff.mp z).1
  rw [List.getElem?_append_left lt]
  exact z
theorem tail_at (pre : List Rw) (cells : List Int) (k j : Nat) (r : Rw) (h : (tailOf k)[j]? = some r) : atI (codeL pre cells k) ((pl pre.length cells cells.length : Int) + j) = some r := by
  rw [show ((pl pre.length cells cells.length : Int) + j) = ((pl pre.length cells cells.length + j : Nat) : Int) by omega]
  refine atI_nat ?_
  rw [pl_all]
  unfold codeL
  rw [List.getElem?_append_right (by omega), List.getElem?_append_right (by omega)]
  rw [show pre.length + (gsOf pre.length cells).flatten.length + j - pre.length - (gsOf pre.length cells).flatten.length = j by omega]
  exact h
/-- the adds and the last row -/
theorem adds {C : Cd} {t : Int} {b sd : List Int} {place0 : Int} {k : Nat} (hC : ∀ j r, (tailOf k)[j]? = some r → atI C.rows (place0 + (j : Nat)) = some r) : ∀ (bel : List Int) (n : Int) (i : Nat), i + bel.length = k → Ends C (bel.length + 1) (mk1 t (place0 + 1 + i) b (n :: bel) sd)
  | [], n, i, e => by
    refine Ends.step rfl (s_back ?_) (Ends.now rfl)
    have := hC (i + 1) .back (by
      unfold tailOf
      rw [List.getElem?_cons_succ, List.getElem?_append_right (by simp at e ⊢; omega)]
      simp at e ⊢
      rw [show i - k = 0 by omega]
      rfl)
    rwa [show place0 + ((i + 1 : Nat) : Int) = place0 + 1 + i by omega] at this
  | m :: bel, n, i, e => by
    simp only [List.length_cons] at e ⊢
    refine Ends.step rfl (s_add ?_) ?_
    · have := hC (i + 1) (.rek .add) (by
        unfold tailOf
        rw [List.getElem?_cons_succ, List.getElem?_append_left (by simp; omega), List.getElem?_replicate, if_pos (by omega)])
      rwa [show place0 + ((i + 1 : Nat) : Int) = place0 + 1 + i by omega] at this
    · have z := adds (t := t) (b := b) (sd := sd) hC bel (m + n) (i + 1) (by omega)
      rwa [show place0 + 1 + ((i + 1 : Nat) : Int) = place0 + 1 + i + 1 by omega] at z
theorem near_le {cells : List Int} {i : Nat} {c : Int} (h : i < cells.length) : nearOf cells i c ≤ cells.length ∧ i < nearOf cells i c := by
  unfold nearOf
  have h1 := Int.emod_nonneg (c / 280) (b := (cells.length : Int) - i) (by omega)
  have h2 := Int.emod_lt_of_pos (c / 280) (b := (cells.length : Int) - i) (by omega)
  omega
theorem far_le (cells : List Int) (c : Int) : farOf cells c ≤ cells.length := by
  unfold farOf
  have h1 := Int.emod_nonneg (c / 280) (b := (cells.length : Int) + 1) (by omega)
  have h2 := Int.emod_lt_of_pos (c / 280) (b := (cells.length : Int) + 1) (by omega)
  omega
theorem inner {C : Cd} {pre : List Rw} {cells bel : List Int} (hC : C.rows = codeL pre cells bel.length) {t : Int} {N : Nat}
    (hT : ¬ t < 1 → ∀ i, i ≤ cells.length → ∀ b sd : List Int, b.length = 6 → Ends C N (mk1 (t - 1) (pl pre.length cells i : Int) b bel sd)) : ∀ (m i : Nat), i + m = cells.length → ∀ b sd : List Int, b.length = 6 →
    Ends C (N + m * 4 + (bel.length + 2)) (mk1 t (pl pre.length cells i : Int) b bel sd) := by
  intro m
  induction m using Nat.strongRecOn with
  | _ m ih =>
    intro i e b sd hb
    cases m with
    | zero =>
      have e' : i = cells.length := by omega
      subst e'
      obtain ⟨_, v, hv⟩ := ix6 hb (k := 0) (by omega) (by omega)
      have z := adds (C := C) (t := t) (b := b) (sd := sd) (place0 := (pl pre.length cells cells.length : Int)) (k := bel.length) (fun j r h => by rw [hC]; exact tail_at pre cells _ j r h) bel v 0 (by omega)
      rw [show (pl pre.length cells cells.length : Int) + 1 + ((0 : Nat) : Int) = (pl pre.length cells cells.length : Int) + 1 by omega] at z
      refine (Ends.step rfl (s_get (k := 0) (n := v) ?_ hv) z).mono (by omega)
      have y := tail_at pre cells bel.length 0 (.get 0) rfl
      rw [hC]
      rwa [show (pl pre.length cells cells.length : Int) + ((0 : Nat) : Int) = (pl pre.length cells cells.length : Int) by omega] at y
    | succ m =>
      have hi : i < cells.length := by omega
      have hc : cells[i]? = some cells[i] := List.getElem?_eq_getElem hi
      generalize cells[i] = c at hc
      have hn := near_le (c := c) hi
      have en : ((pl pre.length cells i : Nat) : Int) + ((grp c (pl pre.length cells (nearOf cells i c)) (pl pre.length cells (farOf cells c))).length : Nat) = (pl pre.length cells (i + 1) : Nat) := by
        rw [pl_succ hc, grp_len]
        omega
      have z := one (C := C) (c := c) (near := (pl pre.length cells (nearOf cells i c) : Int)) (far := (pl pre.length cells (farOf cells c) : Int)) (t := t) (p := (pl pre.length cells i : Int)) (b := b) (q := bel) (sd := sd)
        (n1 := N + m * 4 + (bel.length + 2)) (n2 := N) hb (fun j r h => by rw [hC]; exact code_at hc j r h)
        (fun b' sd' hb' => by rw [en]; exact ih m (by omega) (i + 1) (by omega) b' sd' hb')
        (fun b' sd' hb' => (ih (cells.length - nearOf cells i c) (by omega) _ (by omega) b' sd' hb').mono (by omega))
        (fun ht b' sd' hb' => hT ht _ (far_le _ _) b' sd' hb')
        (fun ht b' sd' hb' => by rw [en]; exact hT ht _ (by omega) b' sd' hb')
      exact z.mono (by omega)
/-- from any group's start the machine ends -/
theorem ends_at {C : Cd} {pre : List Rw} {cells bel : List Int} (hC : C.rows = codeL pre cells bel.length) : ∀ (T i : Nat), i ≤ cells.length → ∀ b sd : List Int, b.length = 6 →
    Ends C ((T + 1) * (cells.length * 4 + (bel.length + 2))) (mk1 (T : Int) (pl pre.length cells i : Int) b bel sd) := by
  intro T
  induction T with
  | zero =>
    intro i hi b sd hb
    exact (inner hC (N := 0) (fun h => absurd (by omega) h) (cells.length - i) i (by omega) b sd hb).mono (by omega)
  | succ T iT =>
    intro i hi b sd hb
    have z := inner hC (t := ((T + 1 : Nat) : Int)) (N := (T + 1) * (cells.length * 4 + (bel.length + 2))) (fun _ j hj b' sd' hb' => by
      have y := iT j hj b' sd' hb'
      rwa [show ((T + 1 : Nat) : Int) - 1 = (T : Int) by omega]) (cells.length - i) i (by omega) b sd hb
    refine z.mono ?_
    rw [Nat.succ_mul (T + 1)]
    omega
/-- the numbers below the groups are put -/
theorem puts {C : Cd} {pre0 : List Rw} {cells below : List Int} {T : Nat} {b sd : List Int} (hb : b.length = 6) (hC : C.rows = codeL (pre0 ++ below.map .put) cells below.length) : ∀ rest done : List Int, done ++ rest = below →
    Ends C (rest.length + (T + 1) * (cells.length * 4 + (below.length + 2))) (mk1 (T : Int) ((pre0.length + done.length : Nat) : Int) b done.reverse sd)
  | [], done, e => by
    rw [List.append_nil] at e
    subst e
    have z := ends_at (bel := done.reverse) (pre := pre0 ++ done.map .put) (by rw [List.length_reverse]; exact hC) T 0 (Nat.zero_le _) b sd hb
    rw [List.length_reverse] at z
    have e0 : pl (pre0 ++ done.map Rw.put).length cells 0 = pre0.length + done.length := by
      unfold pl
      rw [List.length_append, List.length_map]
      simp
    rw [e0] at z
    exact z.mono (by simp)
  | n :: rest, done, e => by
    simp only [List.length_cons]
    have z := puts (T := T) (sd := sd) hb hC rest (done ++ [n]) (by rw [List.append_assoc]; exact e)
    rw [List.reverse_append, List.length_append, show ((pre0.length + (done.length + [n].length) : Nat) : Int) = ((pre0.length + done.length : Nat) : Int) + 1 by simp; omega] at z
    refine (Ends.step rfl (s_put (n := n) ?_) z).mono (by omega)
    · rw [hC, ← e]
      unfold codeL
      refine atI_nat ?_
      rw [List.getElem?_append_left (by simp), List.getElem?_append_right (by simp)]
      simp
def Simple : Rw → Bool
  | .rek .add => true
  | .rek _ => false
  | .call _ => false
  | .raise => false
  | _ => true
theorem grp_simple (c near far : Int) : (grp c near far).all Simple = true := by
  unfold grp
  repeat' split
  all_goals rfl
theorem code_simple {pre : List Rw} {cells : List Int} {k : Nat} (h : ∀ r ∈ pre, Simple r = true) : ∀ r ∈ codeL pre cells k, Simple r = true := by
  intro r hr
  unfold codeL at hr
  rcases List.mem_append.mp hr with hr | hr
  · exact h r hr
  · rcases List.mem_append.mp hr with hr | hr
    · obtain ⟨l, hl, hrl⟩ := List.mem_flatten.mp hr
      unfold gsOf at hl
      obtain ⟨q, _, rfl⟩ := List.mem_map.mp hl
      exact List.all_eq_true.mp (grp_simple _ _ _) r hrl
    · unfold tailOf at hr
      rcases List.mem_cons.mp hr with rfl | hr
      · rfl
      · rcases List.mem_append.mp hr with hr | hr
        · rw [(List.mem_replicate.mp hr).2]
          rfl
        · rw [List.mem_singleton.mp hr]
          rfl
/-- the states in their order -/
theorem runs_path {C : Cd} : ∀ (m : Nat) (s s' : MS), runs C m s = some s' → ∃ f : Nat → MS, f 0 = s ∧ f m = s' ∧ ∀ i, i < m → (f i).out = none ∧ MM.step C (f i) = some (f (i + 1))
  | 0, s, s', h => ⟨fun _ => s, rfl, Option.some.inj h, fun i hi => absurd hi (Nat.not_lt_zero i)⟩
  | m + 1, s, s', h => by
    obtain ⟨e, t, h1, h2⟩ := runs_succ h
    obtain ⟨f, f0, fm, fs⟩ := runs_path m t s' h2
    refine ⟨fun i => match i with | 0 => s | i + 1 => f i, rfl, fm, fun i hi => ?_⟩
    cases i with
    | zero => exact ⟨e, by show MM.step C s = some (f 0); rw [f0]; exact h1⟩
    | succ i => exact fs i (by omega)
/-- what a simple row does to one function's state: it stays the only one, or all is over by back or turn -/
theorem step_simple {C : Cd} {t p : Int} {b q sd : List Int} {r : Rw} {s : MS} (hr : atI C.rows p = some r) (hs : Simple r = true) (h : MM.step C (mk1 t p b q sd) = some s) :
    (∃ t' p' b' q' sd', s = mk1 t' p' b' q' sd') ∨ (r = .back ∧ ∃ n q', q = n :: q' ∧ s = ⟨t, [], sd, some (.answer n)⟩) ∨ (r = .turn ∧ t < 1 ∧ s = ⟨t, [⟨p + 1, b, q⟩], sd, some .tired⟩) := by
  unfold MM.step at h
  dsimp only at h
  rw [hr] at h
  cases r with
  | put n => cases h; exact .inl ⟨_, _, _, _, _, rfl⟩
  | get k =>
    simp only [act] at h
    split at h
    · cases h; exact .inl ⟨_, _, _, _, _, rfl⟩
    · cases h
  | set k =>
    simp only [act] at h
    split at h
    · cases h; exact .inl ⟨_, _, _, _, _, rfl⟩
    · cases h
  | say =>
    simp only [act] at h
    split at h
    · cases h; exact .inl ⟨_, _, _, _, _, rfl⟩
    · cases h
  | rek o =>
    cases o with
    | add =>
      simp only [act, reck] at h
      split at h
      · cases h; exact .inl ⟨_, _, _, _, _, rfl⟩
      · cases h
    | sub => cases hs
    | less => cases hs
    | share => cases hs
  | go g => cases h; exact .inl ⟨_, _, _, _, _, rfl⟩
  | nought g =>
    simp only [act] at h
    split at h
    · cases h; exact .inl ⟨_, _, _, _, _, rfl⟩
    · cases h
  | on k =>
    simp only [act] at h
    split at h
    · cases h; exact .inl ⟨_, _, _, _, _, rfl⟩
    · cases h
  | turn =>
    simp only [act] at h
    split at h
    · rename_i ht; cases h; exact .inr (.inr ⟨rfl, ht, rfl⟩)
    · cases h; exact .inl ⟨_, _, _, _, _, rfl⟩
  | call g => cases hs
  | back =>
    simp only [act] at h
    split at h
    · cases h; exact .inr (.inl ⟨rfl, _, _, rfl, rfl⟩)
    · cases h
  | raise => cases hs
end K05

/-! K04a: k04's code, and what the machine does with it (own work). -/
namespace K04
open PySem L2 U MM
/-- within N steps -/
def Rn (C : Cd) (N : Nat) (s s' : MS) : Prop := ∃ n, n ≤ N ∧ runs C n s = some s'
theorem Rn.zero {C : Cd} {s : MS} : Rn C 0 s s := ⟨0, Nat.le_refl _, rfl⟩
theorem Rn.step {C : Cd} {N : Nat} {s t s' : MS} (e : s.out = none) (h : MM.step C s = some t) (r : Rn C N t s') : Rn C (N + 1) s s' := by
  obtain ⟨n, l, h1⟩ := r
  exact ⟨n + 1, by omega, runs_of e h h1⟩
theorem Rn.mono {C : Cd} {N M : Nat} {s s' : MS} (r : Rn C N s s') (h : N ≤ M) : Rn C M s s' := by
  obtain ⟨n, l, h1⟩ := r
  exact ⟨n, by omega, h1⟩
section
variable {C : Cd} {t p : Int} {b q sd : List Int} {fs : List MM.Fr}
abbrev mkf (t p : Int) (b q : List Int) (fs : List MM.Fr) (sd : List Int) : MS := ⟨t, ⟨p, b, q⟩ :: fs, sd, none⟩
theorem s_put {n : Int} (h : atI C.rows p = some (.put n)) : MM.step C (mkf t p b q fs sd) = some (mkf t (p + 1) b (n :: q) fs sd) := by
  unfold MM.step; dsimp only; rw [h]; rfl
theorem s_get0 {n : Int} {b : List Int} (h : atI C.rows p = some (.get 0)) : MM.step C (mkf t p (n :: b) q fs sd) = some (mkf t (p + 1) (n :: b) (n :: q) fs sd) := by
  unfold MM.step; dsimp only; rw [h]; dsimp only [act]; rw [show atI (n :: b) 0 = some n from atI_nat (j := 0) rfl]
theorem s_say {n : Int} (h : atI C.rows p = some .say) : MM.step C (mkf t p b (n :: q) fs sd) = some (mkf t (p + 1) b q fs (sd ++ [n])) := by
  unfold MM.step; dsimp only; rw [h]; rfl
theorem s_add {n m : Int} (h : atI C.rows p = some (.rek .add)) : MM.step C (mkf t p b (n :: m :: q) fs sd) = some (mkf t (p + 1) b ((m + n) :: q) fs sd) := by
  unfold MM.step; dsimp only; rw [h]; rfl
theorem s_back0 {n : Int} (h : atI C.rows p = some .back) : MM.step C (mkf t p b (n :: q) [] sd) = some ⟨t, [], sd, some (.answer n)⟩ := by
  unfold MM.step; dsimp only; rw [h]; rfl
theorem s_back1 {n : Int} {g : MM.Fr} (h : atI C.rows p = some .back) : MM.step C (mkf t p b (n :: q) (g :: fs) sd) = some ⟨t, { g with pile := n :: g.pile } :: fs, sd, none⟩ := by
  unfold MM.step; dsimp only; rw [h]; rfl
theorem s_raise {n : Int} (h : atI C.rows p = some .raise) : MM.step C (mkf t p b (n :: q) fs sd) = some (MS.faulted ⟨t, ⟨p + 1, b, q⟩ :: fs, sd, none⟩ C.str n) := by
  unfold MM.step; dsimp only; rw [h]; rfl
theorem s_callT {g n : Int} (h : atI C.rows p = some (.call g)) (ht : t < 1) : MM.step C (mkf t p b (n :: q) fs sd) = some ⟨t, ⟨p + 1, b, q⟩ :: fs, sd, some .tired⟩ := by
  unfold MM.step; dsimp only; rw [h]; dsimp only [act]; rw [if_pos ht]
theorem s_callF {g n : Int} (h : atI C.rows p = some (.call g)) (ht : ¬ t < 1) (h8 : fs.length = 7) : MM.step C (mkf t p b (n :: q) fs sd) = some (MS.faulted ⟨t - 1, ⟨p + 1, b, q⟩ :: fs, sd, none⟩ C.str 102) := by
  unfold MM.step; dsimp only; rw [h]; dsimp only [act]; rw [if_neg ht]; unfold enter; rw [if_pos (by show fs.length + 1 = 8; omega)]
theorem s_callE {g n z : Int} (h : atI C.rows p = some (.call g)) (ht : ¬ t < 1) (h8 : fs.length < 7) (hz : atI C.begins g = some z) : MM.step C (mkf t p b (n :: q) fs sd) = some ⟨t - 1, newFr C z n :: ⟨p + 1, b, q⟩ :: fs, sd, none⟩ := by
  unfold MM.step; dsimp only; rw [h]; dsimp only [act]; rw [if_neg ht]; unfold enter; rw [if_neg (by show ¬ fs.length + 1 = 8; omega), hz]
end
/-- what is known of the code: the functions' places, what stands there, which goals hold -/
structure CF (C : Cd) (many : Nat) (z : Nat) (raises : Bool) (wide : Int) (marks : Nat → Bool) (more : Nat → Int) (st : Nat → Int) (L : Int) : Prop where
  boxes : C.boxes = 1
  beg : ∀ k : Nat, k < many → atI C.begins (k : Int) = some (st k)
  r0 : ∀ k : Nat, k + 1 < many → atI C.rows (st k) = some (.put (more k))
  r1 : ∀ k : Nat, k + 1 < many → atI C.rows (st k + 1) = some (.get 0)
  r2 : ∀ k : Nat, k + 1 < many → atI C.rows (st k + 1 + 1) = some (.call ((k + 1 : Nat) : Int))
  r3 : ∀ k : Nat, k + 1 < many → atI C.rows (st k + 3) = some (.rek .add)
  r4 : ∀ k : Nat, k + 1 < many → atI C.rows (st k + 3 + 1) = some .back
  r5 : ∀ k : Nat, k + 1 < many → atI C.rows (st k + 5) = some .say
  r6 : ∀ k : Nat, k + 1 < many → atI C.rows (st k + 5 + 1) = some (.put (50 + (k : Int)))
  r7 : ∀ k : Nat, k + 1 < many → atI C.rows (st k + 5 + 1 + 1) = some .back
  l0 : ∀ j : Nat, j < z → atI C.rows (st (many - 1) + j) = some (.put 9)
  l1 : atI C.rows (st (many - 1) + z) = some (.get 0)
  l2 : atI C.rows (st (many - 1) + z + 1) = some (if raises then .raise else .back)
  w0 : atI C.rows L = some .say
  w1 : atI C.rows (L + 1) = some (.put 40)
  w2 : atI C.rows (L + 1 + 1) = some .back
  g : ∀ k : Nat, k + 1 < many → goal (st k + 2) C.str = if wide = 1 then some L else if marks k = true then some (st k + 5) else if wide = 2 then some L else none
  gl : goal (st (many - 1) + z + 1) C.str = if wide = 1 ∨ wide = 2 then some L else none
/-- the functions that wait -/
def low (st : Nat → Int) (more : Nat → Int) (n : Int) : Nat → List MM.Fr
  | 0 => []
  | d + 1 => ⟨st d + 3, [n], [more d]⟩ :: low st more n d
theorem low_len {st more : Nat → Int} {n : Int} : ∀ d, (low st more n d).length = d
  | 0 => rfl
  | d + 1 => congrArg (· + 1) (low_len d)
/-- the sum of what the first d put -/
def sm (more : Nat → Int) : Nat → Int
  | 0 => 0
  | d + 1 => sm more d + more d
/-- the innermost one with a mark, below d -/
def inner (marks : Nat → Bool) : Nat → Option Nat
  | 0 => none
  | d + 1 => if marks d = true then some d else inner marks d
section
variable {C : Cd} {many z : Nat} {raises : Bool} {wide : Int} {marks : Nat → Bool} {more st : Nat → Int} {L n : Int}
/-- back, and all the adds -/
theorem up (F : CF C many z raises wide marks more st L) {t : Int} {sd : List Int} : ∀ (d : Nat) (p x : Int) (b q : List Int), d < many → atI C.rows p = some .back →
    Rn C (2 * d + 1) (mkf t p b (x :: q) (low st more n d) sd) ⟨t, [], sd, some (.answer (x + sm more d))⟩
  | 0, p, x, b, q, _, h => by
    refine Rn.step rfl (s_back0 h) ?_
    rw [show x + sm more 0 = x from Int.add_zero x]
    exact Rn.zero
  | d + 1, p, x, b, q, hd, h => by
    refine (Rn.step rfl (s_back1 h) (Rn.step rfl (s_add (F.r3 d hd)) ?_)).mono (N := 2 * d + 1 + 1 + 1) (by omega)
    have z := up F (t := t) (sd := sd) d (st d + 3 + 1) (more d + x) [n] [] (by omega) (F.r4 d hd)
    rw [show more d + x + sm more d = x + sm more (d + 1) by show _ = x + (sm more d + more d); omega] at z
    exact z
/-- a goal that says the fault -/
theorem said1 (F : CF C many z raises wide marks more st L) {t x : Int} {b : List Int} {d : Nat} (hd : d + 1 < many) : Rn C (2 * d + 3) (mkf t (st d + 5) b [x] (low st more n d) []) ⟨t, [], [x], some (.answer (50 + (d : Int) + sm more d))⟩ :=
  Rn.step rfl (s_say (F.r5 d hd)) (Rn.step rfl (s_put (F.r6 d hd)) (up F d _ _ _ _ (by omega) (F.r7 d hd)))
theorem saidL (F : CF C many z raises wide marks more st L) {t x : Int} {b : List Int} {d : Nat} (hd : d < many) : Rn C (2 * d + 3) (mkf t L b [x] (low st more n d) []) ⟨t, [], [x], some (.answer (40 + sm more d))⟩ :=
  Rn.step rfl (s_say F.w0) (Rn.step rfl (s_put F.w1) (up F d _ _ _ _ hd F.w2))
/-- what becomes of a fault in the end -/
def Out (more : Nat → Int) (x : Int) : Option Nat → List Int × Ou
  | some k => ([x], .answer (50 + (k : Int) + sm more k))
  | none => ([], .fault x)
theorem fc {S : List St3} {n : Int} {f : MM.Fr} {r : List MM.Fr} : MM.fault S n (f :: r) = (match goal (f.place - 1) S with | some g => ({ f with place := g, pile := [n] } :: r, none) | none => MM.fault S n r) := rfl
theorem fault_low (F : CF C many z raises 0 marks more st L) {x : Int} : ∀ d : Nat, d < many → MM.fault C.str x (low st more n d) = match inner marks d with
    | some k => (⟨st k + 5, [n], [x]⟩ :: low st more n k, none)
    | none => ([], some (.fault x))
  | 0, _ => rfl
  | d + 1, hd => by
    show MM.fault C.str x (⟨st d + 3, [n], [more d]⟩ :: low st more n d) = match (if marks d = true then some d else inner marks d) with
      | some k => (⟨st k + 5, [n], [x]⟩ :: low st more n k, none)
      | none => ([], some (.fault x))
    rw [fc]
    dsimp only
    rw [show st d + 3 - 1 = st d + 2 by omega, F.g d hd, if_neg (by decide), if_neg (show ¬ (0 : Int) = 2 by decide)]
    by_cases h : marks d = true
    · rw [if_pos h, if_pos h]
    · rw [if_neg h, if_neg h]
      exact fault_low F d (by omega)
theorem inner_lt {marks : Nat → Bool} : ∀ {d k : Nat}, inner marks d = some k → k < d
  | d + 1, k, h => by
    unfold inner at h
    split at h
    · cases h; exact Nat.lt_succ_self _
    · exact Nat.lt_succ_of_lt (inner_lt h)
/-- a fault goes out of the functions that wait -/
theorem out_low (F : CF C many z raises 0 marks more st L) {t x : Int} (d : Nat) (hd : d < many) : ∃ s, Rn C (2 * d + 3) ⟨t, (MM.fault C.str x (low st more n d)).1, [], (MM.fault C.str x (low st more n d)).2⟩ s ∧ s.out = some (Out more x (inner marks d)).2 ∧ s.said = (Out more x (inner marks d)).1 := by
  rw [fault_low F d hd]
  cases h : inner marks d with
  | none => exact ⟨_, Rn.zero.mono (by omega), rfl, rfl⟩
  | some k =>
    have hk := inner_lt h
    exact ⟨_, (said1 F (by omega)).mono (by omega), rfl, rfl⟩
/-- what it comes to -/
def due (many : Nat) (marks : Nat → Bool) (raises : Bool) (n wide : Int) (more : Nat → Int) : List Int × Ou :=
  if many ≤ 8 ∧ raises = false then ([], .answer (n + sm more (many - 1)))
  else if wide = 1 ∨ wide = 2 then ([if many > 8 then 102 else n], .answer ((if many > 8 ∧ marks 7 = true ∧ wide = 2 then 57 else 40) + sm more (min many 8 - 1)))
  else Out more (if many > 8 then 102 else n) (inner marks (min (many - 1) 8))
/-- the last function -/
theorem last (F : CF C many z raises wide marks more st L) (hw : wide = 0 ∨ wide = 1 ∨ wide = 2) (hm : 1 ≤ many) (h8 : many ≤ 8) {t : Int} : ∃ s, Rn C (z + 2 * many + 10) (mkf t (st (many - 1)) [n] [] (low st more n (many - 1)) []) s ∧ s.out = some (due many marks raises n wide more).2 ∧ s.said = (due many marks raises n wide more).1 := by
  have puts : ∀ (r i : Nat) (q : List Int) (s : MS) (N : Nat), i + r = z → (∀ q, Rn C N (mkf t (st (many - 1) + z) [n] q (low st more n (many - 1)) []) s) → Rn C (r + N) (mkf t (st (many - 1) + i) [n] q (low st more n (many - 1)) []) s := by
    intro r
    induction r with
    | zero => intro i q s N e h; rw [show i = z by omega]; exact (h q).mono (by omega)
    | succ r ih =>
      intro i q s N e h
      have y := ih (i + 1) (9 :: q) s N (by omega) h
      rw [show st (many - 1) + ((i + 1 : Nat) : Int) = st (many - 1) + i + 1 by omega] at y
      exact (Rn.step rfl (s_put (F.l0 i (by omega))) y).mono (by omega)
  have fin : ∀ s N, (∀ q, Rn C N (mkf t (st (many - 1) + z) [n] q (low st more n (many - 1)) []) s) → Rn C (z + N) (mkf t (st (many - 1)) [n] [] (low st more n (many - 1)) []) s := fun s N h => by
    have y := puts z 0 [] s N (by omega) h
    rwa [show st (many - 1) + ((0 : Nat) : Int) = st (many - 1) by omega] at y
  have hl2 := F.l2
  unfold due
  cases raises with
  | false =>
    rw [if_pos ⟨h8, rfl⟩]
    exact ⟨_, (fin _ (2 * (many - 1) + 1 + 1) fun q => Rn.step rfl (s_get0 F.l1) (up F (many - 1) _ _ _ _ (by omega) hl2)).mono (by omega), rfl, rfl⟩
  | true =>
    rw [if_neg (fun h => by cases h.2), if_neg (show ¬ many > 8 by omega)]
    have hx : ∀ q, MM.step C (mkf t (st (many - 1) + z + 1) [n] (n :: q) (low st more n (many - 1)) []) = some (MS.faulted ⟨t, ⟨st (many - 1) + z + 1 + 1, [n], q⟩ :: low st more n (many - 1), [], none⟩ C.str n) := fun q => s_raise hl2
    have hg := F.gl
    by_cases w : wide = 1 ∨ wide = 2
    · rw [if_pos w] at hg ⊢
      rw [if_neg (show ¬ (many > 8 ∧ marks 7 = true ∧ wide = 2) from fun h => by omega), show min many 8 - 1 = many - 1 by omega]
      refine ⟨⟨t, [], [n], some (.answer (40 + sm more (many - 1)))⟩, (fin _ (2 * (many - 1) + 3 + 1 + 1) fun q => Rn.step rfl (s_get0 F.l1) (Rn.step rfl (hx q) ?_)).mono (by omega), rfl, rfl⟩
      unfold MS.faulted MM.fault
      dsimp only
      rw [show st (many - 1) + z + 1 + 1 - 1 = st (many - 1) + z + 1 by omega, hg]
      exact saidL F (by omega)
    · rw [if_neg w] at hg ⊢
      have w0 : wide = 0 := by omega
      subst w0
      obtain ⟨s, h1, h2, h3⟩ := out_low (n := n) F (t := t) (x := n) (many - 1) (by omega)
      refine ⟨s, (fin _ (2 * (many - 1) + 3 + 1 + 1) fun q => Rn.step rfl (s_get0 F.l1) (Rn.step rfl (hx q) ?_)).mono (by omega), ?_, ?_⟩
      · unfold MS.faulted MM.fault
        dsimp only
        rw [show st (many - 1) + z + 1 + 1 - 1 = st (many - 1) + z + 1 by omega, hg]
        exact h1
      · rw [show min (many - 1) 8 = many - 1 by omega]; exact h2
      · rw [show min (many - 1) 8 = many - 1 by omega]; exact h3
/-- the ninth one -/
theorem ninth (F : CF C many z raises wide marks more st L) (hw : wide = 0 ∨ wide = 1 ∨ wide = 2) (h8 : 8 < many) {t : Int} : ∃ s, Rn C 30 (MS.faulted ⟨t, ⟨st 7 + 1 + 1 + 1, [n], [more 7]⟩ :: low st more n 7, [], none⟩ C.str 102) s ∧ s.out = some (due many marks raises n wide more).2 ∧ s.said = (due many marks raises n wide more).1 := by
  unfold due
  rw [if_neg (show ¬ (many ≤ 8 ∧ raises = false) from fun h => by omega), if_pos (show many > 8 from h8)]
  have hg := F.g 7 (by omega)
  by_cases w : wide = 1 ∨ wide = 2
  · rw [if_pos w]
    have e : min many 8 - 1 = 7 := by omega
    rw [e]
    rcases w with w | w
    · rw [if_pos w] at hg
      refine ⟨⟨t, [], [102], some (.answer (40 + sm more 7))⟩, ?_, ?_, rfl⟩
      · unfold MS.faulted MM.fault
        dsimp only
        rw [show st 7 + 1 + 1 + 1 - 1 = st 7 + 2 by omega, hg]
        exact (saidL F (by omega)).mono (by omega)
      · rw [if_neg (show ¬ (many > 8 ∧ marks 7 = true ∧ wide = 2) from fun h => by omega)]
    · rw [if_neg (show ¬ wide = 1 by omega), if_pos w] at hg
      by_cases hm : marks 7 = true
      · rw [if_pos hm] at hg
        refine ⟨⟨t, [], [102], some (.answer (50 + ((7 : Nat) : Int) + sm more 7))⟩, ?_, ?_, rfl⟩
        · unfold MS.faulted MM.fault
          dsimp only
          rw [show st 7 + 1 + 1 + 1 - 1 = st 7 + 2 by omega, hg]
          exact (said1 F (by omega)).mono (by omega)
        · rw [if_pos ⟨h8, hm, w⟩]
          rfl
      · rw [if_neg hm] at hg
        refine ⟨⟨t, [], [102], some (.answer (40 + sm more 7))⟩, ?_, ?_, rfl⟩
        · unfold MS.faulted MM.fault
          dsimp only
          rw [show st 7 + 1 + 1 + 1 - 1 = st 7 + 2 by omega, hg]
          exact (saidL F (by omega)).mono (by omega)
        · rw [if_neg (fun h => hm h.2.1)]
  · rw [if_neg w]
    have w0 : wide = 0 := by omega
    subst w0
    obtain ⟨s, h1, h2, h3⟩ := out_low (n := n) F (t := t) (x := 102) 8 (by omega)
    have e : min (many - 1) 8 = 8 := by omega
    rw [e]
    refine ⟨s, ?_, h2, h3⟩
    have ez : MS.faulted ⟨t, ⟨st 7 + 1 + 1 + 1, [n], [more 7]⟩ :: low st more n 7, [], none⟩ C.str 102 = ⟨t, (MM.fault C.str 102 (low st more n 8)).1, [], (MM.fault C.str 102 (low st more n 8)).2⟩ := by
      unfold MS.faulted
      show MS.mk _ (MM.fault C.str 102 (⟨st 7 + 1 + 1 + 1, [n], [more 7]⟩ :: low st more n 7)).1 _ (MM.fault C.str 102 (⟨st 7 + 1 + 1 + 1, [n], [more 7]⟩ :: low st more n 7)).2 = _
      rw [show st 7 + 1 + 1 + 1 = st 7 + 3 by omega]
      rfl
    rw [ez]
    exact h1.mono (by omega)
/-- the whole, as asked -/
def dueT (turns : Nat) (many : Nat) (marks : Nat → Bool) (raises : Bool) (n wide : Int) (more : Nat → Int) : List Int × Ou := if turns ≥ min many 9 - 1 then due many marks raises n wide more else ([], .tired)
theorem down (F : CF C many z raises wide marks more st L) (hw : wide = 0 ∨ wide = 1 ∨ wide = 2) (hm : 1 ≤ many) (hz : z ≤ 2) (turns : Nat) : ∀ (r d : Nat), d + r = min many 9 - 1 → d ≤ turns → d < 8 →
    ∃ s, Rn C (3 * r + 60) (mkf ((turns : Int) - d) (st d) [n] [] (low st more n d) []) s ∧ s.out = some (dueT turns many marks raises n wide more).2 ∧ s.said = (dueT turns many marks raises n wide more).1 := by
  intro r
  induction r with
  | zero =>
    intro d e hd h8
    have em : many ≤ 8 := by omega
    have ed : d = many - 1 := by omega
    subst ed
    unfold dueT
    rw [if_pos (by omega)]
    obtain ⟨s, h1, h2⟩ := last (n := n) F hw hm em (t := (turns : Int) - ((many - 1 : Nat) : Int))
    exact ⟨s, h1.mono (by omega), h2⟩
  | succ r ih =>
    intro d e hd h8
    have hd1 : d + 1 < many := by omega
    by_cases ht : (turns : Int) - d < 1
    · refine ⟨_, (Rn.step rfl (s_put (F.r0 d hd1)) (Rn.step rfl (s_get0 (F.r1 d hd1)) (Rn.step rfl (s_callT (F.r2 d hd1) ht) Rn.zero))).mono (by omega), ?_, ?_⟩
      · unfold dueT; rw [if_neg (by omega)]
      · unfold dueT; rw [if_neg (by omega)]
    · by_cases h7 : d = 7
      · subst h7
        have h9 : 8 < many := by omega
        obtain ⟨s, h1, h2⟩ := ninth (n := n) F hw h9 (t := (turns : Int) - ((7 : Nat) : Int) - 1)
        refine ⟨s, (Rn.step rfl (s_put (F.r0 7 hd1)) (Rn.step rfl (s_get0 (F.r1 7 hd1)) (Rn.step rfl (s_callF (F.r2 7 hd1) ht (low_len 7)) h1))).mono (by omega), ?_⟩
        unfold dueT
        rw [if_pos (by omega)]
        exact h2
      · obtain ⟨s, h1, h2⟩ := ih (d + 1) (by omega) (by omega) (by omega)
        refine ⟨s, (Rn.step rfl (s_put (F.r0 d hd1)) (Rn.step rfl (s_get0 (F.r1 d hd1)) (Rn.step rfl (s_callE (F.r2 d hd1) ht (by rw [low_len]; omega) (F.beg (d + 1) hd1)) ?_))).mono (N := 3 * r + 60 + 1 + 1 + 1) (by omega), h2⟩
        have en : newFr C (st (d + 1)) n = ⟨st (d + 1), [n], []⟩ := by
          unfold newFr
          rw [F.boxes]
          rfl
        rw [en, show (turns : Int) - d - 1 = (turns : Int) - ((d + 1 : Nat) : Int) by omega, show st d + 1 + 1 + 1 = st d + 3 by omega]
        exact h1
end
end K04

/-! K04b: how k04's code is laid out (own work). -/
namespace K04
open PySem L2 U MM
def blk (many z : Nat) (raises : Bool) (more : Nat → Int) (k : Nat) : List Rw :=
  if k + 1 = many then List.replicate z (.put 9) ++ [.get 0, if raises then .raise else .back] else [.put (more k), .get 0, .call ((k + 1 : Nat) : Int), .rek .add, .back, .say, .put (50 + (k : Int)), .back]
def kO (many rot p : Nat) : Nat := (p + rot) % many
def hd (h : Nat) : List Rw := ([.put 77, .say, .put 78, .back] : List Rw).drop h
structure Ly where
  many : Nat
  z : Nat
  raises : Bool
  more : Nat → Int
  marks : Nat → Bool
  rot : Nat
  h : Nat
def Ly.b (y : Ly) (p : Nat) : List Rw := blk y.many y.z y.raises y.more (kO y.many y.rot p)
def Ly.code (y : Ly) : Nat → List Rw
  | 0 => hd y.h
  | n + 1 => y.code n ++ y.b n
def Ly.off (y : Ly) (n : Nat) : Nat := (y.code n).length
def Ly.one (y : Ly) (p : Nat) : List St3 := if kO y.many y.rot p + 1 ≠ y.many ∧ y.marks (kO y.many y.rot p) = true then [((y.off p : Int), (y.off p : Int) + 3, (y.off p : Int) + 5)] else []
def Ly.strs (y : Ly) : Nat → List St3
  | 0 => []
  | n + 1 => y.strs n ++ y.one n
def Ly.full (y : Ly) (wide : Int) : List St3 :=
  if wide = 1 then [((0 : Int), (y.off y.many : Int), (y.off y.many : Int))] ++ y.strs y.many else if wide = 2 then y.strs y.many ++ [((0 : Int), (y.off y.many : Int), (y.off y.many : Int))] else y.strs y.many
def Ly.cd (y : Ly) (wide : Int) (xs : List Int) : Cd := ⟨y.code y.many ++ [.say, .put 40, .back], y.full wide, xs, 1⟩
section
variable {y : Ly}
theorem off_succ (p : Nat) : y.off (p + 1) = y.off p + (y.b p).length := List.length_append
theorem code_pre {p : Nat} : ∀ {n : Nat}, p ≤ n → ∃ rest, y.code n = y.code p ++ rest
  | 0, h => ⟨[], by rw [List.append_nil, Nat.le_zero.mp h]⟩
  | n + 1, h => by
    by_cases e : p = n + 1
    · exact ⟨[], by rw [List.append_nil, e]⟩
    · obtain ⟨r, hr⟩ := code_pre (p := p) (n := n) (by omega)
      exact ⟨r ++ y.b n, by show y.code n ++ y.b n = _; rw [hr, List.append_assoc]⟩
theorem code_at {p n j : Nat} {r : Rw} (h : p < n) (e : (y.b p)[j]? = some r) (more : List Rw) : (y.code n ++ more)[y.off p + j]? = some r := by
  obtain ⟨rest, hr⟩ := code_pre (y := y) (p := p + 1) (n := n) h
  have lt := (List.getElem?_eq_some_iff.mp e).1
  have e2 : y.code n ++ more = y.code p ++ (y.b p ++ (rest ++ more)) := by
    rw [hr]
    show y.code p ++ y.b p ++ rest ++ more = _
    simp only [List.append_assoc]
  rw [e2, List.getElem?_append_right (by unfold Ly.off; omega)]
  unfold Ly.off
  rw [Nat.add_sub_cancel_left, List.getElem?_append_left lt]
  exact e
theorem off_mono {p q : Nat} (h : p < q) : y.off p + (y.b p).length ≤ y.off q := by
  induction q with
  | zero => omega
  | succ q ih =>
    rw [off_succ]
    by_cases e : p = q
    · subst e; omega
    · have := ih (by omega); omega
theorem b_len (p : Nat) : (y.b p).length = if kO y.many y.rot p + 1 = y.many then y.z + 2 else 8 := by
  unfold Ly.b blk
  split
  · rw [List.length_append, List.length_replicate]; rfl
  · rfl
theorem off_le (n : Nat) : y.off n ≤ 4 + (y.z + 8) * n := by
  induction n with
  | zero =>
    show (hd y.h).length ≤ _
    unfold hd
    rw [List.length_drop]
    show 4 - y.h ≤ _
    omega
  | succ n ih =>
    rw [off_succ, b_len, Nat.mul_succ]
    split <;> omega
theorem strs_mem : ∀ {n : Nat} {t : St3}, t ∈ y.strs n → ∃ q, q < n ∧ kO y.many y.rot q + 1 ≠ y.many ∧ y.marks (kO y.many y.rot q) = true ∧ t = ((y.off q : Int), (y.off q : Int) + 3, (y.off q : Int) + 5)
  | n + 1, t, h => by
    rcases List.mem_append.mp h with h | h
    · obtain ⟨q, h1, h2⟩ := strs_mem h
      exact ⟨q, by omega, h2⟩
    · unfold Ly.one at h
      split at h
      · rename_i c
        exact ⟨n, Nat.lt_succ_self _, c.1, c.2, List.mem_singleton.mp h⟩
      · cases h
theorem mem_strs {q : Nat} (c : kO y.many y.rot q + 1 ≠ y.many ∧ y.marks (kO y.many y.rot q) = true) : ∀ {n : Nat}, q < n → ((y.off q : Int), (y.off q : Int) + 3, (y.off q : Int) + 5) ∈ y.strs n
  | n + 1, h => by
    refine List.mem_append.mpr ?_
    by_cases e : q = n
    · subst e
      right
      unfold Ly.one
      rw [if_pos c]
      exact List.mem_singleton.mpr rfl
    · exact .inl (mem_strs c (by omega))
theorem strs_len : ∀ n : Nat, (y.strs n).length ≤ n
  | 0 => Nat.le_refl 0
  | n + 1 => by
    show (y.strs n ++ y.one n).length ≤ _
    rw [List.length_append]
    have h1 := strs_len n
    have h2 : (y.one n).length ≤ 1 := by unfold Ly.one; split <;> simp
    omega
theorem goal_one {p g : Int} : ∀ {l : List St3}, (∀ t ∈ l, t.1 ≤ p ∧ p < t.2.1 → t.2.2 = g) → (∃ t ∈ l, t.1 ≤ p ∧ p < t.2.1) → goal p l = some g
  | [], _, ⟨t, h, _⟩ => by cases h
  | t :: r, h, ⟨u, hu, e⟩ => by
    rw [goal_cons]
    by_cases c : t.1 ≤ p ∧ p < t.2.1
    · rw [if_pos c, h t List.mem_cons_self c]
    · rw [if_neg c]
      rcases List.mem_cons.mp hu with rfl | hu
      · exact absurd e c
      · exact goal_one (fun t ht => h t (List.mem_cons_of_mem _ ht)) ⟨u, hu, e⟩
theorem goal_none {p : Int} : ∀ {l : List St3}, (∀ t ∈ l, ¬ (t.1 ≤ p ∧ p < t.2.1)) → goal p l = none
  | [], _ => rfl
  | t :: r, h => by
    rw [goal_cons, if_neg (h t List.mem_cons_self)]
    exact goal_none fun t ht => h t (List.mem_cons_of_mem _ ht)
theorem goal_app {p : Int} (m : List St3) : ∀ l : List St3, goal p (l ++ m) = match goal p l with | some g => some g | none => goal p m
  | [] => rfl
  | t :: r => by
    show goal p (t :: (r ++ m)) = _
    rw [goal_cons, goal_cons]
    split
    · rfl
    · exact goal_app m r
/-- the call of a function at p: only its own stretch holds it -/
theorem goal_call {p n : Nat} (hp : p < n) (hk : kO y.many y.rot p + 1 ≠ y.many) : goal ((y.off p : Int) + 2) (y.strs n) = if y.marks (kO y.many y.rot p) = true then some ((y.off p : Int) + 5) else none := by
  have only : ∀ q, q < n → kO y.many y.rot q + 1 ≠ y.many → (y.off q : Int) ≤ (y.off p : Int) + 2 → (y.off p : Int) + 2 < (y.off q : Int) + 3 → q = p := by
    intro q hq hkq h1 h2
    rcases Nat.lt_trichotomy q p with h | h | h
    · have := off_mono (y := y) h
      rw [b_len, if_neg hkq] at this
      omega
    · exact h
    · have := off_mono (y := y) h
      rw [b_len, if_neg hk] at this
      omega
  by_cases c : y.marks (kO y.many y.rot p) = true
  · rw [if_pos c]
    refine goal_one (fun t ht e => ?_) ⟨_, mem_strs ⟨hk, c⟩ hp, by dsimp only; omega, by dsimp only; omega⟩
    obtain ⟨q, hq, hkq, _, rfl⟩ := strs_mem ht
    rw [only q hq hkq e.1 e.2]
  · rw [if_neg c]
    refine goal_none fun t ht e => ?_
    obtain ⟨q, hq, hkq, hm, rfl⟩ := strs_mem ht
    rw [only q hq hkq e.1 e.2] at hm
    exact c hm
theorem goal_last {p n : Nat} (hp : p < n) (hk : kO y.many y.rot p + 1 = y.many) : goal ((y.off p : Int) + y.z + 1) (y.strs n) = none := by
  refine goal_none fun t ht e => ?_
  obtain ⟨q, hq, hkq, hm, rfl⟩ := strs_mem ht
  dsimp only at e
  rcases Nat.lt_trichotomy q p with h | h | h
  · have := off_mono (y := y) h
    rw [b_len, if_neg hkq] at this
    omega
  · rw [h] at hkq; exact hkq hk
  · have := off_mono (y := y) h
    rw [b_len, if_pos hk] at this
    omega
theorem goal_full {p : Int} (h0 : 0 ≤ p) (h1 : p < (y.off y.many : Int)) (wide : Int) : goal p (y.full wide) = if wide = 1 then some (y.off y.many : Int) else match goal p (y.strs y.many) with | some g => some g | none => if wide = 2 then some (y.off y.many : Int) else none := by
  have hw : goal p [((0 : Int), (y.off y.many : Int), (y.off y.many : Int))] = some (y.off y.many : Int) := by rw [goal_cons, if_pos ⟨h0, h1⟩]
  unfold Ly.full
  by_cases w1 : wide = 1
  · rw [if_pos w1, if_pos w1, goal_app, hw]
  · rw [if_neg w1, if_neg w1]
    by_cases w2 : wide = 2
    · rw [if_pos w2, if_pos w2, goal_app, hw]
    · rw [if_neg w2, if_neg w2]
      cases goal p (y.strs y.many) <;> rfl
/-! ### which place -/
def inv (many rot k : Nat) : Nat := (k + (many - rot % many)) % many
theorem inv_lt {many : Nat} (h : 0 < many) (rot k : Nat) : inv many rot k < many := Nat.mod_lt _ h
theorem kO_lt {many : Nat} (h : 0 < many) (rot p : Nat) : kO many rot p < many := Nat.mod_lt _ h
theorem kO_inv {many rot k : Nat} (h : k < many) : kO many rot (inv many rot k) = k := by
  unfold kO inv
  rw [Nat.mod_add_mod]
  have h1 := Nat.div_add_mod rot many
  have h2 := Nat.mod_lt rot (show many > 0 by omega)
  have e : k + (many - rot % many) + rot = k + many * (1 + rot / many) := by
    rw [Nat.mul_add, Nat.mul_one]
    omega
  rw [e, Nat.add_mul_mod_self_left, Nat.mod_eq_of_lt h]
theorem kO_ne {many rot p q : Nat} (hp : p < q) (hq : q < many) : kO many rot p ≠ kO many rot q := by
  intro e
  unfold kO at e
  have h := Nat.sub_mod_eq_zero_of_mod_eq e.symm
  rw [show q + rot - (p + rot) = q - p by omega, Nat.mod_eq_of_lt (by omega)] at h
  omega
def begOk (y : Ly) (n : Nat) (xs : List Int) : Prop := xs.length = y.many ∧ ∀ p, p < n → xs[kO y.many y.rot p]? = some (y.off p : Int)
theorem begOk_set {n : Nat} {xs : List Int} (h : begOk y n xs) (hn : n < y.many) : begOk y (n + 1) (xs.set (kO y.many y.rot n) (y.off n : Int)) := by
  refine ⟨by rw [List.length_set]; exact h.1, fun p hp => ?_⟩
  by_cases e : p = n
  · subst e
    rw [List.getElem?_set_self (by rw [h.1]; exact kO_lt (by omega) _ _)]
  · rw [List.getElem?_set_ne (kO_ne (show p < n by omega) hn).symm]
    exact h.2 p (by omega)
/-- all that is known of it -/
theorem cf {wide : Int} {xs : List Int} (hm : 1 ≤ y.many) (hb : begOk y y.many xs) : CF (y.cd wide xs) y.many y.z y.raises wide y.marks y.more (fun k => (y.off (inv y.many y.rot k) : Int)) (y.off y.many : Int) := by
  have at' : ∀ (k j : Nat) (r : Rw), k < y.many → (blk y.many y.z y.raises y.more k)[j]? = some r → atI (y.cd wide xs).rows ((y.off (inv y.many y.rot k) : Int) + j) = some r := by
    intro k j r hk e
    rw [show (y.off (inv y.many y.rot k) : Int) + j = ((y.off (inv y.many y.rot k) + j : Nat) : Int) by omega]
    refine atI_nat (code_at (inv_lt (by omega) _ _) ?_ _)
    unfold Ly.b
    rw [kO_inv hk]
    exact e
  have nl : ∀ k, k + 1 < y.many → blk y.many y.z y.raises y.more k = [.put (y.more k), .get 0, .call ((k + 1 : Nat) : Int), .rek .add, .back, .say, .put (50 + (k : Int)), .back] := fun k h => by unfold blk; rw [if_neg (by omega)]
  have la : blk y.many y.z y.raises y.more (y.many - 1) = List.replicate y.z (.put 9) ++ [.get 0, if y.raises then .raise else .back] := by unfold blk; rw [if_pos (by omega)]
  have tl : ∀ (j : Nat) (r : Rw), ([.say, .put 40, .back] : List Rw)[j]? = some r → atI (y.cd wide xs).rows ((y.off y.many : Int) + j) = some r := by
    intro j r e
    rw [show (y.off y.many : Int) + j = ((y.off y.many + j : Nat) : Int) by omega]
    refine atI_nat ?_
    show (y.code y.many ++ [.say, .put 40, .back])[y.off y.many + j]? = _
    rw [List.getElem?_append_right (by unfold Ly.off; omega)]
    unfold Ly.off
    rw [Nat.add_sub_cancel_left]
    exact e
  have lt : ∀ k, k < y.many → y.off (inv y.many y.rot k) + (y.b (inv y.many y.rot k)).length ≤ y.off y.many := fun k hk => off_mono (inv_lt (by omega) _ _)
  refine ⟨rfl, ?_, ?_, ?_, ?_, ?_, ?_, ?_, ?_, ?_, ?_, ?_, ?_, ?_, ?_, ?_, ?_, ?_⟩
  · intro k hk
    have h := hb.2 (inv y.many y.rot k) (inv_lt (by omega) _ _)
    rw [kO_inv hk] at h
    exact atI_nat h
  · intro k hk; have z := at' k 0 _ (by omega) (by rw [nl k hk]; rfl); rwa [show ((y.off (inv y.many y.rot k) : Nat) : Int) + ((0 : Nat) : Int) = y.off (inv y.many y.rot k) by omega] at z
  · intro k hk; exact at' k 1 _ (by omega) (by rw [nl k hk]; rfl)
  · intro k hk; have z := at' k 2 _ (by omega) (by rw [nl k hk]; rfl); rwa [show ((y.off (inv y.many y.rot k) : Nat) : Int) + ((2 : Nat) : Int) = (y.off (inv y.many y.rot k) : Int) + 1 + 1 by omega] at z
  · intro k hk; exact at' k 3 _ (by omega) (by rw [nl k hk]; rfl)
  · intro k hk; have z := at' k 4 _ (by omega) (by rw [nl k hk]; rfl); rwa [show ((y.off (inv y.many y.rot k) : Nat) : Int) + ((4 : Nat) : Int) = (y.off (inv y.many y.rot k) : Int) + 3 + 1 by omega] at z
  · intro k hk; exact at' k 5 _ (by omega) (by rw [nl k hk]; rfl)
  · intro k hk; have z := at' k 6 _ (by omega) (by rw [nl k hk]; rfl); rwa [show ((y.off (inv y.many y.rot k) : Nat) : Int) + ((6 : Nat) : Int) = (y.off (inv y.many y.rot k) : Int) + 5 + 1 by omega] at z
  · intro k hk; have z := at' k 7 _ (by omega) (by rw [nl k hk]; rfl); rwa [show ((y.off (inv y.many y.rot k) : Nat) : Int) + ((7 : Nat) : Int) = (y.off (inv y.many y.rot k) : Int) + 5 + 1 + 1 by omega] at z
  · intro j hj
    exact at' (y.many - 1) j _ (by omega) (by rw [la, List.getElem?_append_left (by simpa using hj), List.getElem?_replicate, if_pos hj])
  · exact at' (y.many - 1) y.z _ (by omega) (by rw [la, List.getElem?_append_right (by simp)]; simp)
  · have z := at' (y.many - 1) (y.z + 1) _ (by omega) (by rw [la, List.getElem?_append_right (by simp)]; simp; rfl)
    rwa [show ((y.off (inv y.many y.rot (y.many - 1)) : Nat) : Int) + ((y.z + 1 : Nat) : Int) = (y.off (inv y.many y.rot (y.many - 1)) : Int) + y.z + 1 by omega] at z
  · have z := tl 0 _ rfl; rwa [show (y.off y.many : Int) + ((0 : Nat) : Int) = y.off y.many by omega] at z
  · exact tl 1 _ rfl
  · have z := tl 2 _ rfl; rwa [show (y.off y.many : Int) + ((2 : Nat) : Int) = (y.off y.many : Int) + 1 + 1 by omega] at z
  · intro k hk
    have l := lt k (by omega)
    rw [b_len, kO_inv (show k < y.many by omega), if_neg (by omega)] at l
    show goal _ (y.full wide) = _
    rw [goal_full (by omega) (by omega) wide, goal_call (inv_lt (by omega) _ _) (by rw [kO_inv (by omega)]; omega), kO_inv (show k < y.many by omega)]
    by_cases w1 : wide = 1
    · rw [if_pos w1, if_pos w1]
    · rw [if_neg w1, if_neg w1]
      by_cases c : y.marks k = true
      · rw [if_pos c, if_pos c]
      · rw [if_neg c, if_neg c]
  · have l := lt (y.many - 1) (by omega)
    rw [b_len, kO_inv (show y.many - 1 < y.many by omega), if_pos (by omega)] at l
    show goal _ (y.full wide) = _
    rw [goal_full (by omega) (by omega) wide, goal_last (inv_lt (by omega) _ _) (by rw [kO_inv (by omega)]; omega)]
    by_cases w1 : wide = 1
    · rw [if_pos w1, if_pos (.inl w1)]
    · rw [if_neg w1]
      by_cases w2 : wide = 2
      · rw [if_pos w2, if_pos (.inr w2)]
      · rw [if_neg w2, if_neg (by omega)]
end
end K04

/-! K14a: code whose rows bear heights: the machine always ends (own work). -/
namespace K14
open PySem L2 U MM K05
inductive Nd where
  | no | top (q : Int) | box (k q : Int)
structure An where
  h : Nat
  lic : Bool
  nd : Nd
abbrev Rx := Rw × An
def RowOk (Fr : Int → Prop) (B nf : Nat) (p : Nat) (r : Rw) (x : An) (nx : Option An) : Prop := match r with
  | .put n => ∃ y, nx = some y ∧ y.h = x.h + 1 ∧ (y.lic = true → x.lic = true) ∧ (y.nd = .no ∨ y.nd = .top n)
  | .get k => 0 ≤ k ∧ k < B ∧ ∃ y, nx = some y ∧ y.h = x.h + 1 ∧ (y.lic = true → x.lic = true) ∧ y.nd = .no
  | .set k => 0 ≤ k ∧ k < B ∧ ∃ y, nx = some y ∧ x.h = y.h + 1 ∧ (y.lic = true → x.lic = true) ∧ (y.nd = .no ∨ ∃ q, x.nd = .top q ∧ y.nd = .box k q)
  | .say => ∃ y, nx = some y ∧ x.h = y.h + 1 ∧ (y.lic = true → x.lic = true) ∧ y.nd = .no
  | .rek _ => ∃ y, nx = some y ∧ x.h = y.h + 1 ∧ 1 ≤ y.h ∧ (y.lic = true → x.lic = true) ∧ y.nd = .no
  | .go q => x.h = 0 ∧ Fr q ∧ (x.lic = true ∨ (p : Int) < q)
  | .nought q => x.h = 1 ∧ Fr q ∧ (x.lic = true ∨ (p : Int) < q) ∧ ∃ y, nx = some y ∧ y.h = 0 ∧ (y.lic = true → x.lic = true) ∧ y.nd = .no
  | .on k => x.h = 0 ∧ ∃ q, x.nd = .box k q ∧ Fr q ∧ (p : Int) < q
  | .turn => ∃ y, nx = some y ∧ y.h = x.h ∧ y.nd = .no
  | .call f => 1 ≤ x.h ∧ 0 ≤ f ∧ f < nf ∧ ∃ y, nx = some y ∧ y.h = x.h ∧ (y.lic = true → x.lic = true) ∧ y.nd = .no
  | .back => 1 ≤ x.h
  | .raise => 1 ≤ x.h
def Fresh (A : List Rx) (q : Int) : Prop := ∃ (j : Nat) (r : Rw), q = (j : Int) ∧ A[j]? = some (r, ⟨0, false, .no⟩)
structure Good (A : List Rx) (B nf total : Nat) (C : Cd) : Prop where
  rows : C.rows = A.map (·.1)
  wf : ∀ (p : Nat) (r : Rw) (x : An), A[p]? = some (r, x) → RowOk (Fresh A) B nf p r x (A[p + 1]?.map (·.2))
  beg : ∀ f : Int, 0 ≤ f → f < nf → ∃ z, atI C.begins f = some z ∧ Fresh A z
  str : ∀ t ∈ C.str, ∃ j : Nat, t.2.2 = (j : Int) ∧ total ≤ j ∧ (∃ r, A[j]? = some (r, ⟨1, false, .no⟩)) ∧ t.2.1 ≤ total
  callIn : ∀ (p : Nat) (f : Int) (x : An), A[p]? = some (.call f, x) → p + 1 < total
  boxes : C.boxes = (B : Int)
  b1 : 1 ≤ B
def NdOk (d : Nd) (b q : List Int) : Prop := match d with
  | .no => True
  | .top z => q.head? = some z
  | .box k z => atI b k = some z
/-- a place is good for these boxes and this pile -/
def G (A : List Rx) (B : Nat) (p : Int) (b q : List Int) : Prop := ∃ (j : Nat) (r : Rw) (x : An), p = (j : Int) ∧ A[j]? = some (r, x) ∧ q.length = x.h ∧ b.length = B ∧ NdOk x.nd b q
def w (A : List Rx) (p : Int) : Nat := match A[p.toNat]? with
  | some (_, x) => if x.lic then 2 * A.length + 1 - p.toNat else A.length - p.toNat
  | none => 0
section
variable {A : List Rx} {B nf total : Nat} {C : Cd}
theorem w_eq {j : Nat} {r : Rw} {x : An} (h : A[j]? = some (r, x)) : w A (j : Int) = if x.lic then 2 * A.length + 1 - j else A.length - j := by
  unfold w
  rw [Int.toNat_natCast, h]
theorem w_lt {i j : Nat} {r r' : Rw} {x y : An} (hi : A[i]? = some (r, x)) (hj : A[j]? = some (r', y)) (h : i < j) (hl : y.lic = true → x.lic = true) : w A (j : Int) < w A (i : Int) := by
  have lj := (List.getElem?_eq_some_iff.mp hj).1
  rw [w_eq hi, w_eq hj]
  by_cases c : y.lic = true
  · rw [if_pos c, if_pos (hl c)]; omega
  · rw [if_neg c]; split <;> omega
theorem w_lic {i j : Nat} {r r' : Rw} {x y : An} (hi : A[i]? = some (r, x)) (hj : A[j]? = some (r', y)) (hx : x.lic = true) (hy : y.lic = false) : w A (j : Int) < w A (i : Int) := by
  have li := (List.getElem?_eq_some_iff.mp hi).1
  have lj := (List.getElem?_eq_some_iff.mp hj).1
  rw [w_eq hi, w_eq hj, if_pos hx, hy, if_neg Bool.false_ne_true]
  omega
theorem w_pos {i : Nat} {r : Rw} {x : An} (hi : A[i]? = some (r, x)) : 1 ≤ w A (i : Int) := by
  have li := (List.getElem?_eq_some_iff.mp hi).1
  rw [w_eq hi]
  split <;> omega
theorem w_le (p : Int) : w A p ≤ 2 * A.length + 1 := by
  unfold w
  split
  · split <;> omega
  · omega
theorem fresh_G {q : Int} {b p : List Int} (h : Fresh A q) (hb : b.length = B) (hp : p.length = 0) : G A B q b p := by
  obtain ⟨j, r, e, h1⟩ := h
  exact ⟨j, r, _, e, h1, hp, hb, True.intro⟩
/-- a jump to a fresh place weighs less -/
theorem w_fresh {q : Int} {i : Nat} {r : Rw} {x : An} (hi : A[i]? = some (r, x)) (h : Fresh A q) (hl : x.lic = true ∨ (i : Int) < q) : w A q < w A (i : Int) := by
  obtain ⟨j, r', e, h1⟩ := h
  subst e
  rcases hl with hl | hl
  · exact w_lic hi h1 hl rfl
  · exact w_lt hi h1 (by omega) (fun z => nomatch z)
/-- one that waits for its call -/
def Wait (A : List Rx) (B : Nat) (g : MM.Fr) : Prop := ∃ (j : Nat) (f : Int) (x : An), g.place = ((j + 1 : Nat) : Int) ∧ A[j]? = some (.call f, x) ∧ g.boxes.length = B ∧ ∀ n, G A B g.place g.boxes (n :: g.pile)
def sumW (A : List Rx) (fs : List MM.Fr) : Nat := (fs.map fun f => w A f.place).sum
theorem sumW_cons {f : MM.Fr} {fs : List MM.Fr} : sumW A (f :: fs) = w A f.place + sumW A fs := by unfold sumW; simp
def FsOk (A : List Rx) (B : Nat) : List MM.Fr → Prop
  | [] => False
  | f :: fs => G A B f.place f.boxes f.pile ∧ ∀ g ∈ fs, Wait A B g
theorem goal_mem {p g : Int} : ∀ {l : List St3}, MM.goal p l = some g → ∃ t ∈ l, t.1 ≤ p ∧ p < t.2.1 ∧ t.2.2 = g
  | [], h => by cases h
  | t :: r, h => by
    rw [goal_cons] at h
    split at h
    · rename_i c
      exact ⟨t, List.mem_cons_self, c.1, c.2, Option.some.inj h⟩
    · obtain ⟨u, hu, e⟩ := goal_mem h
      exact ⟨u, List.mem_cons_of_mem _ hu, e⟩
theorem fcons {S : List St3} {n : Int} {f : MM.Fr} {r : List MM.Fr} : MM.fault S n (f :: r) = (match goal (f.place - 1) S with | some g => ({ f with place := g, pile := [n] } :: r, none) | none => MM.fault S n r) := rfl
theorem goal_G (g : Good A B nf total C) {p z : Int} {b : List Int} (hb : b.length = B) (h : MM.goal p C.str = some z) (n : Int) : G A B z b [n] ∧ ∃ j : Nat, z = (j : Int) ∧ total ≤ j ∧ p < total ∧ ∃ r, A[j]? = some (r, ⟨1, false, .no⟩) := by
  obtain ⟨t, ht, h1, h2, h3⟩ := goal_mem h
  obtain ⟨j, e, hj, ⟨r, hr⟩, hl⟩ := g.str t ht
  rw [h3] at e
  exact ⟨⟨j, r, _, e, hr, rfl, hb, True.intro⟩, j, e, hj, by omega, r, hr⟩
/-- a fault among those that wait -/
theorem fault_ok (g : Good A B nf total C) {n : Int} : ∀ fs : List MM.Fr, (∀ f ∈ fs, Wait A B f) → ((MM.fault C.str n fs).2 = none ∧ FsOk A B (MM.fault C.str n fs).1 ∧ sumW A (MM.fault C.str n fs).1 ≤ sumW A fs) ∨ ∃ o, (MM.fault C.str n fs).2 = some o
  | [], _ => .inr ⟨_, rfl⟩
  | f :: fs, h => by
    obtain ⟨j, c, x, e, hj, hb, hG⟩ := h f List.mem_cons_self
    rw [fcons]
    cases hg : MM.goal (f.place - 1) C.str with
    | some z =>
      obtain ⟨h1, k, ek, hk, hp, r, hr⟩ := goal_G g hb hg n
      refine .inl ⟨rfl, ⟨h1, fun f' hf' => h f' (List.mem_cons_of_mem _ hf')⟩, ?_⟩
      show sumW A ({ f with place := z, pile := [n] } :: fs) ≤ _
      rw [sumW_cons, sumW_cons]
      have hc := g.callIn j c x hj
      obtain ⟨j', r', x', e', hj', _⟩ := hG 0
      have : w A z < w A f.place := by
        rw [ek, e']
        exact w_lt hj' hr (by omega) (fun z => nomatch z)
      show w A z + _ ≤ _
      omega
    | none =>
      dsimp only
      rcases fault_ok g fs (fun f' hf' => h f' (List.mem_cons_of_mem _ hf')) with ⟨h1, h2, h3⟩ | h
      · exact .inl ⟨h1, h2, by rw [sumW_cons]; omega⟩
      · exact .inr h
/-- .. at the uppermost one, whose row stands at j -/
theorem fault_top (g : Good A B nf total C) {n : Int} {j : Nat} {r : Rw} {x : An} {b q : List Int} {fs : List MM.Fr} (hj : A[j]? = some (r, x)) (hb : b.length = B) (h : ∀ f ∈ fs, Wait A B f) :
    ((MM.fault C.str n (⟨(j : Int) + 1, b, q⟩ :: fs)).2 = none ∧ FsOk A B (MM.fault C.str n (⟨(j : Int) + 1, b, q⟩ :: fs)).1 ∧ sumW A (MM.fault C.str n (⟨(j : Int) + 1, b, q⟩ :: fs)).1 < w A (j : Int) + sumW A fs) ∨ ∃ o, (MM.fault C.str n (⟨(j : Int) + 1, b, q⟩ :: fs)).2 = some o := by
  rw [fcons]
  dsimp only
  rw [show (j : Int) + 1 - 1 = (j : Int) by omega]
  cases hg : MM.goal (j : Int) C.str with
  | some z =>
    obtain ⟨h1, k, ek, hk, hp, r', hr⟩ := goal_G g hb hg n
    refine .inl ⟨rfl, ⟨h1, h⟩, ?_⟩
    show sumW A (⟨z, b, [n]⟩ :: fs) < _
    rw [sumW_cons]
    have : w A z < w A (j : Int) := by rw [ek]; exact w_lt hj hr (by omega) (fun z => nomatch z)
    show w A z + _ < _
    omega
  | none =>
    dsimp only
    rcases fault_ok g (n := n) fs h with ⟨h1, h2, h3⟩ | h
    · have := w_pos hj
      exact .inl ⟨h1, h2, by omega⟩
    · exact .inr h
theorem row_at (g : Good A B nf total C) {j : Nat} {r : Rw} {x : An} (hj : A[j]? = some (r, x)) : atI C.rows (j : Int) = some r := by
  rw [g.rows]
  refine atI_nat ?_
  rw [List.getElem?_map, hj]
  rfl
theorem nxt {j : Nat} {y : An} (h : A[j + 1]?.map (·.2) = some y) : ∃ r, A[j + 1]? = some (r, y) := by
  obtain ⟨⟨r, y'⟩, h1, h2⟩ := Option.map_eq_some_iff.mp h
  exact ⟨r, by rw [h1]; cases h2; rfl⟩
theorem ixB {b : List Int} {k : Int} (hb : b.length = B) (h0 : 0 ≤ k) (h1 : k < B) : ixN b.length k = some k.toNat ∧ ∃ n, atI b k = some n := by
  have e : ixN b.length k = some k.toNat := by
    unfold ixN
    rw [if_pos h0, if_pos (by omega)]
  refine ⟨e, b[k.toNat]'(by omega), ?_⟩
  unfold atI
  rw [e]
  exact List.getElem?_eq_getElem (by omega)
theorem atI_set {b : List Int} {k n : Int} (hb : b.length = B) (h0 : 0 ≤ k) (h1 : k < B) : atI (b.set k.toNat n) k = some n := by
  have e : ixN (b.set k.toNat n).length k = some k.toNat := (ixB (B := B) (by rw [List.length_set]; exact hb) h0 h1).1
  unfold atI
  rw [e]
  show (b.set k.toNat n)[k.toNat]? = some n
  rw [List.getElem?_set_self (by omega)]
/-- one step: it ends, or weighs less -/
theorem one (g : Good A B nf total C) {s : MS} (ho : s.out = none) (hf : FsOk A B s.fs) (ht : 0 ≤ s.turns) : ∃ s', MM.step C s = some s' ∧ ((∃ o, s'.out = some o) ∨ (s'.out = none ∧ FsOk A B s'.fs ∧ 0 ≤ s'.turns ∧ s'.turns.toNat * (2 * A.length + 2) + sumW A s'.fs < s.turns.toNat * (2 * A.length + 2) + sumW A s.fs)) := by
  obtain ⟨t, fs, sd, o⟩ := s
  dsimp only at ho hf ht
  subst ho
  cases fs with
  | nil => exact hf.elim
  | cons f fs =>
    obtain ⟨p, b, q⟩ := f
    obtain ⟨⟨j, r, x, e, hj, hq, hb, hn⟩, hw⟩ := hf
    dsimp only at e hq hb hn
    subst e
    have hr := row_at g hj
    have ok := g.wf j r x hj
    have wj := w_pos hj
    unfold MM.step
    dsimp only
    rw [hr]
    dsimp only
    rw [sumW_cons]
    dsimp only
    have nx1 : ∀ (y : An) (b' q' : List Int), A[j + 1]?.map (·.2) = some y → q'.length = y.h → b'.length = B → NdOk y.nd b' q' → (y.lic = true → x.lic = true) → G A B ((j : Int) + 1) b' q' ∧ w A ((j : Int) + 1) < w A (j : Int) := by
      intro y b' q' hy h1 h2 h3 h4
      obtain ⟨r', h5⟩ := nxt hy
      exact ⟨⟨j + 1, r', y, rfl, h5, h1, h2, h3⟩, w_lt hj h5 (Nat.lt_succ_self j) h4⟩
    have noN : ∀ {d : Nd} {b' q' : List Int}, d = .no → NdOk d b' q' := fun e => by rw [e]; exact True.intro
    unfold act
    cases r with
    | put n =>
      obtain ⟨y, hy, h1, h2, h3⟩ := ok
      obtain ⟨k1, k2⟩ := nx1 y b (n :: q) hy (by rw [List.length_cons, hq, h1]) hb (by rcases h3 with h3 | h3 <;> rw [h3] <;> first | exact True.intro | rfl) h2
      refine ⟨_, rfl, .inr ⟨rfl, ⟨k1, hw⟩, ht, ?_⟩⟩
      dsimp only
      rw [sumW_cons]
      dsimp only
      omega
    | get k =>
      obtain ⟨h0, h0', y, hy, h1, h2, h3⟩ := ok
      obtain ⟨_, n, an⟩ := ixB hb h0 h0'
      obtain ⟨k1, k2⟩ := nx1 y b (n :: q) hy (by rw [List.length_cons, hq, h1]) hb (noN h3) h2
      dsimp only
      rw [an]
      refine ⟨_, rfl, .inr ⟨rfl, ⟨k1, hw⟩, ht, ?_⟩⟩
      dsimp only
      rw [sumW_cons]
      dsimp only
      omega
    | set k =>
      obtain ⟨h0, h0', y, hy, h1, h2, h3⟩ := ok
      cases q with
      | nil => rw [h1] at hq; simp at hq
      | cons n q =>
        obtain ⟨ik, _⟩ := ixB hb h0 h0'
        obtain ⟨k1, k2⟩ := nx1 y (b.set k.toNat n) q hy (by rw [List.length_cons, h1] at hq; omega) (by rw [List.length_set]; exact hb) (by
          rcases h3 with h3 | ⟨z, h3, h4⟩
          · exact noN h3
          · rw [h4]
            rw [h3] at hn
            have : n = z := Option.some.inj hn
            subst this
            exact atI_set hb h0 h0') h2
        dsimp only
        rw [ik]
        refine ⟨_, rfl, .inr ⟨rfl, ⟨k1, hw⟩, ht, ?_⟩⟩
        dsimp only
        rw [sumW_cons]
        dsimp only
        omega
    | say =>
      obtain ⟨y, hy, h1, h2, h3⟩ := ok
      cases q with
      | nil => rw [h1] at hq; simp at hq
      | cons n q =>
        obtain ⟨k1, k2⟩ := nx1 y b q hy (by rw [List.length_cons, h1] at hq; omega) hb (noN h3) h2
        refine ⟨_, rfl, .inr ⟨rfl, ⟨k1, hw⟩, ht, ?_⟩⟩
        dsimp only
        rw [sumW_cons]
        dsimp only
        omega
    | rek o =>
      obtain ⟨y, hy, h1, h2, h3, h4⟩ := ok
      cases q with
      | nil => rw [h1] at hq; simp at hq
      | cons n q =>
        cases q with
        | nil => rw [h1] at hq; simp at hq; omega
        | cons m q =>
          dsimp only
          cases hk : reck o m n with
          | some v =>
            obtain ⟨k1, k2⟩ := nx1 y b (v :: q) hy (by simp at hq ⊢; omega) hb (noN h4) h3
            refine ⟨_, rfl, .inr ⟨rfl, ⟨k1, hw⟩, ht, ?_⟩⟩
            dsimp only
            rw [sumW_cons]
            dsimp only
            omega
          | none =>
            refine ⟨_, rfl, ?_⟩
            unfold MS.faulted
            dsimp only
            rcases fault_top g (n := 101) (q := q) hj hb hw with ⟨f1, f2, f3⟩ | h
            · exact .inr ⟨f1, f2, ht, by omega⟩
            · exact .inl h
    | go z =>
      obtain ⟨h1, h2, h3⟩ := ok
      have k2 := w_fresh hj h2 h3
      refine ⟨_, rfl, .inr ⟨rfl, ⟨fresh_G h2 hb (by rw [hq, h1]), hw⟩, ht, ?_⟩⟩
      dsimp only
      rw [sumW_cons]
      dsimp only
      omega
    | nought z =>
      obtain ⟨h1, h2, h3, y, hy, h4, h5, h6⟩ := ok
      cases q with
      | nil => rw [h1] at hq; simp at hq
      | cons n q =>
        have hq0 : q.length = 0 := by rw [List.length_cons, h1] at hq; omega
        have k2 := w_fresh hj h2 h3
        obtain ⟨k1, k3⟩ := nx1 y b q hy (by rw [hq0, h4]) hb (noN h6) h5
        refine ⟨_, rfl, .inr ⟨rfl, ⟨?_, hw⟩, ht, ?_⟩⟩
        · dsimp only
          split
          · exact fresh_G h2 hb hq0
          · exact k1
        · dsimp only
          rw [sumW_cons]
          dsimp only
          split <;> omega
    | on k =>
      obtain ⟨h1, z, h2, h3, h4⟩ := ok
      rw [h2] at hn
      have an : atI b k = some z := hn
      have k2 := w_fresh hj h3 (.inr h4)
      dsimp only
      rw [an]
      refine ⟨_, rfl, .inr ⟨rfl, ⟨fresh_G h3 hb (by rw [hq, h1]), hw⟩, ht, ?_⟩⟩
      dsimp only
      rw [sumW_cons]
      dsimp only
      omega
    | turn =>
      obtain ⟨y, hy, h1, h2⟩ := ok
      by_cases h : t < 1
      · exact ⟨_, if_pos h, .inl ⟨_, rfl⟩⟩
      · obtain ⟨r', h5⟩ := nxt hy
        have k1 : G A B ((j : Int) + 1) b q := ⟨j + 1, r', y, rfl, h5, by rw [hq, h1], hb, noN h2⟩
        have k2 := w_le (A := A) ((j : Int) + 1)
        refine ⟨_, if_neg h, .inr ⟨rfl, ⟨k1, hw⟩, by dsimp only; omega, ?_⟩⟩
        dsimp only
        rw [sumW_cons]
        dsimp only
        have e : t.toNat = (t - 1).toNat + 1 := by omega
        rw [e, Nat.succ_mul (t - 1).toNat]
        omega
    | call c =>
      obtain ⟨h1, h0, h0', y, hy, h2, h3, h4⟩ := ok
      cases q with
      | nil => simp at hq; omega
      | cons n q =>
        have hqy : ∀ m : Int, (m :: q).length = y.h := fun m => by rw [h2, ← hq]; rfl
        dsimp only
        by_cases h : t < 1
        · exact ⟨_, if_pos h, .inl ⟨_, rfl⟩⟩
        · have e : t.toNat = (t - 1).toNat + 1 := by omega
          have k2 := w_le (A := A) ((j : Int) + 1)
          rw [if_neg h]
          unfold enter
          split
          · refine ⟨_, rfl, ?_⟩
            unfold MS.faulted
            dsimp only
            rcases fault_top g (n := 102) (q := q) hj hb hw with ⟨f1, f2, f3⟩ | h
            · refine .inr ⟨f1, f2, by omega, ?_⟩
              rw [e, Nat.succ_mul (t - 1).toNat]
              omega
            · exact .inl h
          · obtain ⟨z, hz, hfz⟩ := g.beg c h0 h0'
            rw [hz]
            have kz := w_le (A := A) z
            have kw : ∀ m, G A B ((j : Int) + 1) b (m :: q) ∧ w A ((j : Int) + 1) < w A (j : Int) := fun m => nx1 y b (m :: q) hy (hqy m) hb (noN h4) h3
            refine ⟨_, rfl, .inr ⟨rfl, ⟨?_, ?_⟩, by dsimp only; omega, ?_⟩⟩
            · refine fresh_G hfz ?_ rfl
              show (n :: List.replicate (C.boxes - 1).toNat 0).length = B
              rw [List.length_cons, List.length_replicate, g.boxes]
              have := g.b1
              omega
            · intro f' hf'
              rcases List.mem_cons.mp hf' with rfl | hf'
              · exact ⟨j, c, x, rfl, hj, hb, fun m => (kw m).1⟩
              · exact hw f' hf'
            · dsimp only
              rw [sumW_cons, sumW_cons]
              dsimp only
              have := (kw 0).2
              show _ * _ + (w A z + _) < _
              rw [e, Nat.succ_mul (t - 1).toNat]
              omega
    | back =>
      have h1 : 1 ≤ x.h := ok
      cases q with
      | nil => simp at hq; omega
      | cons n q =>
        dsimp only
        cases fs with
        | nil => exact ⟨_, rfl, .inl ⟨_, rfl⟩⟩
        | cons f' fs =>
          obtain ⟨_, _, _, _, _, _, hG⟩ := hw f' List.mem_cons_self
          refine ⟨_, rfl, .inr ⟨rfl, ⟨hG n, fun a ha => hw a (List.mem_cons_of_mem _ ha)⟩, ht, ?_⟩⟩
          dsimp only
          rw [sumW_cons, sumW_cons]
          dsimp only
          omega
    | raise =>
      have h1 : 1 ≤ x.h := ok
      cases q with
      | nil => simp at hq; omega
      | cons n q =>
        refine ⟨_, rfl, ?_⟩
        unfold MS.faulted
        dsimp only
        rcases fault_top g (n := n) (q := q) hj hb hw with ⟨f1, f2, f3⟩ | h
        · exact .inr ⟨f1, f2, ht, by omega⟩
        · exact .inl h
theorem ends (g : Good A B nf total C) : ∀ (m : Nat) (s : MS), s.out = none → FsOk A B s.fs → 0 ≤ s.turns → s.turns.toNat * (2 * A.length + 2) + sumW A s.fs ≤ m → Ends C (m + 1) s := by
  intro m
  induction m with
  | zero =>
    intro s ho hf ht hm
    obtain ⟨s', h1, h2⟩ := one g ho hf ht
    rcases h2 with ⟨o, h2⟩ | ⟨_, _, _, h2⟩
    · exact Ends.step ho h1 (Ends.now h2)
    · omega
  | succ m ih =>
    intro s ho hf ht hm
    obtain ⟨s', h1, h2⟩ := one g ho hf ht
    rcases h2 with ⟨o, h2⟩ | ⟨h2, h3, h4, h5⟩
    · exact (Ends.step ho h1 (Ends.now h2)).mono (by omega)
    · exact Ends.step ho h1 (ih s' h2 h3 h4 (by omega))
end
end K14

/-! K14b: k14's code, row by row with its heights (own work). -/
namespace K14
open PySem L2 U MM K05
def opOf (c : Int) : Op4 := if c % 4 = 0 then .add else if c % 4 = 1 then .sub else if c % 4 = 2 then .less else .share
@[reducible] def fr (h : Nat) : An := ⟨h, false, .no⟩
@[reducible] def li (h : Nat) : An := ⟨h, true, .no⟩
def grpA (c near far : Int) (B many : Nat) : List Rx :=
  if c % 13 = 0 then [(.put (c / 78 % 9 - 3), fr 0), (.say, fr 1)]
  else if c % 13 = 1 then [(.get (c / 13 % B), fr 0), (.say, fr 1)]
  else if c % 13 = 2 then [(.get (c / 13 % B), fr 0), (.put (c / 78 % 9 - 3), fr 1), (.rek (opOf (c / 702)), fr 2), (.set (c / 13 % B), fr 1)]
  else if c % 13 = 3 then [(.get (c / 13 % B), fr 0), (.nought near, fr 1)]
  else if c % 13 = 4 then [(.go near, fr 0)]
  else if c % 13 = 5 then [(.put near, fr 0), (.set ((B : Int) - 1), ⟨1, false, .top near⟩), (.on ((B : Int) - 1), ⟨0, false, .box ((B : Int) - 1) near⟩)]
  else if c % 13 = 6 then [(.turn, fr 0), (.go far, li 0)]
  else if c % 13 = 7 then [(.turn, fr 0), (.get (c / 13 % B), li 0), (.nought far, li 1)]
  else if c % 13 = 8 then [(.put (c / 78 % 9 - 3), fr 0), (.get (c / 13 % B), fr 1), (.rek .add, fr 2), (.call (c / 702 % many), fr 1), (.set ((c / 13 % B + (c / 78 % 9 - 3)) % B), fr 1)]
  else if c % 13 = 9 then [(.put (c / 78 % 9 - 3), fr 0), (.get (c / 13 % B), fr 1), (.call (c / 702 % many), fr 2), (.rek .add, fr 2), (.set ((c / 13 % B + (c / 78 % 9 - 3)) % B), fr 1)]
  else if c % 13 = 10 then [(.get (c / 13 % B), fr 0), (.raise, fr 1)]
  else if c % 13 = 11 then [(.put (c / 78 % 9 - 3), fr 0), (.get (c / 13 % B), fr 1), (.rek .share, fr 2), (.say, fr 1)]
  else [(.get (c / 13 % B), fr 0), (.put (c / 78 % 9 - 3), fr 1), (.rek .less, fr 2), (.nought near, fr 1)]
theorem kd13 (c : Int) : c % 13 = 0 ∨ c % 13 = 1 ∨ c % 13 = 2 ∨ c % 13 = 3 ∨ c % 13 = 4 ∨ c % 13 = 5 ∨ c % 13 = 6 ∨ c % 13 = 7 ∨ c % 13 = 8 ∨ c % 13 = 9 ∨ c % 13 = 10 ∨ c % 13 = 11 ∨ c % 13 = 12 := by omega
def szA (c : Int) : Nat := (grpA c 0 0 1 1).length
theorem grpA_len (c near far : Int) (B many : Nat) : (grpA c near far B many).length = szA c := by
  rcases kd13 c with e | e | e | e | e | e | e | e | e | e | e | e | e <;> (unfold szA grpA; rw [e]; rfl)
theorem szA_le (c : Int) : szA c ≤ 5 := by
  rcases kd13 c with e | e | e | e | e | e | e | e | e | e | e | e | e <;> (unfold szA grpA; rw [e]; exact Nat.le_of_ble_eq_true rfl)
theorem szA_pos (c : Int) : 1 ≤ szA c := by
  rcases kd13 c with e | e | e | e | e | e | e | e | e | e | e | e | e <;> (unfold szA grpA; rw [e]; exact Nat.le_of_ble_eq_true rfl)
def nx (l : List Rx) (a : Option An) : Option An := match l with
  | [] => a
  | y :: _ => some y.2
def WfL (Fr : Int → Prop) (B nf : Nat) : Nat → List Rx → Option An → Prop
  | _, [], _ => True
  | p, q :: l, a => RowOk Fr B nf p q.1 q.2 (nx l a) ∧ WfL Fr B nf (p + 1) l a
section
variable {Fr : Int → Prop} {B nf : Nat}
theorem wfl_app : ∀ (l1 : List Rx) (l2 : List Rx) (p : Nat) (a : Option An), WfL Fr B nf p l1 (nx l2 a) → WfL Fr B nf (p + l1.length) l2 a → WfL Fr B nf p (l1 ++ l2) a
  | [], l2, p, a, _, h => by simpa using h
  | q :: l1, l2, p, a, h1, h2 => by
    obtain ⟨k1, k2⟩ := h1
    refine ⟨?_, wfl_app l1 l2 (p + 1) a k2 (by rw [List.length_cons] at h2; rwa [show p + 1 + l1.length = p + (l1.length + 1) by omega])⟩
    have e : nx (l1 ++ l2) a = nx l1 (nx l2 a) := by cases l1 <;> rfl
    show RowOk Fr B nf p q.1 q.2 (nx (l1 ++ l2) a)
    rw [e]
    exact k1
theorem wfl_at : ∀ (L : List Rx) (p : Nat) (a : Option An), WfL Fr B nf p L a → ∀ (i : Nat) (r : Rw) (x : An), L[i]? = some (r, x) → RowOk Fr B nf (p + i) r x (match L[i + 1]? with | some y => some y.2 | none => a)
  | [], _, _, _, i, r, x, e => by simp at e
  | q :: L, p, a, h, 0, r, x, e => by
    have e' : q = (r, x) := by simpa using e
    subst e'
    have h1 := h.1
    have e2 : nx L a = (match ((r, x) :: L)[0 + 1]? with | some y => some y.2 | none => a) := by
      cases L with
      | nil => rfl
      | cons y L => rfl
    rw [e2] at h1
    exact h1
  | q :: L, p, a, h, i + 1, r, x, e => by
    have e' : L[i]? = some (r, x) := by simpa using e
    have z := wfl_at L (p + 1) a h.2 i r x e'
    rw [show p + 1 + i = p + (i + 1) by omega] at z
    have e2 : (q :: L)[i + 1 + 1]? = L[i + 1]? := by simp
    rw [e2]
    exact z
theorem modB (c : Int) (hB : 1 ≤ B) : 0 ≤ c % (B : Int) ∧ c % (B : Int) < B := ⟨Int.emod_nonneg _ (by omega), Int.emod_lt_of_pos _ (by omega)⟩
theorem imp (x : Bool) : (false = true → x = true) := fun h => nomatch h
theorem grp_wf {c near far : Int} {p : Nat} (hB : 1 ≤ B) (hf : 1 ≤ nf) (h1 : Fr near) (h2 : Fr far) (h3 : ((p + szA c : Nat) : Int) ≤ near) : WfL Fr B nf p (grpA c near far B nf) (some (fr 0)) := by
  obtain ⟨k0, k1⟩ := modB (c / 13) hB
  obtain ⟨m0, m1⟩ := modB (c / 13 % B + (c / 78 % 9 - 3)) hB
  obtain ⟨f0, f1⟩ := modB (B := nf) (c / 702) hf
  have hb0 : (0 : Int) ≤ (B : Int) - 1 := by omega
  have hb1 : (B : Int) - 1 < (B : Int) := by omega
  rw [← grpA_len c near far B nf] at h3
  rcases kd13 c with e | e | e | e | e | e | e | e | e | e | e | e | e
  · have eg : grpA c near far B nf = [(.put (c / 78 % 9 - 3), fr 0), (.say, fr 1)] := by unfold grpA; rw [e]; rfl
    rw [eg] at h3 ⊢
    exact ⟨⟨_, rfl, rfl, fun h => h, .inl rfl⟩, ⟨_, rfl, rfl, fun h => h, rfl⟩, True.intro⟩
  · have eg : grpA c near far B nf = [(.get (c / 13 % B), fr 0), (.say, fr 1)] := by unfold grpA; rw [e]; rfl
    rw [eg] at h3 ⊢
    exact ⟨⟨k0, k1, _, rfl, rfl, fun h => h, rfl⟩, ⟨_, rfl, rfl, fun h => h, rfl⟩, True.intro⟩
  · have eg : grpA c near far B nf = [(.get (c / 13 % B), fr 0), (.put (c / 78 % 9 - 3), fr 1), (.rek (opOf (c / 702)), fr 2), (.set (c / 13 % B), fr 1)] := by unfold grpA; rw [e]; rfl
    rw [eg] at h3 ⊢
    exact ⟨⟨k0, k1, _, rfl, rfl, fun h => h, rfl⟩, ⟨_, rfl, rfl, fun h => h, .inl rfl⟩, ⟨_, rfl, rfl, Nat.le_refl 1, fun h => h, rfl⟩, ⟨k0, k1, _, rfl, rfl, fun h => h, .inl rfl⟩, True.intro⟩
  · have eg : grpA c near far B nf = [(.get (c / 13 % B), fr 0), (.nought near, fr 1)] := by unfold grpA; rw [e]; rfl
    rw [eg] at h3 ⊢
    exact ⟨⟨k0, k1, _, rfl, rfl, fun h => h, rfl⟩, ⟨rfl, h1, .inr (by simp only [List.length_cons, List.length_nil] at h3; omega), _, rfl, rfl, fun h => h, rfl⟩, True.intro⟩
  · have eg : grpA c near far B nf = [(.go near, fr 0)] := by unfold grpA; rw [e]; rfl
    rw [eg] at h3 ⊢
    exact ⟨⟨rfl, h1, .inr (by simp only [List.length_cons, List.length_nil] at h3; omega)⟩, True.intro⟩
  · have eg : grpA c near far B nf = [(.put near, fr 0), (.set ((B : Int) - 1), ⟨1, false, .top near⟩), (.on ((B : Int) - 1), ⟨0, false, .box ((B : Int) - 1) near⟩)] := by unfold grpA; rw [e]; rfl
    rw [eg] at h3 ⊢
    exact ⟨⟨_, rfl, rfl, fun h => h, .inr rfl⟩, ⟨hb0, hb1, _, rfl, rfl, fun h => h, .inr ⟨_, rfl, rfl⟩⟩, ⟨rfl, _, rfl, h1, by simp only [List.length_cons, List.length_nil] at h3; omega⟩, True.intro⟩
  · have eg : grpA c near far B nf = [(.turn, fr 0), (.go far, li 0)] := by unfold grpA; rw [e]; rfl
    rw [eg] at h3 ⊢
    exact ⟨⟨_, rfl, rfl, rfl⟩, ⟨rfl, h2, .inl rfl⟩, True.intro⟩
  · have eg : grpA c near far B nf = [(.turn, fr 0), (.get (c / 13 % B), li 0), (.nought far, li 1)] := by unfold grpA; rw [e]; rfl
    rw [eg] at h3 ⊢
    exact ⟨⟨_, rfl, rfl, rfl⟩, ⟨k0, k1, _, rfl, rfl, fun h => h, rfl⟩, ⟨rfl, h2, .inl rfl, _, rfl, rfl, (fun h => nomatch h), rfl⟩, True.intro⟩
  · have eg : grpA c near far B nf = [(.put (c / 78 % 9 - 3), fr 0), (.get (c / 13 % B), fr 1), (.rek .add, fr 2), (.call (c / 702 % nf), fr 1), (.set ((c / 13 % B + (c / 78 % 9 - 3)) % B), fr 1)] := by unfold grpA; rw [e]; rfl
    rw [eg] at h3 ⊢
    exact ⟨⟨_, rfl, rfl, fun h => h, .inl rfl⟩, ⟨k0, k1, _, rfl, rfl, fun h => h, rfl⟩, ⟨_, rfl, rfl, Nat.le_refl 1, fun h => h, rfl⟩, ⟨Nat.le_refl 1, f0, f1, _, rfl, rfl, fun h => h, rfl⟩, ⟨m0, m1, _, rfl, rfl, fun h => h, .inl rfl⟩, True.intro⟩
  · have eg : grpA c near far B nf = [(.put (c / 78 % 9 - 3), fr 0), (.get (c / 13 % B), fr 1), (.call (c / 702 % nf), fr 2), (.rek .add, fr 2), (.set ((c / 13 % B + (c / 78 % 9 - 3)) % B), fr 1)] := by unfold grpA; rw [e]; rfl
    rw [eg] at h3 ⊢
    exact ⟨⟨_, rfl, rfl, fun h => h, .inl rfl⟩, ⟨k0, k1, _, rfl, rfl, fun h => h, rfl⟩, ⟨Nat.le_succ 1, f0, f1, _, rfl, rfl, fun h => h, rfl⟩, ⟨_, rfl, rfl, Nat.le_refl 1, fun h => h, rfl⟩, ⟨m0, m1, _, rfl, rfl, fun h => h, .inl rfl⟩, True.intro⟩
  · have eg : grpA c near far B nf = [(.get (c / 13 % B), fr 0), (.raise, fr 1)] := by unfold grpA; rw [e]; rfl
    rw [eg] at h3 ⊢
    exact ⟨⟨k0, k1, _, rfl, rfl, fun h => h, rfl⟩, Nat.le_refl 1, True.intro⟩
  · have eg : grpA c near far B nf = [(.put (c / 78 % 9 - 3), fr 0), (.get (c / 13 % B), fr 1), (.rek .share, fr 2), (.say, fr 1)] := by unfold grpA; rw [e]; rfl
    rw [eg] at h3 ⊢
    exact ⟨⟨_, rfl, rfl, fun h => h, .inl rfl⟩, ⟨k0, k1, _, rfl, rfl, fun h => h, rfl⟩, ⟨_, rfl, rfl, Nat.le_refl 1, fun h => h, rfl⟩, ⟨_, rfl, rfl, fun h => h, rfl⟩, True.intro⟩
  · have eg : grpA c near far B nf = [(.get (c / 13 % B), fr 0), (.put (c / 78 % 9 - 3), fr 1), (.rek .less, fr 2), (.nought near, fr 1)] := by unfold grpA; rw [e]; rfl
    rw [eg] at h3 ⊢
    exact ⟨⟨k0, k1, _, rfl, rfl, fun h => h, rfl⟩, ⟨_, rfl, rfl, fun h => h, .inl rfl⟩, ⟨_, rfl, rfl, Nat.le_refl 1, fun h => h, rfl⟩, ⟨rfl, h1, .inr (by simp only [List.length_cons, List.length_nil] at h3; omega), _, rfl, rfl, fun h => h, rfl⟩, True.intro⟩
/-- no call stands last -/
def NoLast (l : List Rx) : Prop := ∀ (j : Nat) (f : Int) (x : An), l[j]? = some (.call f, x) → j + 1 < l.length
theorem grp_last (c near far : Int) (B nf : Nat) : NoLast (grpA c near far B nf) := by
  intro j f x h
  rcases kd13 c with e | e | e | e | e | e | e | e | e | e | e | e | e
  · have eg : grpA c near far B nf = [(.put (c / 78 % 9 - 3), fr 0), (.say, fr 1)] := by unfold grpA; rw [e]; rfl
    rw [eg] at h ⊢
    rcases j with _ | _ | _ | _ | _ | j <;> first | (simp at h; done) | (simp; done) | (exfalso; simp at h)
  · have eg : grpA c near far B nf = [(.get (c / 13 % B), fr 0), (.say, fr 1)] := by unfold grpA; rw [e]; rfl
    rw [eg] at h ⊢
    rcases j with _ | _ | _ | _ | _ | j <;> first | (simp at h; done) | (simp; done) | (exfalso; simp at h)
  · have eg : grpA c near far B nf = [(.get (c / 13 % B), fr 0), (.put (c / 78 % 9 - 3), fr 1), (.rek (opOf (c / 702)), fr 2), (.set (c / 13 % B), fr 1)] := by unfold grpA; rw [e]; rfl
    rw [eg] at h ⊢
    rcases j with _ | _ | _ | _ | _ | j <;> first | (simp at h; done) | (simp; done) | (exfalso; simp at h)
  · have eg : grpA c near far B nf = [(.get (c / 13 % B), fr 0), (.nought near, fr 1)] := by unfold grpA; rw [e]; rfl
    rw [eg] at h ⊢
    rcases j with _ | _ | _ | _ | _ | j <;> first | (simp at h; done) | (simp; done) | (exfalso; simp at h)
  · have eg : grpA c near far B nf = [(.go near, fr 0)] := by unfold grpA; rw [e]; rfl
    rw [eg] at h ⊢
    rcases j with _ | _ | _ | _ | _ | j <;> first | (simp at h; done) | (simp; done) | (exfalso; simp at h)
  · have eg : grpA c near far B nf = [(.put near, fr 0), (.set ((B : Int) - 1), ⟨1, false, .top near⟩), (.on ((B : Int) - 1), ⟨0, false, .box ((B : Int) - 1) near⟩)] := by unfold grpA; rw [e]; rfl
    rw [eg] at h ⊢
    rcases j with _ | _ | _ | _ | _ | j <;> first | (simp at h; done) | (simp; done) | (exfalso; simp at h)
  · have eg : grpA c near far B nf = [(.turn, fr 0), (.go far, li 0)] := by unfold grpA; rw [e]; rfl
    rw [eg] at h ⊢
    rcases j with _ | _ | _ | _ | _ | j <;> first | (simp at h; done) | (simp; done) | (exfalso; simp at h)
  · have eg : grpA c near far B nf = [(.turn, fr 0), (.get (c / 13 % B), li 0), (.nought far, li 1)] := by unfold grpA; rw [e]; rfl
    rw [eg] at h ⊢
    rcases j with _ | _ | _ | _ | _ | j <;> first | (simp at h; done) | (simp; done) | (exfalso; simp at h)
  · have eg : grpA c near far B nf = [(.put (c / 78 % 9 - 3), fr 0), (.get (c / 13 % B), fr 1), (.rek .add, fr 2), (.call (c / 702 % nf), fr 1), (.set ((c / 13 % B + (c / 78 % 9 - 3)) % B), fr 1)] := by unfold grpA; rw [e]; rfl
    rw [eg] at h ⊢
    rcases j with _ | _ | _ | _ | _ | j <;> first | (simp at h; done) | (simp; done) | (exfalso; simp at h)
  · have eg : grpA c near far B nf = [(.put (c / 78 % 9 - 3), fr 0), (.get (c / 13 % B), fr 1), (.call (c / 702 % nf), fr 2), (.rek .add, fr 2), (.set ((c / 13 % B + (c / 78 % 9 - 3)) % B), fr 1)] := by unfold grpA; rw [e]; rfl
    rw [eg] at h ⊢
    rcases j with _ | _ | _ | _ | _ | j <;> first | (simp at h; done) | (simp; done) | (exfalso; simp at h)
  · have eg : grpA c near far B nf = [(.get (c / 13 % B), fr 0), (.raise, fr 1)] := by unfold grpA; rw [e]; rfl
    rw [eg] at h ⊢
    rcases j with _ | _ | _ | _ | _ | j <;> first | (simp at h; done) | (simp; done) | (exfalso; simp at h)
  · have eg : grpA c near far B nf = [(.put (c / 78 % 9 - 3), fr 0), (.get (c / 13 % B), fr 1), (.rek .share, fr 2), (.say, fr 1)] := by unfold grpA; rw [e]; rfl
    rw [eg] at h ⊢
    rcases j with _ | _ | _ | _ | _ | j <;> first | (simp at h; done) | (simp; done) | (exfalso; simp at h)
  · have eg : grpA c near far B nf = [(.get (c / 13 % B), fr 0), (.put (c / 78 % 9 - 3), fr 1), (.rek .less, fr 2), (.nought near, fr 1)] := by unfold grpA; rw [e]; rfl
    rw [eg] at h ⊢
    rcases j with _ | _ | _ | _ | _ | j <;> first | (simp at h; done) | (simp; done) | (exfalso; simp at h)
theorem last_app {l1 l2 : List Rx} (h1 : NoLast l1) (h2 : NoLast l2) : NoLast (l1 ++ l2) := by
  intro j f x h
  rw [List.length_append]
  by_cases c : j < l1.length
  · rw [List.getElem?_append_left c] at h
    have := h1 j f x h
    omega
  · rw [List.getElem?_append_right (by omega)] at h
    have := h2 _ f x h
    omega
theorem grp_head (c near far : Int) (B nf : Nat) : ∃ r l, grpA c near far B nf = (r, fr 0) :: l := by
  rcases kd13 c with e | e | e | e | e | e | e | e | e | e | e | e | e <;> (unfold grpA; rw [e]; exact ⟨_, _, rfl⟩)
end
end K14

/-! K14p: where k14's functions and groups stand (own work). -/
namespace K14
open PySem PySem.Spec PyProof.Rows L2 U MM
/-- the place of the i-th group of a function at st -/
def pAt (st : Nat) (cs : List Int) (i : Nat) : Nat := st + ((cs.take i).map szA).sum
theorem pAt_zero (st : Nat) (cs : List Int) : pAt st cs 0 = st := by
  unfold pAt
  rw [List.take_zero]
  rfl
theorem pAt_succ {st : Nat} {cs : List Int} {i : Nat} {c : Int} (h : cs[i]? = some c) : pAt st cs (i + 1) = pAt st cs i + szA c := by
  unfold pAt
  rw [take_succ h, List.map_append, List.sum_append]
  simp
  omega
theorem pAt_le (st : Nat) (cs : List Int) (i : Nat) : pAt st cs i ≤ st + 5 * cs.length := by
  have : ∀ l : List Int, (l.map szA).sum ≤ 5 * l.length := by
    intro l
    induction l with
    | nil => simp
    | cons a r ih => simp only [List.map_cons, List.sum_cons, List.length_cons]; have := szA_le a; omega
  have h := this (cs.take i)
  rw [List.length_take] at h
  unfold pAt
  omega
theorem pAt_mono {st : Nat} {cs : List Int} {i : Nat} : ∀ {j : Nat}, i ≤ j → j ≤ cs.length → pAt st cs i ≤ pAt st cs j
  | 0, h, _ => by rw [Nat.le_zero.mp h]; exact Nat.le_refl _
  | j + 1, h, hj => by
    by_cases e : i = j + 1
    · rw [e]; exact Nat.le_refl _
    · have h1 := pAt_mono (st := st) (cs := cs) (i := i) (j := j) (by omega) (by omega)
      rw [pAt_succ (List.getElem?_eq_getElem (show j < cs.length by omega))]
      omega
def row (st : Nat) (cs : List Int) (n : Nat) : List Nat := (List.range n).map (pAt st cs)
theorem row_succ (st : Nat) (cs : List Int) (n : Nat) : row st cs (n + 1) = row st cs n ++ [pAt st cs n] := by
  unfold row
  rw [List.range_succ, List.map_append]
  rfl
theorem row_len (st : Nat) (cs : List Int) (n : Nat) : (row st cs n).length = n := by unfold row; rw [List.length_map, List.length_range]
open K04 (kO)
/-- where the p-th function laid out begins -/
def stp (gs : List (List Int)) (rot lead : Nat) : Nat → Nat
  | 0 => lead
  | p + 1 => pAt (stp gs rot lead p) (gs.getD (kO gs.length rot p) []) (gs.getD (kO gs.length rot p) []).length + 2
def gat (gs : List (List Int)) (rot p : Nat) : List Int := gs.getD (kO gs.length rot p) []
theorem stp_succ (gs : List (List Int)) (rot lead p : Nat) : stp gs rot lead (p + 1) = pAt (stp gs rot lead p) (gat gs rot p) (gat gs rot p).length + 2 := rfl
theorem stp_le {gs : List (List Int)} {rot lead : Nat} (hg : ∀ g ∈ gs, g.length ≤ 24) (hl : lead ≤ 4) : ∀ p, p ≤ 4 → stp gs rot lead p ≤ 4 + 122 * p
  | 0, _ => by show lead ≤ _; omega
  | p + 1, h => by
    have h1 := stp_le (rot := rot) hg hl p (by omega)
    have h2 := pAt_le (stp gs rot lead p) (gat gs rot p) (gat gs rot p).length
    have h3 : (gat gs rot p).length ≤ 24 := by
      unfold gat
      rw [List.getD_eq_getElem?_getD]
      cases h : gs[kO gs.length rot p]? with
      | none => exact Nat.zero_le _
      | some g => exact hg g (List.mem_of_getElem? h)
    rw [stp_succ]
    omega
/-- the first n of the functions laid out have their places -/
def PlOk (gs : List (List Int)) (rot lead n : Nat) (pls : List (List Nat)) : Prop :=
  pls.length = gs.length ∧ ∀ p, p < gs.length → pls[kO gs.length rot p]? = some (if p < n then row (stp gs rot lead p) (gat gs rot p) ((gat gs rot p).length + 1) else [])
def ent (as : List Addr) (pls : List (List Nat)) : List (Addr × HO) := List.zipWith (fun a l => (a, HO.lst (l.map fun z : Nat => V.int (z : Nat)))) as pls
theorem ent_at {as : List Addr} {pls : List (List Nat)} {k : Nat} {a : Addr} {l : List Nat} (h1 : as[k]? = some a) (h2 : pls[k]? = some l) : (ent as pls)[k]? = some (a, .lst (l.map fun z : Nat => V.int (z : Nat))) := by
  unfold ent
  rw [List.getElem?_zipWith, h1, h2]
theorem ent_set {k : Nat} {a : Addr} {l : List Nat} : ∀ {as : List Addr} {pls : List (List Nat)} (k : Nat), as[k]? = some a → (ent as pls).set k (a, .lst (l.map fun z : Nat => V.int (z : Nat))) = ent as (pls.set k l)
  | [], _, _, h => by simp at h
  | _ :: _, [], k, _ => by simp [ent]
  | b :: as, q :: pls, 0, h => by
    have e : b = a := by simpa using h
    subst e
    rfl
  | b :: as, q :: pls, k + 1, h => by
    have h' : as[k]? = some a := by simpa using h
    show _ :: (ent as pls).set k _ = _ :: ent as (pls.set k l)
    rw [ent_set (k := k) (l := l) k h']
theorem ent_nil : ∀ as : List Addr, ent as (List.replicate as.length []) = as.map fun a => (a, .lst [])
  | [] => rfl
  | a :: as => by
    show _ :: ent as (List.replicate as.length []) = _ :: _
    rw [ent_nil as]
    rfl
end K14

/-! K14q: k14's code, put together (own work). -/
namespace K14
open PySem PySem.Spec PyProof.Rows L2 U MM
open K04 (kO)
def endA (e : Int) : List Rx := [(.get e, fr 0), (.back, fr 1)]
def headA (lead : Nat) : List Rx := ([(.put 5, fr 0), (.back, fr 1), (.put 6, fr 0), (.raise, fr 1)] : List Rx).take lead
section
variable {gs : List (List Int)} {rot lead B n : Nat} {ev : List Nat} {A : List Rx}
def WfE (ev : List Nat) (B many : Nat) (A : List Rx) (a : Option An) : Prop := ∀ Fr : Int → Prop, (∀ z ∈ ev, Fr (z : Nat)) → WfL Fr B many 0 A a
structure CI (gs : List (List Int)) (rot lead B : Nat) (ev : List Nat) (n : Nat) (A : List Rx) : Prop where
  len : A.length = stp gs rot lead n
  wf : ∀ a, WfE ev B gs.length A a
  frs : ∀ p, p < n → ∀ i, i ≤ (gat gs rot p).length → ∃ r, A[pAt (stp gs rot lead p) (gat gs rot p) i]? = some (r, fr 0)
  nl : NoLast A
/-- within the function laid out as the n-th, ahead of its i-th group -/
structure CJ (gs : List (List Int)) (rot lead B : Nat) (ev : List Nat) (n i : Nat) (A : List Rx) : Prop where
  len : A.length = pAt (stp gs rot lead n) (gat gs rot n) i
  wf : WfE ev B gs.length A (some (fr 0))
  frs : ∀ p, p < n → ∀ i, i ≤ (gat gs rot p).length → ∃ r, A[pAt (stp gs rot lead p) (gat gs rot p) i]? = some (r, fr 0)
  fri : ∀ j, j < i → ∃ r, A[pAt (stp gs rot lead n) (gat gs rot n) j]? = some (r, fr 0)
  nl : NoLast A
theorem CI.start (h : CI gs rot lead B ev n A) : CJ gs rot lead B ev n 0 A := ⟨by rw [pAt_zero]; exact h.len, h.wf _, h.frs, fun j hj => absurd hj (Nat.not_lt_zero j), h.nl⟩
theorem old {A l : List Rx} {z : Nat} (h : ∃ r, A[z]? = some (r, fr 0)) : ∃ r, (A ++ l)[z]? = some (r, fr 0) := by
  obtain ⟨r, h⟩ := h
  exact ⟨r, by rw [List.getElem?_append_left (List.getElem?_eq_some_iff.mp h).1]; exact h⟩
theorem CJ.grp {i j : Nat} {c : Int} {z : Nat} (h : CJ gs rot lead B ev n i A) (hB : 1 ≤ B) (hm : 1 ≤ gs.length) (hc : (gat gs rot n)[i]? = some c) (hj : i < j) (hj2 : j ≤ (gat gs rot n).length) (hn : pAt (stp gs rot lead n) (gat gs rot n) j ∈ ev) (hz : z ∈ ev) :
    CJ gs rot lead B ev n (i + 1) (A ++ grpA c (pAt (stp gs rot lead n) (gat gs rot n) j : Nat) (z : Nat) B gs.length) := by
  obtain ⟨r0, l0, eh⟩ := grp_head c (pAt (stp gs rot lead n) (gat gs rot n) j : Nat) (z : Nat) B gs.length
  refine ⟨?_, fun Fr hF => ?_, fun p hp k hk => old (h.frs p hp k hk), fun k hk => ?_, last_app h.nl (grp_last _ _ _ _ _)⟩
  · rw [List.length_append, h.len, grpA_len, pAt_succ hc]
  · refine wfl_app _ _ 0 _ ?_ ?_
    · rw [show nx (grpA c (pAt (stp gs rot lead n) (gat gs rot n) j : Nat) (z : Nat) B gs.length) (some (fr 0)) = some (fr 0) by rw [eh]; rfl]
      exact h.wf Fr hF
    · rw [Nat.zero_add, h.len]
      refine grp_wf hB hm (hF _ hn) (hF _ hz) ?_
      rw [← pAt_succ hc]
      exact Int.ofNat_le.mpr (pAt_mono hj hj2)
  · by_cases e : k = i
    · subst e
      refine ⟨r0, ?_⟩
      rw [eh, List.getElem?_append_right (by rw [h.len]; exact Nat.le_refl _), h.len, Nat.sub_self]
      rfl
    · exact old (h.fri k (by omega))
theorem CJ.end_ {e : Int} (h : CJ gs rot lead B ev n (gat gs rot n).length A) (e0 : 0 ≤ e) (e1 : e < B) : CI gs rot lead B ev (n + 1) (A ++ endA e) := by
  refine ⟨?_, fun a Fr hF => ?_, fun p hp k hk => ?_, last_app h.nl (fun j f x hh => ?_)⟩
  · rw [List.length_append, h.len, stp_succ]
    rfl
  · refine wfl_app _ _ 0 _ (h.wf Fr hF) ?_
    exact ⟨⟨e0, e1, _, rfl, rfl, fun h => h, rfl⟩, Nat.le_refl 1, True.intro⟩
  · by_cases ep : p = n
    · subst ep
      by_cases ek : k = (gat gs rot p).length
      · subst ek
        refine ⟨.get e, ?_⟩
        rw [List.getElem?_append_right (by rw [h.len]; exact Nat.le_refl _), h.len, Nat.sub_self]
        rfl
      · exact old (h.fri k (by omega))
    · exact old (h.frs p (by omega) k hk)
  · rcases j with _ | _ | j
    · cases hh
    · cases hh
    · simp [endA] at hh
theorem CI.init (x : Nat) (hx : x ≤ 2) (hl : lead = 2 * x) : CI gs rot lead B ev 0 (headA lead) := by
  have hx3 : x = 0 ∨ x = 1 ∨ x = 2 := by omega
  rcases hx3 with rfl | rfl | rfl <;> subst hl
  · exact ⟨rfl, fun _ _ _ => True.intro, fun p hp => absurd hp (Nat.not_lt_zero p), fun j f x h => by simp [headA] at h⟩
  · refine ⟨rfl, fun _ _ _ => ⟨⟨_, rfl, rfl, fun h => h, .inl rfl⟩, Nat.le_refl 1, True.intro⟩, fun p hp => absurd hp (Nat.not_lt_zero p), fun j f x h => ?_⟩
    rcases j with _ | _ | j
    · cases h
    · cases h
    · simp [headA] at h
  · refine ⟨rfl, fun _ _ _ => ⟨⟨_, rfl, rfl, fun h => h, .inl rfl⟩, Nat.le_refl 1, ⟨_, rfl, rfl, fun h => h, .inl rfl⟩, Nat.le_refl 1, True.intro⟩, fun p hp => absurd hp (Nat.not_lt_zero p), fun j f x h => ?_⟩
    rcases j with _ | _ | _ | _ | j
    · cases h
    · cases h
    · cases h
    · cases h
    · simp [headA] at h
end
/-- what is known of the whole code -/
structure CodeFin (ev : List Nat) (B many : Nat) (A : List Rx) : Prop where
  wf : ∀ a, WfE ev B many A a
  frs : ∀ z ∈ ev, ∃ r, A[z]? = some (r, fr 0)
  nl : NoLast A
  len : A.length ≤ 600
  one : 1 ≤ A.length
theorem mem_row {st : Nat} {cs : List Int} {n z : Nat} (h : z ∈ row st cs n) : ∃ i, i < n ∧ z = pAt st cs i := by
  unfold row at h
  obtain ⟨i, hi, e⟩ := List.mem_map.mp h
  exact ⟨i, List.mem_range.mp hi, e.symm⟩
theorem row_mem {st : Nat} {cs : List Int} {n i : Nat} (h : i < n) : pAt st cs i ∈ row st cs n := List.mem_map.mpr ⟨i, List.mem_range.mpr h, rfl⟩
theorem flat_row {gs : List (List Int)} {rot lead : Nat} {pls : List (List Nat)} (h : PlOk gs rot lead gs.length pls) {z : Nat} (hz : z ∈ pls.flatten) : ∃ p, p < gs.length ∧ ∃ i, i ≤ (gat gs rot p).length ∧ z = pAt (stp gs rot lead p) (gat gs rot p) i := by
  obtain ⟨l, hl, hzl⟩ := List.mem_flatten.mp hz
  obtain ⟨k, hk⟩ := List.mem_iff_getElem?.mp hl
  have hk1 : k < gs.length := by rw [← h.1]; exact (List.getElem?_eq_some_iff.mp hk).1
  have h1 := h.2 (K04.inv gs.length rot k) (K04.inv_lt (by omega) _ _)
  rw [K04.kO_inv hk1, hk, if_pos (K04.inv_lt (by omega) _ _)] at h1
  cases h1
  obtain ⟨i, hi, e⟩ := mem_row hzl
  exact ⟨_, K04.inv_lt (by omega) _ _, i, by omega, e⟩
theorem row_flat {gs : List (List Int)} {rot lead : Nat} {pls : List (List Nat)} (h : PlOk gs rot lead gs.length pls) {p i : Nat} (hp : p < gs.length) (hi : i ≤ (gat gs rot p).length) : pAt (stp gs rot lead p) (gat gs rot p) i ∈ pls.flatten := by
  have h1 := h.2 p hp
  rw [if_pos hp] at h1
  exact List.mem_flatten.mpr ⟨_, List.mem_of_getElem? h1, row_mem (by omega)⟩
theorem CI.fin {gs : List (List Int)} {rot lead B : Nat} {pls : List (List Nat)} {A : List Rx} (h : CI gs rot lead B pls.flatten gs.length A) (hp : PlOk gs rot lead gs.length pls) (hg : ∀ g ∈ gs, g.length ≤ 24) (hl : lead ≤ 4) (h1 : 1 ≤ gs.length) (h4 : gs.length ≤ 4) : CodeFin pls.flatten B gs.length A := by
  refine ⟨h.wf, fun z hz => ?_, h.nl, ?_, ?_⟩
  · obtain ⟨p, hp1, i, hi, rfl⟩ := flat_row hp hz
    exact h.frs p hp1 i hi
  · have := stp_le (rot := rot) hg hl gs.length h4
    rw [h.len]
    omega
  · have e : gs.length = (gs.length - 1) + 1 := by omega
    rw [h.len, e, stp_succ]
    omega
end K14

/-! K14r: k14's goals, and the whole (own work). -/
namespace K14
open PySem PySem.Spec PyProof.Rows L2 U MM
@[reducible] def g1 : An := ⟨1, false, .no⟩
structure GOk (ev : List Nat) (B many total : Nat) (GA : List Rx) (fs : List Nat) : Prop where
  wf : ∀ Fr : Int → Prop, (∀ z ∈ ev, Fr (z : Nat)) → ∀ a, WfL Fr B many total GA a
  frs : ∀ z ∈ fs, ∃ (j : Nat) (r : Rw), z = total + j ∧ GA[j]? = some (r, g1)
  nc : ∀ (j : Nat) (f : Int) (x : An), GA[j]? = some (.call f, x) → False
  len : GA.length ≤ 3 * fs.length
def goalA (c : Int) (B : Nat) (z : Int) : List Rx :=
  if c % 3 = 0 then [(.say, g1), (.put (50 + c / 3 % 9), fr 0), (.back, fr 1)] else if c % 3 = 1 then [(.set (c / 3 % B), g1), (.turn, fr 0), (.go z, li 0)] else [(.raise, g1)]
section
variable {ev : List Nat} {B many total : Nat} {GA : List Rx} {fs : List Nat}
theorem GOk.nil : GOk ev B many total [] [] := ⟨fun _ _ _ => True.intro, fun _ h => (by cases h), fun j f x h => (by simp at h), Nat.le_refl _⟩
theorem GOk.more {c : Int} {z : Nat} (h : GOk ev B many total GA fs) (hB : 1 ≤ B) (hz : z ∈ ev) : GOk ev B many total (GA ++ goalA c B (z : Nat)) (fs ++ [total + GA.length]) := by
  obtain ⟨k0, k1⟩ := modB (B := B) (c / 3) hB
  have e3 : c % 3 = 0 ∨ c % 3 = 1 ∨ c % 3 = 2 := by omega
  have key : (∀ Fr : Int → Prop, Fr (z : Nat) → ∀ a p, WfL Fr B many p (goalA c B (z : Nat)) a) ∧ (∃ r l, goalA c B (z : Nat) = (r, g1) :: l) ∧ (∀ (j : Nat) (f : Int) (x : An), (goalA c B (z : Nat))[j]? = some (.call f, x) → False) ∧ (goalA c B (z : Nat)).length ≤ 3 := by
    rcases e3 with e | e | e
    · have eg : goalA c B (z : Nat) = [(.say, g1), (.put (50 + c / 3 % 9), fr 0), (.back, fr 1)] := by unfold goalA; rw [e]; rfl
      rw [eg]
      refine ⟨fun Fr hF a p => ⟨⟨_, rfl, rfl, fun h => h, rfl⟩, ⟨_, rfl, rfl, fun h => h, .inl rfl⟩, Nat.le_refl 1, True.intro⟩, ⟨_, _, rfl⟩, fun j f x hh => ?_, Nat.le_refl 3⟩
      rcases j with _ | _ | _ | j <;> simp at hh
    · have eg : goalA c B (z : Nat) = [(.set (c / 3 % B), g1), (.turn, fr 0), (.go z, li 0)] := by unfold goalA; rw [e]; rfl
      rw [eg]
      refine ⟨fun Fr hF a p => ⟨⟨k0, k1, _, rfl, rfl, fun h => h, .inl rfl⟩, ⟨_, rfl, rfl, rfl⟩, ⟨rfl, hF, .inl rfl⟩, True.intro⟩, ⟨_, _, rfl⟩, fun j f x hh => ?_, Nat.le_refl 3⟩
      rcases j with _ | _ | _ | j <;> simp at hh
    · have eg : goalA c B (z : Nat) = [(.raise, g1)] := by unfold goalA; rw [e]; rfl
      rw [eg]
      refine ⟨fun Fr hF a p => ⟨Nat.le_refl 1, True.intro⟩, ⟨_, _, rfl⟩, fun j f x hh => ?_, Nat.le_of_ble_eq_true rfl⟩
      rcases j with _ | j <;> simp at hh
  obtain ⟨w1, ⟨r0, l0, eh⟩, w3, w4⟩ := key
  refine ⟨fun Fr hF a => wfl_app _ _ _ _ (h.wf Fr hF _) (w1 Fr (hF _ hz) a _), fun y hy => ?_, fun j f x hh => ?_, ?_⟩
  · rcases List.mem_append.mp hy with hy | hy
    · obtain ⟨j, r, e, hj⟩ := h.frs y hy
      exact ⟨j, r, e, by rw [List.getElem?_append_left (List.getElem?_eq_some_iff.mp hj).1]; exact hj⟩
    · rw [List.mem_singleton.mp hy]
      exact ⟨GA.length, r0, rfl, by rw [eh, List.getElem?_append_right (Nat.le_refl _), Nat.sub_self]; rfl⟩
  · by_cases c1 : j < GA.length
    · rw [List.getElem?_append_left c1] at hh
      exact h.nc j f x hh
    · rw [List.getElem?_append_right (by omega)] at hh
      exact w3 _ f x hh
  · have := h.len
    rw [List.length_append, List.length_append]
    show _ ≤ 3 * (_ + 1)
    omega
theorem good {A : List Rx} {C : Cd} (hA : CodeFin ev B many A) (hG : GOk ev B many A.length GA fs) (hr : C.rows = (A ++ GA).map (·.1)) (hb : ∀ f : Int, 0 ≤ f → f < many → ∃ z ∈ ev, atI C.begins f = some ((z : Nat) : Int)) (hs : ∀ t ∈ C.str, (∃ z ∈ fs, t.2.2 = ((z : Nat) : Int)) ∧ t.2.1 ≤ (A.length : Int)) (hx : C.boxes = (B : Int)) (hB : 1 ≤ B) :
    Good (A ++ GA) B many A.length C := by
  have fre : ∀ z ∈ ev, Fresh (A ++ GA) (z : Nat) := fun z hz => by
    obtain ⟨r, h⟩ := old (l := GA) (hA.frs z hz)
    exact ⟨z, r, rfl, h⟩
  refine ⟨hr, fun p r x h => ?_, fun f h0 h1 => ?_, fun t ht => ?_, fun p f x h => ?_, hx, hB⟩
  · have hw : WfL (Fresh (A ++ GA)) B many 0 (A ++ GA) none := wfl_app _ _ _ _ (hA.wf _ _ fre) (by rw [Nat.zero_add]; exact hG.wf _ fre _)
    have z := wfl_at _ _ _ hw p r x h
    rw [Nat.zero_add] at z
    cases h1 : (A ++ GA)[p + 1]? with
    | none => rw [h1] at z; exact z
    | some y => rw [h1] at z; exact z
  · obtain ⟨z, hz, e⟩ := hb f h0 h1
    exact ⟨_, e, fre z hz⟩
  · obtain ⟨⟨z, hz, e⟩, h2⟩ := hs t ht
    obtain ⟨j, r, ez, hj⟩ := hG.frs z hz
    refine ⟨z, e, by omega, ⟨r, ?_⟩, h2⟩
    rw [ez, List.getElem?_append_right (by omega), Nat.add_sub_cancel_left]
    exact hj
  · by_cases c1 : p < A.length
    · rw [List.getElem?_append_left c1] at h
      exact hA.nl p f x h
    · rw [List.getElem?_append_right (by omega)] at h
      exact (hG.nc _ f x h).elim
end
end K14

local macro_rules | `(tactic| walk_at "hp") => `(tactic| first
  | assumption
  | exact L2.upd_same
  | (refine U.Sta.get (W := ?gsW) (R0 := ?gs0) (B := ?gsB) (R := ?gsR) (L := ?gsL) ?gss 0 ?gse; (case gss => assumption); (case gse => exact rfl))
  | (refine U.Sta.get (W := ?gsW) (R0 := ?gs0) (B := ?gsB) (R := ?gsR) (L := ?gsL) ?gss 1 ?gse; (case gss => assumption); (case gse => exact rfl))
  | (refine U.Sta.get (W := ?gsW) (R0 := ?gs0) (B := ?gsB) (R := ?gsR) (L := ?gsL) ?gss 2 ?gse; (case gss => assumption); (case gse => exact rfl))
  | (refine U.Sta.get (W := ?gsW) (R0 := ?gs0) (B := ?gsB) (R := ?gsR) (L := ?gsL) ?gss 3 ?gse; (case gss => assumption); (case gse => exact rfl))
  | (refine U.Sta.get (W := ?gsW) (R0 := ?gs0) (B := ?gsB) (R := ?gsR) (L := ?gsL) ?gss 4 ?gse; (case gss => assumption); (case gse => exact rfl))
  | (refine U.Sta.get (W := ?gsW) (R0 := ?gs0) (B := ?gsB) (R := ?gsR) (L := ?gsL) ?gss 5 ?gse; (case gss => assumption); (case gse => exact rfl))
  | (refine (L2.upd_ne ?hpn).trans ?hpk; (case hpn => walk_at "ne"); (case hpk => walk_at "hp")))
local macro_rules | `(tactic| walk_at "ne") => `(tactic| first
  | assumption
  | exact Ne.symm (by assumption)
  | (refine L2.ne_of_none (H := ?neH) (o := ?neo) ?nea ?neb; (case neb => assumption); (case nea => walk_at "hp"))
  | (refine Ne.symm (L2.ne_of_none (H := ?neH) (o := ?neo) ?nea ?neb); (case neb => assumption); (case nea => walk_at "hp")))
local macro_rules | `(tactic| walk_at "sq") => `(tactic| first
  | assumption
  | (refine L2.SqL.of ?sqh; walk_at "hp")
  | (refine L2.SqT.of ?sqh; walk_at "hp")
  | (refine L2.Same.seqL (H := ?sqH) ?sqs ?sqh; (case sqh => assumption); (case sqs => walk_at "sm"))
  | (refine L2.Same.seqT (H := ?sqH) ?sqs ?sqh; (case sqh => assumption); (case sqs => walk_at "sm")))
local macro_rules | `(tactic| walk_at "sm") => `(tactic| first
  | assumption
  | exact L2.Same.refl _
  | (refine U.Sta.old (W := ?gsW) (B := ?gsB) (R := ?gsR) (L := ?gsL) ?gss; (case gss => assumption))
  | (refine U.Sta.sub' (W := ?gsW) (R0 := ?gs0) (B := ?gsB) (L := ?gsL) ?gss; (case gss => assumption))
  | (refine U.same_new2 ?sma ?smb _; (case smb => assumption); (case sma => walk_at "sm"))
  | (refine L2.Same.trans (H1 := ?smH) ?sma ?smb; (case smb => assumption); (case sma => walk_at "sm")))
local macro_rules | `(tactic| walk_at "go1") => `(tactic| first
  | (with_reducible refine U.w_seqStop ?_)
  | (with_reducible refine U.w_stopF ?_)
  | (with_reducible refine U.w_stopW ?_)
  | ((with_reducible refine U.w_seqN (σ' := ?wss) ?wse ?_); (case wse => ((try simp only [List.set_cons_zero, List.set_cons_succ]); exact rfl)))
  | ((with_reducible refine U.w_var (v := ?wvv) ?wve ?_); (case wve => exact rfl))
  | (with_reducible refine U.w_c ?_)
  | (with_reducible refine U.w_op ?_)
  | (with_reducible refine U.w_rI0 ?_)
  | ((with_reducible refine U.w_rI ?wri ?_); (case wri => first
      | (show (0 : Int) < _; first | omega | decide)
      | exact ⟨by omega, by omega⟩
      | exact ⟨by decide, by decide⟩
      | exact ⟨by decide, by decide, by decide⟩
      | exact .inr ⟨by omega, by omega⟩
      | exact .inr ⟨by decide, by decide⟩
      | exact .inl ⟨by omega, by omega⟩
      | exact .inl ⟨by decide, by decide⟩))
  | ((with_reducible refine U.w_fdA ?wfd ?_); (case wfd => assumption))
  | (with_reducible refine U.w_asgN ?_)
  | (with_reducible refine U.w_nil ?_)
  | (with_reducible refine U.w_cons ?_)
  | (with_reducible refine U.w_call ?_)
  | (with_reducible refine U.w_cb ?_)
  | (with_reducible refine U.w_eqI ?_)
  | (with_reducible refine U.w_neI ?_)
  | (with_reducible refine U.w_ifS ?_)
  | (with_reducible refine U.w_test ?_)
  | (with_reducible refine U.w_tB ?_)
  | (with_reducible refine U.w_bl ?_)
  | (with_reducible refine U.w_itT ?_)
  | (with_reducible refine U.w_itF ?_)
  | (with_reducible refine U.w_itNT ?_)
  | (with_reducible refine U.w_itNF ?_)
  | (with_reducible refine U.w_asg ?_)
  | (with_reducible refine U.w_gName ?_)
  | (with_reducible refine U.w_gNil ?_)
  | (with_reducible refine U.w_gCons ?_)
  | ((with_reducible refine U.w_gTup (xs := ?wgx) ?wgt ?wgn ?_); (case wgt => walk_at "sq"); (case wgn => exact rfl))
  | (with_reducible refine U.w_gSub ?_)
  | (with_reducible refine U.w_next ?_)
  | (with_reducible refine U.w_break ?_)
  | (with_reducible refine U.w_cont ?_)
  | (with_reducible refine U.w_drop ?_)
  | (with_reducible refine U.w_ret ?_)
  | (with_reducible refine U.w_retN ?_)
  | (with_reducible refine U.w_un ?_)
  | (with_reducible refine U.w_rU ?_)
  | (with_reducible refine U.w_chain ?_)
  | (with_reducible refine U.w_tup ?_)
  | (with_reducible refine U.w_lst ?_)
  | ((with_reducible refine U.w_size ?wsz ?_); (case wsz => exact rfl))
  | (with_reducible refine U.w_bm ?_)
  | (with_reducible refine U.w_bm0 ?_)
  | ((with_reducible refine U.w_tyL (xs := ?wtx) ?wty ?_); (case wty => walk_at "hp"))
  | ((with_reducible refine U.w_lenL (xs := ?wlx) ?wll ?_); (case wll => walk_at "sq"))
  | ((with_reducible refine U.w_lenT (xs := ?wlx) ?wll ?_); (case wll => walk_at "sq"))
  | (with_reducible refine U.w_sl ?_)
  | (with_reducible refine U.w_noPart ?_)
  | (with_reducible refine U.w_part ?_)
  | (with_reducible refine U.w_partE ?_)
  | (with_reducible refine U.w_and ?_)
  | (with_reducible refine U.w_or ?_)
  | (with_reducible refine U.w_not ?_)
  | (with_reducible refine U.w_andV ?_)
  | (with_reducible refine U.w_orV ?_)
  | (with_reducible refine U.w_notV ?_)
  | (with_reducible refine U.w_ifE ?_)
  | (with_reducible refine U.w_for ?_)
  | (with_reducible refine U.w_lc ?_)
  | (with_reducible refine U.w_iL ?_)
  | (with_reducible refine U.w_iT ?_)
  | (with_reducible refine U.w_iR1 ?_)
  | (with_reducible refine U.w_iR2 ?_)
  | (with_reducible refine U.w_ttYes ?_)
  | ((with_reducible refine U.w_wipe ?wwe ?_); (case wwe => exact rfl))
  | ((with_reducible refine U.w_slL (xs := ?wlx) ?wll ?_); (case wll => walk_at "sq"))
  | (with_reducible refine U.w_fldX ?_)
  | ((with_reducible refine U.w_fldEE (C := ?wfC) (dx := ?wfd) (fs := ?wff) (v := ?wfv) (cs := ?wfc) ?wfa ?wfi ?wfn ?wfl ?_); (case wfa => walk_at "hp"); (case wfi => assumption); (case wfn => exact rfl); (case wfl => exact rfl))
  | (with_reducible refine U.w_sFld ?_)
  | ((with_reducible refine U.w_fldS (C := ?wfC) (dx := ?wfd) (fs := ?wff) (gs := ?wfg) (cs := ?wfc) ?wfa ?wfi ?wfn ?wfl ?wfe ?_); (case wfa => walk_at "hp"); (case wfi => assumption); (case wfn => exact rfl); (case wfl => exact rfl); (case wfe => exact rfl))
  | (with_reducible refine U.w_sFldAug ?_)
  | ((with_reducible refine U.w_fldA1 (C := ?wfC) (dx := ?wfd) (fs := ?wff) (v := ?wfv) (cs := ?wfc) ?wfa ?wfi ?wfn ?wfl ?_); (case wfa => walk_at "hp"); (case wfi => assumption); (case wfn => exact rfl); (case wfl => exact rfl))
  | ((with_reducible refine U.w_fldA2 (dx := ?wfd) (fs := ?wff) (gs := ?wfg) ?wfa ?wfl ?wfe ?_); (case wfa => walk_at "hp"); (case wfl => exact rfl); (case wfe => exact rfl))
  | (with_reducible refine U.w_rAdd ?_)
  | (with_reducible refine U.w_rSub ?_)
  | (with_reducible refine U.w_meth ?_)
  | ((with_reducible refine U.w_methE (C := ?wfC) (dx := ?wfd) (fs := ?wff) ?wfa ?wfl ?_); (case wfa => walk_at "hp"); (case wfl => exact rfl))
  | (with_reducible refine U.w_make ?_)
  | (with_reducible refine U.w_tru ?_)
  | ((with_reducible refine U.w_truL (xs := ?wlx) ?wll ?_); (case wll => walk_at "sq"))
  | ((with_reducible refine U.w_append (xs := ?wax) ?waa ?wal ?_); (case waa => walk_at "hp"); (case wal => assumption))
  | ((with_reducible refine U.w_pop (xs := ?wax) (y := ?way) ?waa ?_); (case waa => walk_at "hp"))
  | (with_reducible refine U.w_ttt ?_)
  | (with_reducible refine U.w_isNoT ?_)
  | (with_reducible refine U.w_isNoI ?_)
  | (with_reducible refine U.w_isNoR ?_)
  | (with_reducible refine U.w_notNoT ?_)
  | (with_reducible refine U.w_notNoI ?_)
  | (with_reducible refine U.w_notNoR ?_)
  | (with_reducible refine U.w_intI ?_)
  | (with_reducible refine U.w_intB ?_)
  | (with_reducible refine U.w_min ?_)
  | (with_reducible refine U.w_max ?_)
  | ((with_reducible refine U.w_listL (xs := ?wlx) ?wll ?_); (case wll => walk_at "sq"))
  | ((with_reducible refine U.w_tupL (xs := ?wlx) ?wll ?_); (case wll => walk_at "sq"))
  | (with_reducible refine U.w_isi_ii ?_)
  | (with_reducible refine U.w_isi_ib ?_)
  | (with_reducible refine U.w_isi_it ?_)
  | (with_reducible refine U.w_isi_il ?_)
  | (with_reducible refine U.w_isi_ss ?_)
  | (with_reducible refine U.w_isi_st ?_)
  | (with_reducible refine U.w_isi_sl ?_)
  | (with_reducible refine U.w_isi_nt ?_)
  | (with_reducible refine U.w_isi_nl ?_)
  | (with_reducible refine U.w_isi_ni ?_)
  | ((with_reducible refine U.w_isi_tt (xs := ?wix) ?wis ?_); (case wis => walk_at "sq"))
  | ((with_reducible refine U.w_isi_lt (xs := ?wix) ?wis ?_); (case wis => walk_at "sq"))
  | ((with_reducible refine U.w_isi_ll (xs := ?wix) ?wis ?_); (case wis => walk_at "sq"))
  | ((with_reducible refine U.w_isi_tl (xs := ?wix) ?wis ?_); (case wis => walk_at "sq"))
  | ((with_reducible refine U.w_eqT ?wes ?_); (case wes => exact rfl))
  | ((with_reducible refine U.w_neT ?wes ?_); (case wes => exact rfl))
  | ((with_reducible refine U.w_eqF ?wes ?wef ?_); (case wes => exact rfl); (case wef => decide +kernel))
  | ((with_reducible refine U.w_neF ?wes ?wef ?_); (case wes => exact rfl); (case wef => decide +kernel))
  | ((with_reducible refine U.w_ixLL (xs := ?wxx) (v := ?wxv) ?wxl ?wxi ?_); (case wxl => walk_at "sq"); (case wxi => exact rfl))
  | ((with_reducible refine U.w_ixTT0 (xs := ?wxx) (v := ?wxv) ?wxl ?_); (case wxl => walk_at "sq"))
  | ((with_reducible refine U.w_ixTT (xs := ?wxx) (v := ?wxv) ?wxl ?wxi ?_); (case wxl => walk_at "sq"); (case wxi => exact rfl))
  | walk_at "own1")
local macro_rules | `(tactic| walk_at "go") => `(tactic| repeat walk_at "go1")
local macro_rules | `(tactic| walk_at "st") => `(tactic| ((try dsimp only [U.cxk, U.cxkn, U.cxw, U.cxwn]); walk_at "go"))
local macro_rules | `(tactic| walk_at "if") => `(tactic| (with_reducible refine U.w_seqIf (σ' := ?wss) ?wse ?_); (case wse => ((try simp only [List.set_cons_zero, List.set_cons_succ]); exact rfl)); walk_at "go")
local macro_rules | `(tactic| walk_at "set") => `(tactic| ((try simp only [List.set_cons_zero, List.set_cons_succ]); exact rfl))
local macro_rules | `(tactic| walk_at "lp") => `(tactic| (with_reducible refine U.w_seqLp (σ' := ?wss) ?wse ?_); (case wse => ((try simp only [List.set_cons_zero, List.set_cons_succ]); exact rfl)); walk_at "go")
namespace M
open PySem PySem.Spec PyProof.Rows L2 U MM
def top (i : Nat) : Stmt := PySem.Challenge.pw_unwind_k14_whole_code_by_hand.main.body.getD i (.Pass ⟨0, 0, 0, 0⟩)
/-! ### what stands in the heap for a machine -/
/-- a pile, its uppermost thing last -/
def plV : List Int → List V
  | [] => []
  | n :: p => plV p ++ [.int n]
theorem plV_len : ∀ p : List Int, (plV p).length = p.length
  | [] => rfl
  | n :: p => by
    show (plV p ++ [V.int n]).length = p.length + 1
    rw [List.length_append, plV_len p]
    rfl
abbrev Gh := Addr × Addr × Addr × Addr
def srV : List Gh → List V
  | [] => []
  | g :: r => srV r ++ [.ref g.1]
theorem srV_len : ∀ p : List Gh, (srV p).length = p.length
  | [] => rfl
  | g :: p => by
    show (srV p ++ [V.ref g.1]).length = p.length + 1
    rw [List.length_append, srV_len p]
    rfl
/-- the parts that stay: the code, where its lists stand, the classes, the heap at the start, the machine -/
structure Mc where
  K : PySem.W.Frag
  cM : Addr
  cE : Addr
  R0 : Hp
  B : Hp
  C : Cd
  aR : Addr
  aS : Addr
  aB : Addr
  m : Addr
structure Mc.Ok (c : Mc) : Prop where
  rows : ∃ xs, SqL c.K c.R0 c.aR xs ∧ DpAll c.K c.R0 xs (c.C.rows.map Rw.enc)
  str : ∃ xs, SqL c.K c.R0 c.aS xs ∧ DpAll c.K c.R0 xs (c.C.str.map enc3)
  beg : SqL c.K c.R0 c.aB (c.C.begins.map .int)
  bxs0 : 0 ≤ c.C.boxes
  bxs : c.C.boxes ≤ 100000
def frO (c : Mc) (g : Gh) (f : Fr) : HO := .ins c.cE g.2.1 [("place", .int f.place), ("boxes", .ref g.2.2.1), ("pile", .ref g.2.2.2)]
def frs (c : Mc) : List Gh → List Fr → List (Addr × HO)
  | g :: gs, f :: fs => (g.1, .ins c.cE g.2.1 [("place", .int f.place), ("boxes", .ref g.2.2.1), ("pile", .ref g.2.2.2)]) :: (g.2.2.1, .lst (f.boxes.map .int)) :: (g.2.2.2, .lst (plV f.pile)) :: frs c gs fs
  | _, _ => []
def mO (c : Mc) (dx st sd : Addr) (turns : Int) (ov : V) : HO := .ins c.cM dx [("rows", .ref c.aR), ("stretches", .ref c.aS), ("begins", .ref c.aB), ("boxes", .int c.C.boxes), ("turns", .int turns), ("standing", .ref st), ("said", .ref sd), ("outcome", ov)]
abbrev mL (c : Mc) (dx st sd : Addr) (turns : Int) (said : List Int) (ov : V) (gs : List Gh) (fs : List Fr) : List (Addr × HO) :=
  (c.m, .ins c.cM dx [("rows", .ref c.aR), ("stretches", .ref c.aS), ("begins", .ref c.aB), ("boxes", .int c.C.boxes), ("turns", .int turns), ("standing", .ref st), ("said", .ref sd), ("outcome", ov)]) :: (sd, .lst (said.map .int)) :: (st, .lst (srV gs)) :: frs c gs fs
def OutV (R : Hp) (ov : V) : Option Ou → Prop
  | none => ov = .non
  | some o => ∃ p, ov = .ref p ∧ R p = some (.tup [.str o.word, .int o.num])
structure InvM (c : Mc) (s : MS) (H : Hp) : Prop where
  ex : ∃ R dx st sd ov gs, Sta [] c.R0 c.B R H (mL c dx st sd s.turns s.said ov gs s.fs) ∧ gs.length = s.fs.length ∧ OutV R ov s.out
/-- .. with its uppermost function, at e, in hand -/
structure InvT (c : Mc) (e : Addr) (s : MS) (H : Hp) : Prop where
  ex : ∃ R dx st sd g gs f fs, s.fs = f :: fs ∧ g.1 = e ∧ Sta [] c.R0 c.B R H (mL c dx st sd s.turns s.said .non (g :: gs) (f :: fs)) ∧ gs.length = fs.length
theorem InvM.of {c : Mc} {R H : Hp} {dx st sd : Addr} {ov : V} {gs : List Gh} {fs : List Fr} {t : Int} {sd' : List Int} {o : Option Ou} (S : Sta [] c.R0 c.B R H (mL c dx st sd t sd' ov gs fs)) (h : gs.length = fs.length) (ho : OutV R ov o) : InvM c ⟨t, fs, sd', o⟩ H := ⟨R, dx, st, sd, ov, gs, S, h, ho⟩
/-- which def does a row -/
def Rw.fi : Rw → Nat
  | .put _ => 0
  | .get _ => 1
  | .set _ => 2
  | .say => 3
  | .rek _ => 4
  | .go _ => 5
  | .nought _ => 6
  | .on _ => 7
  | .turn => 8
  | .call _ => 9
  | .back => 10
  | .raise => 11
@[reducible] def Rw.word : Rw → Str
  | .put _ => "put"
  | .get _ => "get"
  | .set _ => "set"
  | .say => "say"
  | .rek o => o.word
  | .go _ => "go"
  | .nought _ => "nought"
  | .on _ => "on"
  | .turn => "turn"
  | .call _ => "call"
  | .back => "back"
  | .raise => "raise"
def spAct (K : PySem.W.Frag) (cM cE : Addr) (x : Nat) : Sp := fun vs H Q _ => ∃ (c : Mc) (e : Addr) (s s' : MS) (rv : V) (r : Rw), vs = [.ref c.m, .ref e, rv] ∧ c.K = K ∧ c.cM = cM ∧ c.cE = cE ∧ c.Ok ∧ Rw.fi r = x ∧ Dp K c.R0 rv r.enc ∧ InvT c e s H ∧ s.out = none ∧
  Small 16000000 s ∧ s.fs.length ≤ 8 ∧ act c.C s r = some s' ∧ ∀ H', InvM c s' H' → Q .non H'
section
variable {P : Program} {w : World} {K : PySem.W.Frag} {mg : Str → Option Value} {base : Heap} {cM cE : Addr}
abbrev fE : List Str := ["place", "boxes", "pile"]
abbrev fM : List Str := ["rows", "stretches", "begins", "boxes", "turns", "standing", "said", "outcome"]
theorem atI_map {xs : List Int} {k z : Int} (h : atI xs k = some z) : atI (xs.map V.int) k = some (.int z) := by
  unfold atI at h ⊢
  rw [List.length_map]
  obtain ⟨j, h1, h2⟩ := Option.bind_eq_some_iff.mp h
  rw [h1]
  show (xs.map V.int)[j]? = _
  rw [List.getElem?_map, h2]
  rfl
theorem szl {n : Nat} (h : n ≤ 16000000) : n < sizeLine := by rw [sizeLine_eq]; omega
def spReck : Sp := fun vs H Q _ => ∃ (o : Op4) (a b : Int), vs = [.str o.word, .int a, .int b] ∧ Q (optV (reck o a b)) H
theorem ca_reckoned (hS : seerB K = true) (hP : P.given.tree = none) (D : Df K mg "reckoned" (top 4)) : Ca P w K mg base CX0 40 "reckoned" spReck := by
  have sc : FnScope ["word", "one", "other"] ["word", "one", "other"] (defScope (top 4)) := ⟨rfl, rfl, rfl, by decide +kernel, rfl, by decide +kernel, by decide +kernel⟩
  have nd := sc.nd
  refine D.ca0 sc (fun _ _ _ _ _ _ us hl => match us, hl with | [_, _, _], _ => rfl) (fun vs H Q E h => by obtain ⟨_, _, _, rfl, _⟩ := h; rfl) (fun f cdv A outer s H vs Q E hr h => ?_)
  obtain ⟨o, a, b, rfl, q⟩ := h
  refine ⟨_, (pss_cons (ps_if (pt_cmpR op_eq (pv 0) pe_str (nomark _)) (pss_one (ps_ret (pe_op op_add (pv 1) (pv 2)))) pss_nil)
    (pss_cons (ps_if (pt_cmpR op_eq (pv 0) pe_str (nomark _)) (pss_one (ps_ret (pe_op op_sub (pv 1) (pv 2)))) pss_nil)
    (pss_cons (ps_if (pt_cmpR op_eq (pv 0) pe_str (nomark _)) (pss_one (ps_ret (pe_ifExp (pt_cmpR op_lt (pv 1) (pv 2) (nomark _)) pe_int pe_int))) pss_nil)
    (pss_cons (ps_if (pt_cmpR op_eq (pv 2) pe_int (nomark _)) (pss_one (ps_ret pe_non)) pss_nil)
    (pss_one (ps_ret (pe_op (op_fdivA hS hP rfl sc.gen sc.co (room_deep hr (by omega))) (pv 1) (pv 2)))))))), ?_⟩
  refine U.w_start (σ' := [some _, some _, some _]) rfl ?_
  walk_at "st"
  cases o with
  | add => walk_at "if"; exact q
  | sub =>
    walk_at "if"
    walk_at "if"
    exact q
  | less =>
    walk_at "if"
    walk_at "if"
    walk_at "if"
    refine it_cases (fun c => ?_) fun c => ?_
    · walk_at "go"
      simp only [reck, if_pos c] at q
      exact q
    · walk_at "go"
      simp only [reck, if_neg c] at q
      exact q
  | share =>
    walk_at "if"
    walk_at "if"
    walk_at "if"
    walk_at "if"
    refine it_cases (fun c => ?_) fun c => ?_
    · walk_at "go"
      simp only [reck, if_pos c] at q
      exact q
    · walk_at "go"
      simp only [reck, if_neg c] at q
      exact q
def spGoal (K : PySem.W.Frag) : Sp := fun vs H Q _ => ∃ (a : Addr) (xs : List V) (ts : List St3) (place : Int), vs = [.ref a, .int place] ∧ SqL K H a xs ∧ DpAll K H xs (ts.map enc3) ∧ Q (optV (goal place ts)) H
theorem ca_goal (D : Df K mg "goal_of" (top 8)) : Ca P w K mg base CX0 1 "goal_of" (spGoal K) := by
  have sc : FnScope ["stretches", "place", "first", "behind", "goal"] ["stretches", "place"] (defScope (top 8)) := ⟨rfl, rfl, rfl, by decide +kernel, rfl, by decide +kernel, by decide +kernel⟩
  have nd := sc.nd
  refine D.ca0 sc (fun _ _ _ _ _ _ us hl => match us, hl with | [_, _], _ => rfl) (fun vs H Q E h => by obtain ⟨_, _, _, _, rfl, _⟩ := h; rfl) (fun f cdv A outer s H vs Q E hr h => ?_)
  obtain ⟨a, xs, ts, place, rfl, hS, hD, q⟩ := h
  refine ⟨_, (pss_cons (ps_for PassesOwn.never rfl (pi_list (pv 0)) (pg_tup rfl (pgs_cons (pg_name (i := 2) nd rfl (by first | exact Or.inl rfl | exact Or.inr rfl)) (pgs_cons (pg_name (i := 3) nd rfl (by first | exact Or.inl rfl | exact Or.inr rfl)) (pgs_cons (pg_name (i := 4) nd rfl (by first | exact Or.inl rfl | exact Or.inr rfl)) pgs_nil)))) (pss_one (ps_if (pt_chain op_le op_lt (pv 2) (pv 1) (pv 3)) (pss_one (ps_ret (pv 4))) pss_nil)))
    (pss_one (ps_ret pe_non))), ?_⟩
  refine U.w_start (σ' := [some _, some _, none, none, none]) rfl ?_
  walk_at "st"
  walk_at "lp"
  refine for_L (fun i σ H' => H' = H ∧ (∃ v2 v3 v4, σ = [some (.ref a), some (.int place), v2, v3, v4]) ∧ goal place ts = goal place (ts.drop i)) hS ⟨rfl, ⟨none, none, none, rfl⟩, rfl⟩ (fun i σ H' _ p => by rw [p.1]; exact hS) (fun i x σ H' hx p => ?_) (fun σ H' p => ?_)
  · obtain ⟨rfl, ⟨v2, v3, v4, rfl⟩, e⟩ := p
    obtain ⟨d, hd, hdx⟩ := hD.get hx
    rw [List.getElem?_map] at hd
    obtain ⟨t, ht, rfl⟩ := Option.map_eq_some_iff.mp hd
    obtain ⟨p, w1, w2, w3, rfl, hT, h1, h2, h3⟩ := dp_tup3 hdx
    cases dp_int h1
    cases dp_int h2
    cases dp_int h3
    have e2 := List.drop_eq_getElem_cons (List.getElem?_eq_some_iff.mp ht).1
    rw [(List.getElem?_eq_some_iff.mp ht).2] at e2
    rw [e2, goal_cons] at e
    walk_at "go"
    refine it_cases (fun c => ?_) fun c => ?_
    · walk_at "go"
      refine it_cases (fun c' => ?_) fun c' => ?_
      · walk_at "go"
        rw [if_pos ⟨c, c'⟩] at e
        rw [e] at q
        exact q
      · walk_at "go"
        rw [if_neg (fun z => c' z.2)] at e
        exact ⟨rfl, ⟨_, _, _, rfl⟩, e⟩
    · walk_at "go"
      rw [if_neg (fun z => c z.1)] at e
      exact ⟨rfl, ⟨_, _, _, rfl⟩, e⟩
  · obtain ⟨rfl, ⟨v2, v3, v4, rfl⟩, e⟩ := p
    have l : xs.length = ts.length := by rw [hD.len, List.length_map]
    rw [l, List.drop_length] at e
    rw [e] at q
    walk_at "go"
    exact q
end
end M

namespace M
open PySem PySem.Spec PyProof.Rows L2 U MM
section
variable {P : Program} {w : World} {K : PySem.W.Frag} {mg : Str → Option Value} {base : Heap} {cM cE : Addr}
theorem ca_put (D : Df K mg "_put" (top 11)) (iE : CI K cE fE) (iM : CI K cM fM) : Ca P w K mg base CX0 1 "_put" (spAct K cM cE 0) := by
  have sc : FnScope ["machine", "now", "row"] ["machine", "now", "row"] (defScope (top 11)) := ⟨rfl, rfl, rfl, by decide +kernel, rfl, by decide +kernel, by decide +kernel⟩
  have nd := sc.nd
  refine D.ca0 sc (fun _ _ _ _ _ _ us hl => match us, hl with | [_, _, _], _ => rfl) (fun vs H Q E h => by obtain ⟨_, _, _, _, _, _, rfl, _⟩ := h; rfl) (fun f cdv A outer s H vs Q E hr h => ?_)
  obtain ⟨c, e, s, s', rv, r, rfl, rfl, rfl, rfl, ok, hf, hr', ⟨R, dx, st, sd, g, gs, f, fs, ef, rfl, S, hl⟩, ho, hb, h8, ha, q⟩ := h
  refine ⟨_, (pss_one (ps_expr (pe_bm PySem.F.plainAttrs_list PySem.F.slot_list_append PySem.F.type_list_append mt_append (pe_fld (pv 1) rfl) (pa_cons (pe_ix ix_lt (pv 2) pe_int (fun _ _ => rfl)) pa_nil)))), ?_⟩
  refine U.w_start (σ' := [some _, some _, some _]) rfl ?_
  walk_at "st"
  obtain ⟨n, rfl⟩ : ∃ n, r = .put n := by
    cases r <;> first | exact ⟨_, rfl⟩ | simp [Rw.fi] at hf
  obtain ⟨p, v1, v2, rfl, hT, h1, h2⟩ := dp_tup2 hr'
  cases dp_int h2
  have hp : f.pile.length ≤ 16000000 := hb.2 f (by rw [ef]; exact List.mem_cons_self ..)
  have hp2 : (plV f.pile).length < sizeLine := by rw [plV_len]; exact szl hp
  walk_at "go"
  have S1 := S.set 5 rfl (.lst (plV f.pile ++ [.int n]))
  unfold act at ha
  rw [ef] at ha
  cases ha
  refine q _ ?_
  rw [ho]
  exact InvM.of (gs := g :: gs) (fs := { f with pile := n :: f.pile } :: fs) S1 (congrArg (· + 1) hl) rfl
theorem ca_get (D : Df K mg "_get" (top 12)) (iE : CI K cE fE) (iM : CI K cM fM) : Ca P w K mg base CX0 1 "_get" (spAct K cM cE 1) := by
  have sc : FnScope ["machine", "now", "row"] ["machine", "now", "row"] (defScope (top 12)) := ⟨rfl, rfl, rfl, by decide +kernel, rfl, by decide +kernel, by decide +kernel⟩
  have nd := sc.nd
  refine D.ca0 sc (fun _ _ _ _ _ _ us hl => match us, hl with | [_, _, _], _ => rfl) (fun vs H Q E h => by obtain ⟨_, _, _, _, _, _, rfl, _⟩ := h; rfl) (fun f cdv A outer s H vs Q E hr h => ?_)
  obtain ⟨c, e, s, s', rv, r, rfl, rfl, rfl, rfl, ok, hf, hr', ⟨R, dx, st, sd, g, gs, f, fs, ef, rfl, S, hl⟩, ho, hb, h8, ha, q⟩ := h
  refine ⟨_, (pss_one (ps_expr (pe_bm PySem.F.plainAttrs_list PySem.F.slot_list_append PySem.F.type_list_append mt_append (pe_fld (pv 1) rfl) (pa_cons (pe_ix ix_lt (pe_fld (pv 1) rfl) (pe_ix ix_lt (pv 2) pe_int (fun _ _ => rfl)) (fun _ _ => rfl)) pa_nil)))), ?_⟩
  refine U.w_start (σ' := [some _, some _, some _]) rfl ?_
  walk_at "st"
  obtain ⟨n, rfl⟩ : ∃ n, r = .get n := by
    cases r <;> first | exact ⟨_, rfl⟩ | simp [Rw.fi] at hf
  obtain ⟨p, v1, v2, rfl, hT, h1, h2⟩ := dp_tup2 hr'
  cases dp_int h2
  have hp : f.pile.length ≤ 16000000 := hb.2 f (by rw [ef]; exact List.mem_cons_self ..)
  have hp2 : (plV f.pile).length < sizeLine := by rw [plV_len]; exact szl hp
  unfold act at ha
  rw [ef] at ha
  simp only at ha
  split at ha
  case h_2 => cases ha
  rename_i z hz
  cases ha
  walk_at "go"
  refine w_ixLL (xs := f.boxes.map .int) (SqL.of (S.get 4 rfl)) (v := .int z) (atI_map hz) ?_
  walk_at "go"
  have S1 := S.set 5 rfl (.lst (plV f.pile ++ [.int z]))
  refine q _ ?_
  rw [ho]
  exact InvM.of (gs := g :: gs) (fs := { f with pile := z :: f.pile } :: fs) S1 (congrArg (· + 1) hl) rfl
theorem ca_set (D : Df K mg "_set" (top 13)) (iE : CI K cE fE) (iM : CI K cM fM) : Ca P w K mg base CX0 1 "_set" (spAct K cM cE 2) := by
  have sc : FnScope ["machine", "now", "row"] ["machine", "now", "row"] (defScope (top 13)) := ⟨rfl, rfl, rfl, by decide +kernel, rfl, by decide +kernel, by decide +kernel⟩
  have nd := sc.nd
  refine D.ca0 sc (fun _ _ _ _ _ _ us hl => match us, hl with | [_, _, _], _ => rfl) (fun vs H Q E h => by obtain ⟨_, _, _, _, _, _, rfl, _⟩ := h; rfl) (fun f cdv A outer s H vs Q E hr h => ?_)
  obtain ⟨c, e, s, s', rv, r, rfl, rfl, rfl, rfl, ok, hf, hr', ⟨R, dx, st, sd, g, gs, f, fs, ef, rfl, S, hl⟩, ho, hb, h8, ha, q⟩ := h
  refine ⟨_, (pss_one (ps_asg (pe_bm0 PySem.F.plainAttrs_list PySem.F.slot_list_pop PySem.F.type_list_pop mt_pop (pe_fld (pv 1) rfl)) (pg_sub (pe_fld (pv 1) rfl) (pe_ix ix_lt (pv 2) pe_int (fun _ _ => rfl)) set_list))), ?_⟩
  refine U.w_start (σ' := [some _, some _, some _]) rfl ?_
  walk_at "st"
  obtain ⟨n, rfl⟩ : ∃ n, r = .set n := by
    cases r <;> first | exact ⟨_, rfl⟩ | simp [Rw.fi] at hf
  obtain ⟨p, v1, v2, rfl, hT, h1, h2⟩ := dp_tup2 hr'
  cases dp_int h2
  have hp : f.pile.length ≤ 16000000 := hb.2 f (by rw [ef]; exact List.mem_cons_self ..)
  unfold act at ha
  rw [ef] at ha
  simp only at ha
  split at ha
  case h_2 => cases ha
  rename_i z pl j hz hj
  cases ha
  rw [show f = ⟨f.place, f.boxes, z :: pl⟩ from by rw [← hz]] at S
  walk_at "go"
  have S1 := S.set 5 rfl (.lst (plV pl))
  walk_at "go"
  refine w_setL (xs := f.boxes.map .int) (S1.get 4 rfl) (j := j) (by rw [List.length_map]; exact hj) ?_
  rw [show (f.boxes.map V.int).set j (V.int z) = (f.boxes.set j z).map V.int from List.map_set.symm]
  have S2 := S1.set 4 rfl (.lst ((f.boxes.set j z).map .int))
  refine q _ ?_
  rw [ho]
  exact InvM.of (gs := g :: gs) (fs := { f with pile := pl, boxes := f.boxes.set j z } :: fs) S2 (congrArg (· + 1) hl) rfl
theorem ca_say (D : Df K mg "_say" (top 14)) (iE : CI K cE fE) (iM : CI K cM fM) : Ca P w K mg base CX0 1 "_say" (spAct K cM cE 3) := by
  have sc : FnScope ["machine", "now", "row"] ["machine", "now", "row"] (defScope (top 14)) := ⟨rfl, rfl, rfl, by decide +kernel, rfl, by decide +kernel, by decide +kernel⟩
  have nd := sc.nd
  refine D.ca0 sc (fun _ _ _ _ _ _ us hl => match us, hl with | [_, _, _], _ => rfl) (fun vs H Q E h => by obtain ⟨_, _, _, _, _, _, rfl, _⟩ := h; rfl) (fun f cdv A outer s H vs Q E hr h => ?_)
  obtain ⟨c, e, s, s', rv, r, rfl, rfl, rfl, rfl, ok, hf, hr', ⟨R, dx, st, sd, g, gs, f, fs, ef, rfl, S, hl⟩, ho, hb, h8, ha, q⟩ := h
  refine ⟨_, (pss_one (ps_expr (pe_bm PySem.F.plainAttrs_list PySem.F.slot_list_append PySem.F.type_list_append mt_append (pe_fld (pv 0) rfl) (pa_cons (pe_bm0 PySem.F.plainAttrs_list PySem.F.slot_list_pop PySem.F.type_list_pop mt_pop (pe_fld (pv 1) rfl)) pa_nil)))), ?_⟩
  refine U.w_start (σ' := [some _, some _, some _]) rfl ?_
  walk_at "st"
  obtain rfl : r = .say := by
    cases r <;> first | rfl | simp [Rw.fi] at hf
  obtain ⟨p, v1, rfl, hT, h1⟩ := dp_tup1 hr'
  have hp : f.pile.length ≤ 16000000 := hb.2 f (by rw [ef]; exact List.mem_cons_self ..)
  unfold act at ha
  rw [ef] at ha
  simp only at ha
  split at ha
  case h_2 => cases ha
  rename_i z pl hz
  cases ha
  rw [show f = ⟨f.place, f.boxes, z :: pl⟩ from by rw [← hz]] at S
  have hs2 : (s.said.map V.int).length < sizeLine := by rw [List.length_map]; exact szl hb.1
  walk_at "go"
  have S1 := S.set 5 rfl (.lst (plV pl))
  refine w_append (S1.get 1 rfl) hs2 ?_
  rw [show s.said.map V.int ++ [V.int z] = (s.said ++ [z]).map V.int from by rw [List.map_append]; rfl]
  have S2 := S1.set 1 rfl (.lst ((s.said ++ [z]).map .int))
  refine q _ ?_
  rw [ho]
  exact InvM.of (gs := g :: gs) (fs := { f with pile := pl } :: fs) (sd' := s.said ++ [z]) S2 (congrArg (· + 1) hl) rfl
theorem ca_go (D : Df K mg "_go" (top 16)) (iE : CI K cE fE) (iM : CI K cM fM) : Ca P w K mg base CX0 1 "_go" (spAct K cM cE 5) := by
  have sc : FnScope ["machine", "now", "row"] ["machine", "now", "row"] (defScope (top 16)) := ⟨rfl, rfl, rfl, by decide +kernel, rfl, by decide +kernel, by decide +kernel⟩
  have nd := sc.nd
  refine D.ca0 sc (fun _ _ _ _ _ _ us hl => match us, hl with | [_, _, _], _ => rfl) (fun vs H Q E h => by obtain ⟨_, _, _, _, _, _, rfl, _⟩ := h; rfl) (fun f cdv A outer s H vs Q E hr h => ?_)
  obtain ⟨c, e, s, s', rv, r, rfl, rfl, rfl, rfl, ok, hf, hr', ⟨R, dx, st, sd, g, gs, f, fs, ef, rfl, S, hl⟩, ho, hb, h8, ha, q⟩ := h
  refine ⟨_, (pss_one (ps_fld (pv 1) (pe_ix ix_lt (pv 2) pe_int (fun _ _ => rfl)) rfl)), ?_⟩
  refine U.w_start (σ' := [some _, some _, some _]) rfl ?_
  walk_at "st"
  obtain ⟨n, rfl⟩ : ∃ n, r = .go n := by
    cases r <;> first | exact ⟨_, rfl⟩ | simp [Rw.fi] at hf
  obtain ⟨p, v1, v2, rfl, hT, h1, h2⟩ := dp_tup2 hr'
  cases dp_int h2
  have hp : f.pile.length ≤ 16000000 := hb.2 f (by rw [ef]; exact List.mem_cons_self ..)
  unfold act at ha
  rw [ef] at ha
  cases ha
  walk_at "go"
  have S1 := S.set 3 rfl (.ins c.cE g.2.1 [("place", .int n), ("boxes", .ref g.2.2.1), ("pile", .ref g.2.2.2)])
  refine q _ ?_
  rw [ho]
  exact InvM.of (gs := g :: gs) (fs := { f with place := n } :: fs) S1 (congrArg (· + 1) hl) rfl
theorem ca_nought (D : Df K mg "_nought" (top 17)) (iE : CI K cE fE) (iM : CI K cM fM) : Ca P w K mg base CX0 1 "_nought" (spAct K cM cE 6) := by
  have sc : FnScope ["machine", "now", "row"] ["machine", "now", "row"] (defScope (top 17)) := ⟨rfl, rfl, rfl, by decide +kernel, rfl, by decide +kernel, by decide +kernel⟩
  have nd := sc.nd
  refine D.ca0 sc (fun _ _ _ _ _ _ us hl => match us, hl with | [_, _, _], _ => rfl) (fun vs H Q E h => by obtain ⟨_, _, _, _, _, _, rfl, _⟩ := h; rfl) (fun f cdv A outer s H vs Q E hr h => ?_)
  obtain ⟨c, e, s, s', rv, r, rfl, rfl, rfl, rfl, ok, hf, hr', ⟨R, dx, st, sd, g, gs, f, fs, ef, rfl, S, hl⟩, ho, hb, h8, ha, q⟩ := h
  refine ⟨_, (pss_one (ps_if (pt_cmpR op_eq (pe_bm0 PySem.F.plainAttrs_list PySem.F.slot_list_pop PySem.F.type_list_pop mt_pop (pe_fld (pv 1) rfl)) pe_int (nomark _)) (pss_one (ps_fld (pv 1) (pe_ix ix_lt (pv 2) pe_int (fun _ _ => rfl)) rfl)) pss_nil)), ?_⟩
  refine U.w_start (σ' := [some _, some _, some _]) rfl ?_
  walk_at "st"
  obtain ⟨n, rfl⟩ : ∃ n, r = .nought n := by
    cases r <;> first | exact ⟨_, rfl⟩ | simp [Rw.fi] at hf
  obtain ⟨p, v1, v2, rfl, hT, h1, h2⟩ := dp_tup2 hr'
  cases dp_int h2
  have hp : f.pile.length ≤ 16000000 := hb.2 f (by rw [ef]; exact List.mem_cons_self ..)
  unfold act at ha
  rw [ef] at ha
  simp only at ha
  split at ha
  case h_2 => cases ha
  rename_i z pl hz
  cases ha
  rw [show f = ⟨f.place, f.boxes, z :: pl⟩ from by rw [← hz]] at S
  walk_at "go"
  have S1 := S.set 5 rfl (.lst (plV pl))
  walk_at "go"
  refine it_cases (fun c1 => ?_) fun c1 => ?_
  · walk_at "go"
    have S2 := S1.set 3 rfl (.ins c.cE g.2.1 [("place", .int n), ("boxes", .ref g.2.2.1), ("pile", .ref g.2.2.2)])
    refine q _ ?_
    rw [ho, if_pos c1]
    exact InvM.of (gs := g :: gs) (fs := { f with pile := pl, place := n } :: fs) S2 (congrArg (· + 1) hl) rfl
  · walk_at "go"
    refine q _ ?_
    rw [ho, if_neg c1]
    exact InvM.of (gs := g :: gs) (fs := { f with pile := pl } :: fs) S1 (congrArg (· + 1) hl) rfl
theorem ca_on (D : Df K mg "_on" (top 18)) (iE : CI K cE fE) (iM : CI K cM fM) : Ca P w K mg base CX0 1 "_on" (spAct K cM cE 7) := by
  have sc : FnScope ["machine", "now", "row"] ["machine", "now", "row"] (defScope (top 18)) := ⟨rfl, rfl, rfl, by decide +kernel, rfl, by decide +kernel, by decide +kernel⟩
  have nd := sc.nd
  refine D.ca0 sc (fun _ _ _ _ _ _ us hl => match us, hl with | [_, _, _], _ => rfl) (fun vs H Q E h => by obtain ⟨_, _, _, _, _, _, rfl, _⟩ := h; rfl) (fun f cdv A outer s H vs Q E hr h => ?_)
  obtain ⟨c, e, s, s', rv, r, rfl, rfl, rfl, rfl, ok, hf, hr', ⟨R, dx, st, sd, g, gs, f, fs, ef, rfl, S, hl⟩, ho, hb, h8, ha, q⟩ := h
  refine ⟨_, (pss_one (ps_fld (pv 1) (pe_ix ix_lt (pe_fld (pv 1) rfl) (pe_ix ix_lt (pv 2) pe_int (fun _ _ => rfl)) (fun _ _ => rfl)) rfl)), ?_⟩
  refine U.w_start (σ' := [some _, some _, some _]) rfl ?_
  walk_at "st"
  obtain ⟨n, rfl⟩ : ∃ n, r = .on n := by
    cases r <;> first | exact ⟨_, rfl⟩ | simp [Rw.fi] at hf
  obtain ⟨p, v1, v2, rfl, hT, h1, h2⟩ := dp_tup2 hr'
  cases dp_int h2
  have hp : f.pile.length ≤ 16000000 := hb.2 f (by rw [ef]; exact List.mem_cons_self ..)
  unfold act at ha
  rw [ef] at ha
  simp only at ha
  split at ha
  case h_2 => cases ha
  rename_i z hz
  cases ha
  walk_at "go"
  refine w_ixLL (xs := f.boxes.map .int) (SqL.of (S.get 4 rfl)) (v := .int z) (atI_map hz) ?_
  walk_at "go"
  have S1 := S.set 3 rfl (.ins c.cE g.2.1 [("place", .int z), ("boxes", .ref g.2.2.1), ("pile", .ref g.2.2.2)])
  refine q _ ?_
  rw [ho]
  exact InvM.of (gs := g :: gs) (fs := { f with place := z } :: fs) S1 (congrArg (· + 1) hl) rfl
end
end M

namespace M
open PySem PySem.Spec PyProof.Rows L2 U MM
section
variable {P : Program} {w : World} {K : PySem.W.Frag} {mg : Str → Option Value} {base : Heap} {cM cE : Addr}
/-! ### methods -/
def spFault (K : PySem.W.Frag) (cM cE : Addr) : Sp := fun vs H Q _ => ∃ (c : Mc) (s : MS) (n : Int), vs = [.ref c.m, .int n] ∧ c.K = K ∧ c.cM = cM ∧ c.cE = cE ∧ c.Ok ∧ InvM c s H ∧ s.out = none ∧ ∀ H', InvM c (s.faulted c.C.str n) H' → Q .non H'
def spTurn (K : PySem.W.Frag) (cM cE : Addr) : Sp := fun vs H Q _ => ∃ (c : Mc) (s : MS), vs = [.ref c.m] ∧ c.K = K ∧ c.cM = cM ∧ c.cE = cE ∧ InvM c s H ∧ s.out = none ∧
  (s.turns < 1 → ∀ H', InvM c { s with out := some .tired } H' → Q (.bl false) H') ∧ (¬ s.turns < 1 → ∀ H', InvM c { s with turns := s.turns - 1 } H' → Q (.bl true) H')
def spEnter (K : PySem.W.Frag) (cM cE : Addr) : Sp := fun vs H Q _ => ∃ (c : Mc) (s s' : MS) (f n : Int), vs = [.ref c.m, .int f, .int n] ∧ c.K = K ∧ c.cM = cM ∧ c.cE = cE ∧ c.Ok ∧ InvM c s H ∧ s.out = none ∧ s.fs.length ≤ 8 ∧ enter c.C f n s = some s' ∧ ∀ H', InvM c s' H' → Q .non H'
def spNew (cE : Addr) : Sp := fun vs H Q _ => ∃ (R0 B R : Hp) (L : List (Addr × HO)) (a dx : Addr) (place n b : Int), vs = [.ref a, .int place, .int n, .int b] ∧ 0 ≤ b ∧ b ≤ 100000 ∧ Sta [] R0 B R H ((a, .ins cE dx []) :: L) ∧
  ∀ bx pl H', Sta [] R0 B R H' ((a, .ins cE dx [("place", .int place), ("boxes", .ref bx), ("pile", .ref pl)]) :: (bx, .lst ((n :: List.replicate (b - 1).toNat 0).map .int)) :: (pl, .lst []) :: L) → Q .non H'
theorem ca_turn_ (D : DfM K mg "Machine" cM "take_turn" "Machine.take_turn" (inClass (top 7) 1)) (iM : CI K cM fM) : CaM P w K mg base CX0 1 cM "take_turn" (spTurn K cM cE) := by
  have sc : FnScope ["self"] ["self"] (defScope (inClass (top 7) 1)) := ⟨rfl, rfl, rfl, by decide +kernel, rfl, by decide +kernel, by decide +kernel⟩
  have nd := sc.nd
  refine D.ca0 sc (fun _ _ _ _ _ _ us hl => match us, hl with | [_], _ => rfl) (fun vs H Q E h => by obtain ⟨_, _, rfl, _⟩ := h; rfl) (fun f cdv A outer s H vs Q E hr h => ?_)
  obtain ⟨c, s, rfl, rfl, rfl, rfl, ⟨R, dx, st, sd, ov, gs, S, hl, hov⟩, ho, q1, q2⟩ := h
  refine ⟨_, (pss_cons (ps_if (pt_cmpR op_lt (pe_fld (pv 0) rfl) pe_int (nomark _)) (pss_cons (ps_fld (pv 0) (pe_tup (pa_cons pe_str (pa_cons pe_int pa_nil))) rfl)
    (pss_one (ps_ret pe_bl))) pss_nil)
    (pss_cons (ps_fldaug (pv 0) pe_int in_sub)
    (pss_one (ps_ret pe_bl)))), ?_⟩
  refine U.w_start (σ' := [some _]) rfl ?_
  walk_at "st"
  walk_at "if"
  refine it_cases (fun c1 => ?_) fun c1 => ?_
  · walk_at "go"
    intro p np
    walk_at "go"
    have S1 := (S.newR np (.tup [.str "tired", .int 0])).set 0 rfl (.ins c.cM dx [("rows", .ref c.aR), ("stretches", .ref c.aS), ("begins", .ref c.aB), ("boxes", .int c.C.boxes), ("turns", .int s.turns), ("standing", .ref st), ("said", .ref sd), ("outcome", .ref p)])
    exact q1 c1 _ (InvM.of S1 hl ⟨p, rfl, upd_same⟩)
  · walk_at "go"
    have S1 := S.set 0 rfl (.ins c.cM dx [("rows", .ref c.aR), ("stretches", .ref c.aS), ("begins", .ref c.aB), ("boxes", .int c.C.boxes), ("turns", .int (s.turns - 1)), ("standing", .ref st), ("said", .ref sd), ("outcome", ov)])
    exact q2 c1 _ (InvM.of S1 hl hov)
theorem rep1 (k : Nat) : (List.replicate k [V.int 0]).flatten = (List.replicate k 0).map V.int := by
  induction k with
  | zero => rfl
  | succ k ih =>
    rw [List.replicate_succ, List.replicate_succ, List.flatten_cons, ih]
    rfl
theorem ca_new (D : DfI K mg "Entered" cE "Entered.__init__" (inClass (top 6) 0)) (iE : CI K cE fE) : CaI P w K mg base CX0 1 "Entered" cE (spNew cE) := by
  have sc : FnScope ["self", "place", "number", "boxes"] ["self", "place", "number", "boxes"] (defScope (inClass (top 6) 0)) := ⟨rfl, rfl, rfl, by decide +kernel, rfl, by decide +kernel, by decide +kernel⟩
  have nd := sc.nd
  refine D.ca0 sc (fun _ _ _ _ _ _ us hl => match us, hl with | [_, _, _, _], _ => rfl) (fun vs H Q E h => by obtain ⟨_, _, _, _, _, _, _, _, _, rfl, _⟩ := h; rfl) (fun f cdv A outer s H vs Q E hr h => ?_)
  obtain ⟨R0, B, R, L, a, dx, place, n, b, rfl, hb0, hb, S, q⟩ := h
  refine ⟨_, (pss_cons (ps_fld (pv 0) (pv 1) rfl)
    (pss_cons (ps_fld (pv 0) (pe_op op_cat (pe_lst (pa_cons (pv 2) pa_nil)) (pe_op op_rep (pe_lst (pa_cons pe_int pa_nil)) (pe_op op_sub (pv 3) pe_int))) rfl)
    (pss_one (ps_fld (pv 0) (pe_lst pa_nil) rfl)))), ?_⟩
  refine U.w_start (σ' := [some _, some _, some _, some _]) rfl ?_
  walk_at "st"
  have S1 := S.set 0 rfl (.ins cE dx [("place", .int place)])
  intro p np
  walk_at "go"
  have S2 := S1.new np (.lst [.int n])
  intro p2 np2
  walk_at "go"
  have S3 := S2.new np2 (.lst [.int 0])
  refine ⟨p2, b - 1, [.int 0], rfl, rfl, S3.get 0 rfl, by omega, by omega, (by show 1 * (b - 1).toNat ≤ sizeLine; rw [sizeLine_eq]; omega), fun p3 np3 => ?_⟩
  rw [rep1] at *
  have S4 := S3.new np3 (.lst ((List.replicate (b - 1).toNat 0).map .int))
  refine ⟨p, p3, _, _, rfl, rfl, S4.get 2 rfl, S4.get 0 rfl, (by rw [List.length_map, List.length_replicate]; show 1 + (b - 1).toNat ≤ sizeLine; rw [sizeLine_eq]; omega), fun p4 np4 => ?_⟩
  have S5 := S4.new np4 (.lst ((n :: List.replicate (b - 1).toNat 0).map .int))
  walk_at "go"
  have S6 := S5.set 4 rfl (.ins cE dx [("place", .int place), ("boxes", .ref p4)])
  intro p5 np5
  walk_at "go"
  have S7 := S6.new np5 (.lst [])
  have S8 := S7.set 5 rfl (.ins cE dx [("place", .int place), ("boxes", .ref p4), ("pile", .ref p5)])
  have S9 := S8.less (L' := (p5, .lst []) :: (p4, .lst ((n :: List.replicate (b - 1).toNat 0).map .int)) :: (a, .ins cE dx [("place", .int place), ("boxes", .ref p4), ("pile", .ref p5)]) :: L) (.cons₂ _ (.cons₂ _ (.cons _ (.cons _ (.cons _ (.refl _))))))
  exact q p4 p5 _ (S9.perm ((List.reverse_perm [((p5, .lst []) : Addr × HO), (p4, .lst ((n :: List.replicate (b - 1).toNat 0).map .int)), (a, .ins cE dx [("place", .int place), ("boxes", .ref p4), ("pile", .ref p5)])]).symm.append_right L))
theorem fault_cons {S : List St3} {n : Int} {f : MM.Fr} {r : List MM.Fr} : fault S n (f :: r) = (match goal (f.place - 1) S with | some g => ({ f with place := g, pile := [n] } :: r, none) | none => fault S n r) := rfl
theorem ca_fault (D : DfM K mg "Machine" cM "fault" "Machine.fault" (inClass (top 7) 3)) (iE : CI K cE fE) (iM : CI K cM fM) (c_goal_of : Ca P w K mg base CX0 1 "goal_of" (spGoal K)) : CaM P w K mg base CX0 2 cM "fault" (spFault K cM cE) := by
  have sc : FnScope ["self", "number", "now", "goal"] ["self", "number"] (defScope (inClass (top 7) 3)) := ⟨rfl, rfl, rfl, by decide +kernel, rfl, by decide +kernel, by decide +kernel⟩
  have nd := sc.nd
  refine D.ca0 sc (fun _ _ _ _ _ _ us hl => match us, hl with | [_, _], _ => rfl) (fun vs H Q E h => by obtain ⟨_, _, _, rfl, _⟩ := h; rfl) (fun f cdv A outer s H vs Q E hr h => ?_)
  obtain ⟨c, s, n, rfl, rfl, rfl, rfl, ok, ⟨R, dx, st, sd, ov, gs, S, hl, hov⟩, ho, q⟩ := h
  refine ⟨_, (pss_cons (ps_while PassesOwn.never (pt_tru (pe_fld (pv 0) rfl)) (pss_cons (ps_set (i := 2) nd rfl (by first | exact Or.inl rfl | exact Or.inr rfl) (pe_ix ix_lt (pe_fld (pv 0) rfl) (pe_un un_neg pe_int) (fun _ _ => rfl)))
    (pss_cons (ps_set (i := 3) nd rfl (by first | exact Or.inl rfl | exact Or.inr rfl) (pe_ca c_goal_of hr (by omega) rfl pass0 (pa_cons (pe_fld (pv 0) rfl) (pa_cons (pe_op op_sub (pe_fld (pv 2) rfl) pe_int) pa_nil))))
    (pss_cons (ps_if (pt_cmpR op_notNo (pv 3) pe_non (nomark _)) (pss_cons (ps_fld (pv 2) (pe_lst (pa_cons (pv 1) pa_nil)) rfl)
    (pss_cons (ps_fld (pv 2) (pv 3) rfl)
    (pss_one ps_retN))) pss_nil)
    (pss_one (ps_expr (pe_bm0 PySem.F.plainAttrs_list PySem.F.slot_list_pop PySem.F.type_list_pop mt_pop (pe_fld (pv 0) rfl))))))))
    (pss_one (ps_fld (pv 0) (pe_tup (pa_cons pe_str (pa_cons (pv 1) pa_nil))) rfl))), ?_⟩
  refine U.w_start (σ' := [some _, some _, none, none]) rfl ?_
  walk_at "st"
  refine w_lpJ (by walk_at "set") (fun σ' H' => ∃ R v2 v3, σ' = [some (.ref c.m), some (.int n), v2, v3] ∧ Sta [] c.R0 c.B R H' (mL c dx st sd s.turns s.said ov [] []) ∧ OutV R ov s.out ∧ fault c.C.str n s.fs = fault c.C.str n []) (fun nx' kj => ?_) (fun σ' H' hj => ?_)
  · refine w_while (fun k σ' H' => ∃ gs fs v2 v3, σ' = [some (.ref c.m), some (.int n), v2, v3] ∧ Sta [] c.R0 c.B R H' (mL c dx st sd s.turns s.said ov gs fs) ∧ gs.length = fs.length ∧ k = fs.length ∧ fault c.C.str n s.fs = fault c.C.str n fs) s.fs.length ⟨gs, s.fs, none, none, rfl, S, hl, rfl, rfl⟩ (fun k σ' H' hw => ?_)
    obtain ⟨gs, fs, v2, v3, rfl, S, hl, rfl, e⟩ := hw
    walk_at "go"
    cases gs with
    | nil =>
      cases fs with
      | cons f fs => simp at hl
      | nil =>
        refine w_whF ?_
        exact kj _ _ ⟨R, _, _, rfl, S, hov, e⟩
    | cons g gs =>
      cases fs with
      | nil => simp at hl
      | cons f fs =>
        have hb : (!(srV (g :: gs)).isEmpty) = true := by
          show (!(srV gs ++ [V.ref g.1]).isEmpty) = true
          simp
        rw [hb]
        refine w_whT ?_
        walk_at "go"
        refine w_ixLL (xs := srV gs ++ [V.ref g.1]) (SqL.of (S.get 2 rfl)) (v := .ref g.1) (atI_last _ _) ?_
        walk_at "go"
        obtain ⟨xs, h1, h2⟩ := ok.str
        refine ⟨c.aS, xs, c.C.str, f.place - 1, rfl, Same.seqL S.old h1, h2.up S.old, ?_⟩
        rw [fault_cons] at e
        walk_at "go"
        walk_at "if"
        cases hg : goal (f.place - 1) c.C.str with
        | some z =>
          rw [hg] at e
          walk_at "go"
          intro p np
          walk_at "go"
          have S1 := S.new np (.lst [.int n])
          walk_at "go"
          have S2 := S1.set 4 rfl (.ins c.cE g.2.1 [("place", .int f.place), ("boxes", .ref g.2.2.1), ("pile", .ref p)])
          walk_at "go"
          have S3 := S2.set 4 rfl (.ins c.cE g.2.1 [("place", .int z), ("boxes", .ref g.2.2.1), ("pile", .ref p)])
          refine q _ ?_
          unfold MS.faulted
          rw [e]
          have S4 := S3.less (L' := (p, .lst [.int n]) :: (c.m, _) :: (sd, _) :: (st, _) :: (g.1, _) :: (g.2.2.1, _) :: frs c gs fs) (.cons₂ _ (.cons₂ _ (.cons₂ _ (.cons₂ _ (.cons₂ _ (.cons₂ _ (.cons _ (.refl _))))))))
          have hov' : ov = .non := by rw [ho] at hov; exact hov
          rw [hov'] at S4
          refine InvM.of (gs := (g.1, g.2.1, g.2.2.1, p) :: gs) (fs := { f with place := z, pile := [n] } :: fs) (S4.perm ((List.perm_append_comm (l₁ := [((p, .lst [.int n]) : Addr × HO)]) (l₂ := [(c.m, _), (sd, _), (st, _), (g.1, _), (g.2.2.1, _)])).append_right (frs c gs fs))) (congrArg (· + 1) (by simpa using hl)) rfl
        | none =>
          rw [hg] at e
          walk_at "go"
          have S1 := S.set 2 rfl (.lst (srV gs))
          have S2 := S1.less (L' := mL c dx st sd s.turns s.said ov gs fs) (.cons₂ _ (.cons₂ _ (.cons₂ _ (.cons _ (.cons _ (.cons _ (.refl _)))))))
          exact ⟨fs.length, Nat.lt_succ_self _, gs, fs, _, _, rfl, S2, by simpa using hl, rfl, e⟩
  · obtain ⟨R, v2, v3, rfl, S, hov, e⟩ := hj
    walk_at "go"
    intro p np
    walk_at "go"
    have S1 := (S.newR np (.tup [.str "fault", .int n])).set 0 rfl (.ins c.cM dx [("rows", .ref c.aR), ("stretches", .ref c.aS), ("begins", .ref c.aB), ("boxes", .int c.C.boxes), ("turns", .int s.turns), ("standing", .ref st), ("said", .ref sd), ("outcome", .ref p)])
    refine q _ ?_
    unfold MS.faulted
    rw [e]
    exact InvM.of (gs := []) (fs := []) S1 rfl ⟨p, rfl, upd_same⟩
theorem ca_enter (D : DfM K mg "Machine" cM "enter" "Machine.enter" (inClass (top 7) 2)) (iE : CI K cE fE) (iM : CI K cM fM) (g_DEEPEST : ∃ t, mg "DEEPEST" = some (.int 8 t)) (g_DEEP : ∃ t, mg "DEEP" = some (.int 102 t)) (B : Bi mg)
    (M_fault : CaM P w K mg base CX0 2 cM "fault" (spFault K cM cE)) (c_Entered : CaI P w K mg base CX0 1 "Entered" cE (spNew cE)) : CaM P w K mg base CX0 4 cM "enter" (spEnter K cM cE) := by
  obtain ⟨f_fault, fd_fault, ps_fault, F_fault, hm_fault, b_fault⟩ := M_fault.ex
  have cls_fault := iM.cls
  have sc : FnScope ["self", "function", "number"] ["self", "function", "number"] (defScope (inClass (top 7) 2)) := ⟨rfl, rfl, rfl, by decide +kernel, rfl, by decide +kernel, by decide +kernel⟩
  have nd := sc.nd
  refine D.ca0 sc (fun _ _ _ _ _ _ us hl => match us, hl with | [_, _, _], _ => rfl) (fun vs H Q E h => by obtain ⟨_, _, _, _, _, rfl, _⟩ := h; rfl) (fun f cdv A outer s H vs Q E hr h => ?_)
  obtain ⟨c, s, s', fn, n, rfl, rfl, rfl, rfl, ok, ⟨R, dx, st, sd, ov, gs, S, hl, hov⟩, ho, h8, he, q⟩ := h
  refine ⟨_, (pss_one (ps_if (pt_cmpR op_eq (pe_callB call_lenA rfl B.len PySem.boot_len (pa_cons (pe_fld (pv 0) rfl) pa_nil)) (pe_gi rfl g_DEEPEST) (nomark _)) (pss_one (ps_expr (pe_meth (pv 0) cls_fault hm_fault F_fault (hr.mono (by omega)) b_fault .nil pass0 (pa_cons (pe_gi rfl g_DEEP) pa_nil)))) (pss_one (ps_expr (pe_bm PySem.F.plainAttrs_list PySem.F.slot_list_append PySem.F.type_list_append mt_append (pe_fld (pv 0) rfl) (pa_cons (pe_mk c_Entered hr (by omega) rfl pass0 (pa_cons (pe_ix ix_lt (pe_fld (pv 0) rfl) (pv 1) (fun _ _ => rfl)) (pa_cons (pv 2) (pa_cons (pe_fld (pv 0) rfl) pa_nil)))) pa_nil)))))), ?_⟩
  refine U.w_start (σ' := [some _, some _, some _]) rfl ?_
  walk_at "st"
  have hsr : (srV gs).length = s.fs.length := by rw [srV_len, hl]
  rw [hsr]
  unfold enter at he
  refine it_cases (fun c1 => ?_) fun c1 => ?_
  · rw [if_pos (by omega)] at he
    cases he
    walk_at "go"
    exact ⟨c, s, 102, rfl, rfl, rfl, rfl, ok, ⟨R, dx, st, sd, ov, gs, S, hl, hov⟩, ho, q⟩
  · rw [if_neg (by omega)] at he
    split at he
    case h_2 => cases he
    rename_i b hb
    cases he
    walk_at "go"
    refine w_ixLL (xs := c.C.begins.map .int) (Same.seqL S.old ok.beg) (v := .int b) (atI_map hb) ?_
    walk_at "go"
    intro x dx' nx ndx ne
    have S1 := (S.newX ndx (.own x)).new (p := x) (by rw [upd_ne (Ne.symm ne)]; exact nx) (.ins c.cE dx' [])
    refine ⟨c.R0, c.B, R, _, x, dx', b, n, c.C.boxes, rfl, ok.bxs0, ok.bxs, S1, fun bx pl H' S2 => ⟨rfl, ?_⟩⟩
    have hz : (srV gs).length < sizeLine := by rw [hsr, sizeLine_eq]; omega
    have e4 : H' st = some (.lst (srV gs)) := S2.get 5 rfl
    walk_at "go"
    have S3 := S2.set 5 rfl (.lst (srV gs ++ [.ref x]))
    refine q _ ?_
    have S4 := S3.perm ((List.perm_append_comm (l₁ := [((x, _) : Addr × HO), (bx, _), (pl, _)]) (l₂ := [(c.m, _), (sd, _), (st, _)])).append_right (frs c gs s.fs))
    exact InvM.of (gs := (x, dx', bx, pl) :: gs) (fs := newFr c.C b n :: s.fs) S4 (congrArg (· + 1) hl) hov
end
end M

namespace M
open PySem PySem.Spec PyProof.Rows L2 U MM
section
variable {P : Program} {w : World} {K : PySem.W.Frag} {mg : Str → Option Value} {base : Heap} {cM cE : Addr}
theorem ca_turn (D : Df K mg "_turn" (top 19)) (iE : CI K cE fE) (iM : CI K cM fM) (M_turn : CaM P w K mg base CX0 1 cM "take_turn" (spTurn K cM cE)) : Ca P w K mg base CX0 2 "_turn" (spAct K cM cE 8) := by
  obtain ⟨f_take_turn, fd_take_turn, ps_take_turn, F_take_turn, hm_take_turn, b_take_turn⟩ := M_turn.ex
  have cls_take_turn := iM.cls
  have sc : FnScope ["machine", "now", "row"] ["machine", "now", "row"] (defScope (top 19)) := ⟨rfl, rfl, rfl, by decide +kernel, rfl, by decide +kernel, by decide +kernel⟩
  have nd := sc.nd
  refine D.ca0 sc (fun _ _ _ _ _ _ us hl => match us, hl with | [_, _, _], _ => rfl) (fun vs H Q E h => by obtain ⟨_, _, _, _, _, _, rfl, _⟩ := h; rfl) (fun f cdv A outer s H vs Q E hr h => ?_)
  obtain ⟨c, e, s, s', rv, r, rfl, rfl, rfl, rfl, ok, hf, hr', ⟨R, dx, st, sd, g, gs, f, fs, ef, rfl, S, hl⟩, ho, hb, h8, ha, q⟩ := h
  refine ⟨_, (pss_one (ps_expr (pe_meth0 (pv 0) cls_take_turn hm_take_turn F_take_turn (hr.mono (by omega)) b_take_turn .nil pass0))), ?_⟩
  refine U.w_start (σ' := [some _, some _, some _]) rfl ?_
  walk_at "st"
  obtain rfl : r = .turn := by
    cases r <;> first | rfl | simp [Rw.fi] at hf
  unfold act at ha
  rw [ef] at ha
  simp only at ha
  walk_at "go"
  rw [← ef] at S
  refine ⟨c, s, rfl, rfl, rfl, rfl, ⟨R, dx, st, sd, .non, g :: gs, S, by rw [ef]; exact congrArg (· + 1) hl, by rw [ho]; rfl⟩, ho, fun h H' i => ?_, fun h H' i => ?_⟩
  · rw [if_pos h] at ha
    cases ha
    walk_at "go"
    rw [ef] at i
    exact q _ i
  · rw [if_neg h] at ha
    cases ha
    walk_at "go"
    rw [ef] at i
    exact q _ i
theorem ca_raise (D : Df K mg "_raise" (top 22)) (iE : CI K cE fE) (iM : CI K cM fM) (M_fault : CaM P w K mg base CX0 2 cM "fault" (spFault K cM cE)) : Ca P w K mg base CX0 3 "_raise" (spAct K cM cE 11) := by
  obtain ⟨f_fault, fd_fault, ps_fault, F_fault, hm_fault, b_fault⟩ := M_fault.ex
  have cls_fault := iM.cls
  have sc : FnScope ["machine", "now", "row"] ["machine", "now", "row"] (defScope (top 22)) := ⟨rfl, rfl, rfl, by decide +kernel, rfl, by decide +kernel, by decide +kernel⟩
  have nd := sc.nd
  refine D.ca0 sc (fun _ _ _ _ _ _ us hl => match us, hl with | [_, _, _], _ => rfl) (fun vs H Q E h => by obtain ⟨_, _, _, _, _, _, rfl, _⟩ := h; rfl) (fun f cdv A outer s H vs Q E hr h => ?_)
  obtain ⟨c, e, s, s', rv, r, rfl, rfl, rfl, rfl, ok, hf, hr', ⟨R, dx, st, sd, g, gs, f, fs, ef, rfl, S, hl⟩, ho, hb, h8, ha, q⟩ := h
  refine ⟨_, (pss_one (ps_expr (pe_meth (pv 0) cls_fault hm_fault F_fault (hr.mono (by omega)) b_fault .nil pass0 (pa_cons (pe_bm0 PySem.F.plainAttrs_list PySem.F.slot_list_pop PySem.F.type_list_pop mt_pop (pe_fld (pv 1) rfl)) pa_nil)))), ?_⟩
  refine U.w_start (σ' := [some _, some _, some _]) rfl ?_
  walk_at "st"
  obtain rfl : r = .raise := by
    cases r <;> first | rfl | simp [Rw.fi] at hf
  unfold act at ha
  rw [ef] at ha
  simp only at ha
  split at ha
  case h_2 => cases ha
  rename_i z pl hz
  cases ha
  rw [show f = ⟨f.place, f.boxes, z :: pl⟩ from by rw [← hz]] at S
  walk_at "go"
  have S1 := S.set 5 rfl (.lst (plV pl))
  refine ⟨c, { s with fs := { f with pile := pl } :: fs }, z, rfl, rfl, rfl, rfl, ok, ⟨R, dx, st, sd, .non, g :: gs, S1, congrArg (· + 1) hl, by show OutV R .non s.out; rw [ho]; rfl⟩, ho, fun H' i => ?_⟩
  walk_at "go"
  exact q _ i
theorem ca_reckon (D : Df K mg "_reckon" (top 15)) (iE : CI K cE fE) (iM : CI K cM fM) (g_NOUGHT : ∃ t, mg "NOUGHT" = some (.int 101 t)) (M_fault : CaM P w K mg base CX0 2 cM "fault" (spFault K cM cE))
    (c_reckoned : Ca P w K mg base CX0 40 "reckoned" spReck) : Ca P w K mg base CX0 41 "_reckon" (spAct K cM cE 4) := by
  obtain ⟨f_fault, fd_fault, ps_fault, F_fault, hm_fault, b_fault⟩ := M_fault.ex
  have cls_fault := iM.cls
  have sc : FnScope ["machine", "now", "row", "other", "one", "both"] ["machine", "now", "row"] (defScope (top 15)) := ⟨rfl, rfl, rfl, by decide +kernel, rfl, by decide +kernel, by decide +kernel⟩
  have nd := sc.nd
  refine D.ca0 sc (fun _ _ _ _ _ _ us hl => match us, hl with | [_, _, _], _ => rfl) (fun vs H Q E h => by obtain ⟨_, _, _, _, _, _, rfl, _⟩ := h; rfl) (fun f cdv A outer s H vs Q E hr h => ?_)
  obtain ⟨c, e, s, s', rv, r, rfl, rfl, rfl, rfl, ok, hf, hr', ⟨R, dx, st, sd, g, gs, f, fs, ef, rfl, S, hl⟩, ho, hb, h8, ha, q⟩ := h
  refine ⟨_, (pss_cons (ps_set (i := 3) nd rfl (by first | exact Or.inl rfl | exact Or.inr rfl) (pe_bm0 PySem.F.plainAttrs_list PySem.F.slot_list_pop PySem.F.type_list_pop mt_pop (pe_fld (pv 1) rfl)))
    (pss_cons (ps_set (i := 4) nd rfl (by first | exact Or.inl rfl | exact Or.inr rfl) (pe_bm0 PySem.F.plainAttrs_list PySem.F.slot_list_pop PySem.F.type_list_pop mt_pop (pe_fld (pv 1) rfl)))
    (pss_cons (ps_set (i := 5) nd rfl (by first | exact Or.inl rfl | exact Or.inr rfl) (pe_ca c_reckoned hr (by omega) rfl pass0 (pa_cons (pe_ix ix_lt (pv 2) pe_int (fun _ _ => rfl)) (pa_cons (pv 4) (pa_cons (pv 3) pa_nil)))))
    (pss_one (ps_if (pt_cmpR op_isNo (pv 5) pe_non (nomark _)) (pss_one (ps_expr (pe_meth (pv 0) cls_fault hm_fault F_fault (hr.mono (by omega)) b_fault .nil pass0 (pa_cons (pe_gi rfl g_NOUGHT) pa_nil)))) (pss_one (ps_expr (pe_bm PySem.F.plainAttrs_list PySem.F.slot_list_append PySem.F.type_list_append mt_append (pe_fld (pv 1) rfl) (pa_cons (pv 5) pa_nil))))))))), ?_⟩
  refine U.w_start (σ' := [some _, some _, some _, none, none, none]) rfl ?_
  walk_at "st"
  obtain ⟨o, rfl⟩ : ∃ o, r = .rek o := by
    cases r <;> first | exact ⟨_, rfl⟩ | simp [Rw.fi] at hf
  obtain ⟨p, v1, rfl, hT, h1⟩ := dp_tup1 hr'
  cases dp_str h1
  have hp : f.pile.length ≤ 16000000 := hb.2 f (by rw [ef]; exact List.mem_cons_self ..)
  unfold act at ha
  rw [ef] at ha
  simp only at ha
  split at ha
  case h_2 => cases ha
  rename_i b a pl hz
  rw [hz] at hp
  rw [show f = ⟨f.place, f.boxes, b :: a :: pl⟩ from by rw [← hz]] at S
  walk_at "go"
  have S1 := S.set 5 rfl (.lst (plV (a :: pl)))
  walk_at "go"
  have S2 := S1.set 5 rfl (.lst (plV pl))
  walk_at "go"
  refine ⟨o, a, b, rfl, ?_⟩
  have hp2 : (plV pl).length < sizeLine := by rw [plV_len]; simp at hp; exact szl (by omega)
  split at ha
  · rename_i z hz2
    rw [hz2]
    cases ha
    walk_at "go"
    have S3 := S2.set 5 rfl (.lst (plV pl ++ [.int z]))
    refine q _ ?_
    rw [ho]
    exact InvM.of (gs := g :: gs) (fs := { f with pile := z :: pl } :: fs) S3 (congrArg (· + 1) hl) rfl
  · rename_i hz2
    rw [hz2]
    cases ha
    walk_at "go"
    refine ⟨c, { s with fs := { f with pile := pl } :: fs }, 101, rfl, rfl, rfl, rfl, ok, ⟨R, dx, st, sd, .non, g :: gs, S2, congrArg (· + 1) hl, by show OutV R .non s.out; rw [ho]; rfl⟩, ho, fun H' i => ?_⟩
    walk_at "go"
    exact q _ i
theorem ca_call (D : Df K mg "_call" (top 20)) (iE : CI K cE fE) (iM : CI K cM fM) (M_turn : CaM P w K mg base CX0 1 cM "take_turn" (spTurn K cM cE)) (M_enter : CaM P w K mg base CX0 4 cM "enter" (spEnter K cM cE)) : Ca P w K mg base CX0 5 "_call" (spAct K cM cE 9) := by
  obtain ⟨f_take_turn, fd_take_turn, ps_take_turn, F_take_turn, hm_take_turn, b_take_turn⟩ := M_turn.ex
  obtain ⟨f_enter, fd_enter, ps_enter, F_enter, hm_enter, b_enter⟩ := M_enter.ex
  have cls_take_turn := iM.cls
  have cls_enter := iM.cls
  have sc : FnScope ["machine", "now", "row", "number"] ["machine", "now", "row"] (defScope (top 20)) := ⟨rfl, rfl, rfl, by decide +kernel, rfl, by decide +kernel, by decide +kernel⟩
  have nd := sc.nd
  refine D.ca0 sc (fun _ _ _ _ _ _ us hl => match us, hl with | [_, _, _], _ => rfl) (fun vs H Q E h => by obtain ⟨_, _, _, _, _, _, rfl, _⟩ := h; rfl) (fun f cdv A outer s H vs Q E hr h => ?_)
  obtain ⟨c, e, s, s', rv, r, rfl, rfl, rfl, rfl, ok, hf, hr', ⟨R, dx, st, sd, g, gs, f, fs, ef, rfl, S, hl⟩, ho, hb, h8, ha, q⟩ := h
  refine ⟨_, (pss_cons (ps_set (i := 3) nd rfl (by first | exact Or.inl rfl | exact Or.inr rfl) (pe_bm0 PySem.F.plainAttrs_list PySem.F.slot_list_pop PySem.F.type_list_pop mt_pop (pe_fld (pv 1) rfl)))
    (pss_one (ps_if (pt_val (pe_meth0 (pv 0) cls_take_turn hm_take_turn F_take_turn (hr.mono (by omega)) b_take_turn .nil pass0)) (pss_one (ps_expr (pe_meth (pv 0) cls_enter hm_enter F_enter (hr.mono (by omega)) b_enter .nil pass0 (pa_cons (pe_ix ix_lt (pv 2) pe_int (fun _ _ => rfl)) (pa_cons (pv 3) pa_nil))))) pss_nil))), ?_⟩
  refine U.w_start (σ' := [some _, some _, some _, none]) rfl ?_
  walk_at "st"
  obtain ⟨n, rfl⟩ : ∃ n, r = .call n := by
    cases r <;> first | exact ⟨_, rfl⟩ | simp [Rw.fi] at hf
  obtain ⟨p, v1, v2, rfl, hT, h1, h2⟩ := dp_tup2 hr'
  cases dp_int h2
  unfold act at ha
  rw [ef] at ha
  simp only at ha
  split at ha
  case h_2 => cases ha
  rename_i z pl hz
  rw [show f = ⟨f.place, f.boxes, z :: pl⟩ from by rw [← hz]] at S
  walk_at "go"
  have S1 := S.set 5 rfl (.lst (plV pl))
  walk_at "go"
  refine ⟨c, { s with fs := { f with pile := pl } :: fs }, rfl, rfl, rfl, rfl, ⟨R, dx, st, sd, .non, g :: gs, S1, congrArg (· + 1) hl, by show OutV R .non s.out; rw [ho]; rfl⟩, ho, fun h H' i => ?_, fun h H' i => ?_⟩
  · rw [if_pos h] at ha
    cases ha
    walk_at "go"
    exact q _ i
  · rw [if_neg h] at ha
    walk_at "go"
    obtain ⟨R, dx, st, sd, ov, gs', S2, hl2, hov⟩ := i.ex
    walk_at "go"
    exact ⟨c, _, s', n, z, rfl, rfl, rfl, rfl, ok, i, ho, by show (_ :: fs).length ≤ 8; rw [ef] at h8; exact h8, ha, fun H2 i2 => by walk_at "go"; exact q _ i2⟩
theorem ca_back (D : Df K mg "_back" (top 21)) (iE : CI K cE fE) (iM : CI K cM fM) : Ca P w K mg base CX0 1 "_back" (spAct K cM cE 10) := by
  have sc : FnScope ["machine", "now", "row", "number"] ["machine", "now", "row"] (defScope (top 21)) := ⟨rfl, rfl, rfl, by decide +kernel, rfl, by decide +kernel, by decide +kernel⟩
  have nd := sc.nd
  refine D.ca0 sc (fun _ _ _ _ _ _ us hl => match us, hl with | [_, _, _], _ => rfl) (fun vs H Q E h => by obtain ⟨_, _, _, _, _, _, rfl, _⟩ := h; rfl) (fun f cdv A outer s H vs Q E hr h => ?_)
  obtain ⟨c, e, s, s', rv, r, rfl, rfl, rfl, rfl, ok, hf, hr', ⟨R, dx, st, sd, g, gs, f, fs, ef, rfl, S, hl⟩, ho, hb, h8, ha, q⟩ := h
  refine ⟨_, (pss_cons (ps_set (i := 3) nd rfl (by first | exact Or.inl rfl | exact Or.inr rfl) (pe_bm0 PySem.F.plainAttrs_list PySem.F.slot_list_pop PySem.F.type_list_pop mt_pop (pe_fld (pv 1) rfl)))
    (pss_cons (ps_expr (pe_bm0 PySem.F.plainAttrs_list PySem.F.slot_list_pop PySem.F.type_list_pop mt_pop (pe_fld (pv 0) rfl)))
    (pss_one (ps_if (pt_tru (pe_fld (pv 0) rfl)) (pss_one (ps_expr (pe_bm PySem.F.plainAttrs_list PySem.F.slot_list_append PySem.F.type_list_append mt_append (pe_fld (pe_ix ix_lt (pe_fld (pv 0) rfl) (pe_un un_neg pe_int) (fun _ _ => rfl)) rfl) (pa_cons (pv 3) pa_nil)))) (pss_one (ps_fld (pv 0) (pe_tup (pa_cons pe_str (pa_cons (pv 3) pa_nil))) rfl)))))), ?_⟩
  refine U.w_start (σ' := [some _, some _, some _, none]) rfl ?_
  walk_at "st"
  obtain rfl : r = .back := by
    cases r <;> first | rfl | simp [Rw.fi] at hf
  unfold act at ha
  rw [ef] at ha
  simp only at ha
  split at ha
  case h_2 => cases ha
  rename_i z pl hz
  rw [show f = ⟨f.place, f.boxes, z :: pl⟩ from by rw [← hz]] at S
  walk_at "go"
  have S1 := S.set 5 rfl (.lst (plV pl))
  walk_at "go"
  have S2 := S1.set 2 rfl (.lst (srV gs))
  have S3 := S2.less (L' := mL c dx st sd s.turns s.said .non gs fs) (.cons₂ _ (.cons₂ _ (.cons₂ _ (.cons _ (.cons _ (.cons _ (.refl _)))))))
  walk_at "go"
  cases gs with
  | nil =>
    cases fs with
    | cons f fs => simp at hl
    | nil =>
      cases ha
      rw [show (!(srV ([] : List Gh)).isEmpty) = false from rfl]
      walk_at "go"
      intro p np
      walk_at "go"
      have S4 := (S3.newR np (.tup [.str "answer", .int z])).set 0 rfl (.ins c.cM dx [("rows", .ref c.aR), ("stretches", .ref c.aS), ("begins", .ref c.aB), ("boxes", .int c.C.boxes), ("turns", .int s.turns), ("standing", .ref st), ("said", .ref sd), ("outcome", .ref p)])
      exact q _ (InvM.of (gs := []) (fs := []) S4 rfl ⟨p, rfl, upd_same⟩)
  | cons g2 gs =>
    cases fs with
    | nil => simp at hl
    | cons f2 fs =>
      cases ha
      have hp2 : (plV f2.pile).length < sizeLine := by rw [plV_len]; exact szl (hb.2 f2 (by rw [ef]; simp))
      have hb1 : (!(srV (g2 :: gs)).isEmpty) = true := by
        show (!(srV gs ++ [V.ref g2.1]).isEmpty) = true
        simp
      rw [hb1]
      walk_at "go"
      refine w_ixLL (xs := srV gs ++ [V.ref g2.1]) (SqL.of (S3.get 2 rfl)) (v := .ref g2.1) (atI_last _ _) ?_
      walk_at "go"
      have S4 := S3.set 5 rfl (.lst (plV f2.pile ++ [.int z]))
      refine q _ ?_
      rw [ho]
      exact InvM.of (gs := g2 :: gs) (fs := { f2 with pile := z :: f2.pile } :: fs) S4 (by simpa using hl) rfl
end
end M

namespace M
open PySem PySem.Spec PyProof.Rows L2 U MM
section
variable {P : Program} {w : World} {K : PySem.W.Frag} {mg : Str → Option Value} {base : Heap} {cM cE : Addr}
theorem enc_head {R : Hp} {v : V} {r : Rw} (h : Dp K R v r.enc) : ∃ p vs, v = .ref p ∧ SqT K R p (.str (Rw.word r) :: vs) := by
  cases r <;> (
    obtain ⟨p, vs, rfl, hs, ha⟩ := dp_tup h
    obtain ⟨v1, w1, rfl, h1, _⟩ := dpa_cons ha
    cases dp_str h1
    exact ⟨p, w1, rfl, hs⟩)
theorem _root_.L2.DpAll.atI {K : PySem.W.Frag} {R : Hp} {xs : List V} {ds : List PyData} {i : Int} {d : PyData} (h : DpAll K R xs ds) (e : atI ds i = some d) : ∃ v, L2.atI xs i = some v ∧ Dp K R v d := by
  unfold L2.atI at e ⊢
  rw [h.len]
  obtain ⟨j, h1, h2⟩ := Option.bind_eq_some_iff.mp e
  obtain ⟨v, h3, h4⟩ := h.getD h2
  exact ⟨v, by rw [h1]; exact h3, h4⟩
theorem atI_mapE {α β : Type} {f : α → β} {xs : List α} {i : Int} {x : α} (e : L2.atI xs i = some x) : L2.atI (xs.map f) i = some (f x) := by
  unfold L2.atI at e ⊢
  obtain ⟨j, h1, h2⟩ := Option.bind_eq_some_iff.mp e
  rw [List.length_map, h1]
  show (xs.map f)[j]? = _
  rw [List.getElem?_map, h2]
  rfl
theorem atI_zero {α : Type} (x : α) (xs : List α) : L2.atI (x :: xs) 0 = some x := atI_nat (j := 0) rfl
def spStep (K : PySem.W.Frag) (cM cE : Addr) : Sp := fun vs H Q _ => ∃ (c : Mc) (s s' : MS), vs = [.ref c.m] ∧ c.K = K ∧ c.cM = cM ∧ c.cE = cE ∧ c.Ok ∧ InvM c s H ∧ s.out = none ∧ Small 16000000 s ∧ s.fs.length ≤ 8 ∧ MM.step c.C s = some s' ∧ ∀ H', InvM c s' H' → Q .non H'
/-- what the table of acts holds -/
def Acts (w : World) (K : PySem.W.Frag) (cM cE aA : Addr) (Hl : Addr → Sp → Prop) : Prop := ∀ r : Rw, ∃ f, KDct K w aA (Rw.word r) (.ref f) ∧ Hl f (spAct K cM cE (Rw.fi r))
theorem ca_step (D : Df K mg "_step" (top 10)) (iE : CI K cE fE) (iM : CI K cM fM) {aA : Addr} {Hl : Addr → Sp → Prop} (g_ACTS : mg "ACTS" = some (.ref aA)) (tab : Acts w K cM cE aA Hl)
    (hA : ∀ f sp, Hl f sp → Cf P w K mg base CX0 41 f sp) : Ca P w K mg base CX0 42 "_step" (spStep K cM cE) := by
  have sc : FnScope ["machine", "now", "row", "act"] ["machine"] (defScope (top 10)) := ⟨rfl, rfl, rfl, by decide +kernel, rfl, by decide +kernel, by decide +kernel⟩
  have nd := sc.nd
  refine D.ca0 sc (fun _ _ _ _ _ _ us hl => match us, hl with | [_], _ => rfl) (fun vs H Q E h => by obtain ⟨_, _, _, rfl, _⟩ := h; rfl) (fun f cdv A outer s H vs Q E hr h => ?_)
  obtain ⟨c, s, s', rfl, rfl, rfl, rfl, ok, ⟨R, dx, st, sd, ov, gs, S, hl, hov⟩, ho, hb, h8, he, q⟩ := h
  refine ⟨_, (pss_cons (ps_set (i := 1) nd rfl (by first | exact Or.inl rfl | exact Or.inr rfl) (pe_ix ix_lt (pe_fld (pv 0) rfl) (pe_un un_neg pe_int) (fun _ _ => rfl)))
    (pss_cons (ps_set (i := 2) nd rfl (by first | exact Or.inl rfl | exact Or.inr rfl) (pe_ix ix_lt (pe_fld (pv 0) rfl) (pe_fld (pv 1) rfl) (fun _ _ => rfl)))
    (pss_cons (ps_fldaug (pv 1) pe_int in_add)
    (pss_cons (ps_set (i := 3) nd rfl (by first | exact Or.inl rfl | exact Or.inr rfl) (pe_ix ix_kdict (pe_gr rfl g_ACTS) (pe_ix ix_lt (pv 2) pe_int (fun _ _ => rfl)) (fun _ _ => rfl)))
    (pss_one (ps_expr (pe_callH hA hr (by omega) pass0 (i := 3) rfl (by first | exact Or.inl rfl | exact Or.inr (Or.inl rfl)) (pa_cons (pv 0) (pa_cons (pv 1) (pa_cons (pv 2) pa_nil)))))))))), ?_⟩
  refine U.w_start (σ' := [some _, none, none, none]) rfl ?_
  walk_at "st"
  unfold MM.step at he
  split at he
  · cases he
  rename_i f fs ef
  split at he
  case h_2 => cases he
  rename_i r hr'
  obtain ⟨xs, h1, h2⟩ := ok.rows
  obtain ⟨rv, hrv, hd⟩ := h2.atI (atI_mapE hr')
  have hov' : ov = .non := by rw [ho] at hov; exact hov
  subst hov'
  rw [ef] at S hl
  cases gs with
  | nil => simp at hl
  | cons g gs =>
    refine w_ixLL (xs := srV gs ++ [V.ref g.1]) (SqL.of (S.get 2 rfl)) (v := .ref g.1) (atI_last _ _) ?_
    walk_at "go"
    refine w_ixLL (xs := xs) (Same.seqL S.old h1) (v := rv) hrv ?_
    walk_at "go"
    obtain ⟨p, vs, rfl, hT⟩ := enc_head hd
    have S1 := S.set 3 rfl (.ins c.cE g.2.1 [("place", .int (f.place + 1)), ("boxes", .ref g.2.2.1), ("pile", .ref g.2.2.2)])
    walk_at "go"
    obtain ⟨fa, hk, hHl⟩ := tab r
    refine w_ixD hk ?_
    walk_at "go"
    refine w_callH (f := fa) rfl hHl ?_
    walk_at "go"
    have ef2 : ({ s with fs := { f with place := f.place + 1 } :: fs } : MS).fs.length ≤ 8 := by rw [ef] at h8; exact h8
    refine ⟨c, g.1, { s with fs := { f with place := f.place + 1 } :: fs }, s', _, r, rfl, rfl, rfl, rfl, ok, rfl, hd, ⟨R, dx, st, sd, g, gs, { f with place := f.place + 1 }, fs, rfl, rfl, S1, by simpa using hl⟩, ho, ⟨hb.1, fun x hx => ?_⟩, ef2, he, fun H' i => ?_⟩
    · rcases List.mem_cons.mp hx with rfl | hx
      · exact hb.2 f (by rw [ef]; exact List.mem_cons_self ..)
      · exact hb.2 x (by rw [ef]; exact List.mem_cons_of_mem _ hx)
    · walk_at "go"
      exact q _ i
def spNewM (K : PySem.W.Frag) (cM : Addr) : Sp := fun vs H Q _ => ∃ (R0 B R : Hp) (L : List (Addr × HO)) (a dx pp aR aS aB : Addr) (nb turns : Int), vs = [.ref a, .ref pp, .int turns] ∧ Sta [] R0 B R H ((a, .ins cM dx []) :: L) ∧ SqT K R0 pp [.ref aR, .ref aS, .ref aB, .int nb] ∧
  ∀ st sd H', Sta [] R0 B R H' ((a, .ins cM dx [("rows", .ref aR), ("stretches", .ref aS), ("begins", .ref aB), ("boxes", .int nb), ("turns", .int turns), ("standing", .ref st), ("said", .ref sd), ("outcome", .non)]) :: (sd, .lst []) :: (st, .lst []) :: L) → Q .non H'
theorem ca_newM (D : DfI K mg "Machine" cM "Machine.__init__" (inClass (top 7) 0)) (iM : CI K cM fM) : CaI P w K mg base CX0 1 "Machine" cM (spNewM K cM) := by
  have sc : FnScope ["self", "parts", "turns", "rows", "stretches", "begins", "boxes"] ["self", "parts", "turns"] (defScope (inClass (top 7) 0)) := ⟨rfl, rfl, rfl, by decide +kernel, rfl, by decide +kernel, by decide +kernel⟩
  have nd := sc.nd
  refine D.ca0 sc (fun _ _ _ _ _ _ us hl => match us, hl with | [_, _, _], _ => rfl) (fun vs H Q E h => by obtain ⟨_, _, _, _, _, _, _, _, _, _, _, _, rfl, _⟩ := h; rfl) (fun f cdv A outer s H vs Q E hr h => ?_)
  obtain ⟨R0, B, R, L, a, dx, pp, aR, aS, aB, nb, turns, rfl, S, hT, q⟩ := h
  refine ⟨_, (pss_cons (ps_asg (pv 1) (pg_tup rfl (pgs_cons (pg_name (i := 3) nd rfl (by first | exact Or.inl rfl | exact Or.inr rfl)) (pgs_cons (pg_name (i := 4) nd rfl (by first | exact Or.inl rfl | exact Or.inr rfl)) (pgs_cons (pg_name (i := 5) nd rfl (by first | exact Or.inl rfl | exact Or.inr rfl)) (pgs_cons (pg_name (i := 6) nd rfl (by first | exact Or.inl rfl | exact Or.inr rfl)) pgs_nil))))))
    (pss_cons (ps_fld (pv 0) (pv 3) rfl)
    (pss_cons (ps_fld (pv 0) (pv 4) rfl)
    (pss_cons (ps_fld (pv 0) (pv 5) rfl)
    (pss_cons (ps_fld (pv 0) (pv 6) rfl)
    (pss_cons (ps_fld (pv 0) (pv 2) rfl)
    (pss_cons (ps_fld (pv 0) (pe_lst pa_nil) rfl)
    (pss_cons (ps_fld (pv 0) (pe_lst pa_nil) rfl)
    (pss_one (ps_fld (pv 0) pe_non rfl)))))))))), ?_⟩
  refine U.w_start (σ' := [some _, some _, some _, none, none, none, none]) rfl ?_
  walk_at "st"
  have S1 := S.set 0 rfl (.ins cM dx [("rows", .ref aR)])
  walk_at "go"
  have S2 := S1.set 0 rfl (.ins cM dx [("rows", .ref aR), ("stretches", .ref aS)])
  walk_at "go"
  have S3 := S2.set 0 rfl (.ins cM dx [("rows", .ref aR), ("stretches", .ref aS), ("begins", .ref aB)])
  walk_at "go"
  have S4 := S3.set 0 rfl (.ins cM dx [("rows", .ref aR), ("stretches", .ref aS), ("begins", .ref aB), ("boxes", .int nb)])
  walk_at "go"
  have S5 := S4.set 0 rfl (.ins cM dx [("rows", .ref aR), ("stretches", .ref aS), ("begins", .ref aB), ("boxes", .int nb), ("turns", .int turns)])
  walk_at "go"
  intro st nst
  have S6 := S5.new nst (.lst [])
  walk_at "go"
  have S7 := S6.set 1 rfl (.ins cM dx [("rows", .ref aR), ("stretches", .ref aS), ("begins", .ref aB), ("boxes", .int nb), ("turns", .int turns), ("standing", .ref st)])
  walk_at "go"
  intro sd nsd
  have S8 := S7.new nsd (.lst [])
  walk_at "go"
  have S9 := S8.set 2 rfl (.ins cM dx [("rows", .ref aR), ("stretches", .ref aS), ("begins", .ref aB), ("boxes", .int nb), ("turns", .int turns), ("standing", .ref st), ("said", .ref sd)])
  walk_at "go"
  have S10 := S9.set 2 rfl (.ins cM dx [("rows", .ref aR), ("stretches", .ref aS), ("begins", .ref aB), ("boxes", .int nb), ("turns", .int turns), ("standing", .ref st), ("said", .ref sd), ("outcome", .non)])
  refine q st sd _ (S10.perm ?_)
  exact (List.perm_append_comm (l₁ := [((sd, .lst []) : Addr × HO), (st, .lst [])]) (l₂ := [(a, _)])).append_right L
def spRun (K : PySem.W.Frag) : Sp := fun vs H Q _ => ∃ (C : Cd) (p : Addr) (number turns : Int) (n : Nat) (s0 s : MS) (o : Ou), vs = [.ref p, .int number, .int turns] ∧ Dp K H (.ref p) C.enc ∧ 0 ≤ C.boxes ∧ C.boxes ≤ 100000 ∧ MM.init C number turns = some s0 ∧ runs C n s0 = some s ∧ s.out = some o ∧ n ≤ 15000000 ∧
  ∀ R' H' v, Gw [] H H R' H' → Dp K R' v (outEnc s.said o) → Q v H'
theorem init_small {C : Cd} {number turns : Int} {s : MS} (h : MM.init C number turns = some s) : Small 1 s ∧ s.fs.length ≤ 8 ∧ s.out = none := by
  unfold MM.init MM.enter at h
  rw [if_neg (show ¬ ([] : List MM.Fr).length = 8 by decide)] at h
  split at h
  · cases h
    exact ⟨⟨Nat.zero_le _, fun f hf => by
      rcases List.mem_cons.mp hf with rfl | hf
      · exact Nat.zero_le _
      · cases hf⟩, (show 1 ≤ 8 by decide), rfl⟩
  · cases h
theorem ca_run (D : Df K mg "run" (top 9)) (iE : CI K cE fE) (iM : CI K cM fM) (c__step : Ca P w K mg base CX0 42 "_step" (spStep K cM cE)) (c_Machine : CaI P w K mg base CX0 1 "Machine" cM (spNewM K cM))
    (M_enter : CaM P w K mg base CX0 4 cM "enter" (spEnter K cM cE)) : Ca P w K mg base CX0 43 "run" (spRun K) := by
  obtain ⟨f_enter, fd_enter, ps_enter, F_enter, hm_enter, b_enter⟩ := M_enter.ex
  have cls_enter := iM.cls
  have sc : FnScope ["parts", "number", "turns", "machine", "word", "worth"] ["parts", "number", "turns"] (defScope (top 9)) := ⟨rfl, rfl, rfl, by decide +kernel, rfl, by decide +kernel, by decide +kernel⟩
  have nd := sc.nd
  refine D.ca0 sc (fun _ _ _ _ _ _ us hl => match us, hl with | [_, _, _], _ => rfl) (fun vs H Q E h => by obtain ⟨_, _, _, _, _, _, _, _, rfl, _⟩ := h; rfl) (fun f cdv A outer s H vs Q E hr h => ?_)
  obtain ⟨C, p, number, turns, n, s0, s, o, rfl, hC, hb0, hb1, hi, hn, ho, hn1, q⟩ := h
  refine ⟨_, (pss_cons (ps_set (i := 3) nd rfl (by first | exact Or.inl rfl | exact Or.inr rfl) (pe_mk c_Machine hr (by omega) rfl pass0 (pa_cons (pv 0) (pa_cons (pv 2) pa_nil))))
    (pss_cons (ps_expr (pe_meth (pv 3) cls_enter hm_enter F_enter (hr.mono (by omega)) b_enter .nil pass0 (pa_cons pe_int (pa_cons (pv 1) pa_nil))))
    (pss_cons (ps_while PassesOwn.never (pt_cmpR op_isNo (pe_fld (pv 3) rfl) pe_non (nomark _)) (pss_one (ps_expr (pe_ca c__step hr (by omega) rfl pass0 (pa_cons (pv 3) pa_nil)))))
    (pss_cons (ps_asg (pe_fld (pv 3) rfl) (pg_tup rfl (pgs_cons (pg_name (i := 4) nd rfl (by first | exact Or.inl rfl | exact Or.inr rfl)) (pgs_cons (pg_name (i := 5) nd rfl (by first | exact Or.inl rfl | exact Or.inr rfl)) pgs_nil))))
    (pss_one (ps_ret (pe_tup (pa_cons (pe_fld (pv 3) rfl) (pa_cons (pv 4) (pa_cons (pv 5) pa_nil)))))))))), ?_⟩
  refine U.w_start (σ' := [some _, some _, some _, none, none, none]) rfl ?_
  walk_at "st"
  obtain ⟨p', vR, vS, vB, vN, ep, hT, hR, hSt, hBe, hNb⟩ := dp_tup4 hC
  cases ep
  obtain ⟨aR, xR, rfl, hR1, hR2⟩ := dp_lst hR
  obtain ⟨aS, xS, rfl, hS1, hS2⟩ := dp_lst hSt
  obtain ⟨aB, xB, rfl, hB1, hB2⟩ := dp_lst hBe
  cases dp_int hNb
  have eB := dpAll_ints hB2
  subst eB
  intro m dm nm ndm ne
  have S1 := ((Sta.start (W := []) (Same.refl H)).newX ndm (.own m)).new (p := m) (by rw [upd_ne (Ne.symm ne)]; exact nm) (.ins cM dm [])
  refine ⟨H, H, H, [], m, dm, p, aR, aS, aB, C.boxes, turns, rfl, S1, hT, fun st sd H1 S2 => ⟨rfl, ?_⟩⟩
  walk_at "go"
  let c : Mc := ⟨K, cM, cE, H, H, C, aR, aS, aB, m⟩
  have ok : c.Ok := ⟨⟨_, hR1, hR2⟩, ⟨_, hS1, hS2⟩, hB1, hb0, hb1⟩
  refine ⟨c, ⟨turns, [], [], none⟩, s0, 0, number, rfl, rfl, rfl, rfl, ok, ⟨H, dm, st, sd, .non, [], S2, rfl, rfl⟩, rfl, (show 0 ≤ 8 by decide), hi, fun H2 i2 => ?_⟩
  walk_at "go"
  obtain ⟨hs0, hl0, ho0⟩ := init_small hi
  refine w_lpJ (by walk_at "set") (fun σ' H' => σ' = [some (.ref p), some (.int number), some (.int turns), some (.ref m), none, none] ∧ InvM c s H') (fun nx' kj => ?_) (fun σ' H' hj => ?_)
  · refine w_while (fun k σ' H' => ∃ j s1, σ' = [some (.ref p), some (.int number), some (.int turns), some (.ref m), none, none] ∧ InvM c s1 H' ∧ runs C k s1 = some s ∧ j + k = n ∧ Small (j + 1) s1 ∧ s1.fs.length ≤ 8) n ⟨0, s0, rfl, i2, hn, Nat.zero_add _, hs0, hl0⟩ (fun k σ' H' hw => ?_)
    obtain ⟨j, s1, rfl, i, hk, hjk, hsm, hl8⟩ := hw
    have i' := i
    obtain ⟨R, dx, st, sd, ov, gs, S, hl, hov⟩ := i
    walk_at "go"
    cases e1 : s1.out with
    | none =>
      rw [e1] at hov
      cases hov
      walk_at "go"
      cases k with
      | zero =>
        have e2 : s1 = s := Option.some.inj hk
        rw [e2, ho] at e1
        cases e1
      | succ k =>
        obtain ⟨_, t, ht, hk2⟩ := runs_succ hk
        refine w_whT ?_
        walk_at "go"
        refine ⟨c, s1, t, rfl, rfl, rfl, rfl, ok, i', e1, hsm.mono (by omega), hl8, ht, fun H3 i3 => ?_⟩
        walk_at "go"
        exact ⟨k, Nat.lt_succ_self _, j + 1, t, rfl, i3, hk2, by omega, step_small hsm ht, step_len hl8 ht⟩
    | some o1 =>
      rw [e1] at hov
      obtain ⟨po, rfl, hpo⟩ := hov
      walk_at "go"
      refine w_whF ?_
      cases k with
      | zero =>
        have e2 : s1 = s := Option.some.inj hk
        exact kj _ _ ⟨rfl, by rw [← e2]; exact i'⟩
      | succ k =>
        obtain ⟨z, _⟩ := runs_succ hk
        rw [e1] at z
        cases z
  · obtain ⟨rfl, i⟩ := hj
    obtain ⟨R, dx, st, sd, ov, gs, S, hl, hov⟩ := i
    rw [ho] at hov
    obtain ⟨po, rfl, hpo⟩ := hov
    have hT2 : SqT K H' po [.str o.word, .int o.num] := SqT.of (S.sub' _ _ hpo)
    walk_at "go"
    intro p2 np2
    have S3 := S.perm (L' := (sd, .lst (s.said.map .int)) :: (m, _) :: (st, _) :: frs c gs s.fs) (.swap _ _ _)
    have S4 := S3.frz.newR np2 (.tup [.ref sd, .str o.word, .int o.num])
    refine q _ _ _ S4.g ?_
    have npR := S3.frz.g.sub.free np2
    refine .tup (SqT.of upd_same) (.cons (.lst (SqL.of (xs := s.said.map .int) ?_) (.ints _)) (.cons (.str _) (.cons (.int _) .nil)))
    rw [upd_ne (ne_of_none (L2.upd_same (H := R) (o := .lst (s.said.map .int))) npR)]
    exact upd_same
end
end M

namespace LC
open PySem PySem.Spec PyProof.Rows L2 U MM M
/-! ### small helpers of the laws -/
def cellAt (ns : List Int) (k : Int) : Int := (ns[k.toNat]?).getD 0
def numb (c : Int) : Int := if c % 5 = 4 then c / 5 % 10 ^ Int.toNat 30 - 5 * 10 ^ Int.toNat 29 else c / 5 % 8 - 2
def spCel (K : PySem.W.Frag) : Sp := fun vs H Q _ => ∃ (a : Addr) (ns : List Int) (k : Int), vs = [.ref a, .int k] ∧ SqL K H a (ns.map V.int) ∧ 0 ≤ k ∧ Q (.int (cellAt ns k)) H
def spNumb : Sp := fun vs H Q _ => ∃ (c : Int), vs = [.int c] ∧ Q (.int (numb c)) H
def spWhole : Sp := fun vs H Q _ => ∃ (c : Int), vs = [.int c] ∧ Q (.bl true) H
theorem cut2 (ns : List Int) : cutV (ns.map V.int) (some 2) none = (ns.drop 2).map V.int := by
  unfold cutV
  rw [HT.sIx_none, show (2 : Int) = ((2 : Nat) : Int) from rfl, HT.sIx_nat, List.map_drop]
  by_cases h2 : 2 ≤ ns.length
  · rw [Nat.min_eq_left (by simpa using h2), List.take_of_length_le (by simp)]
  · rw [Nat.min_eq_right (by simp; omega), List.drop_eq_nil_of_le (by simp), List.drop_eq_nil_of_le (by simp; omega)]
    simp
theorem last_at (l : List V) (v : V) : atI (l ++ [v]) (((l ++ [v]).length : Nat) - 1 : Int) = some v := by
  have e : (((l ++ [v]).length : Nat) - 1 : Int) = ((l.length : Nat) : Int) := by
    rw [List.length_append]
    show (((l.length + 1 : Nat) : Int) - 1) = _
    omega
  rw [e]
  exact atI_nat (by simp)
theorem w_cell {K : PySem.W.Frag} {H : Hp} {Q : VK} {E : XK} {a : Addr} {ns : List Int} {k : Int} (hS : SqL K H a (ns.map V.int)) (hk : 0 ≤ k) (h : Q (.int (cellAt ns k)) H) : spCel K ([.ref a, .int k] ++ []) H Q E := ⟨a, ns, k, rfl, hS, hk, h⟩
theorem w_numb {H : Hp} {Q : VK} {E : XK} {c : Int} (h : Q (.int (numb c)) H) : spNumb ([.int c] ++ []) H Q E := ⟨c, rfl, h⟩
theorem w_whole {H : Hp} {Q : VK} {E : XK} {c : Int} (h : Q (.bl true) H) : spWhole ([.int c] ++ []) H Q E := ⟨c, rfl, h⟩
local macro_rules | `(tactic| walk_at "own1") => `(tactic| first
  | ((with_reducible refine w_cell (ns := ?wcn) ?wcs ?wck ?_); (case wcs => walk_at "sq"); (case wck => first | decide | omega))
  | (with_reducible refine w_numb ?_)
  | (with_reducible refine w_whole ?_)
  | walk_at "own2")
section
variable {P : Program} {w : World} {K : PySem.W.Frag} {mg : Str → Option Value} {base : Heap}
theorem ca_cell (B : Bi mg) (D : Df K mg "_law_cell_at" (top 26)) : Ca P w K mg base CX0 1 "_law_cell_at" (spCel K) := by
  have sc : FnScope ["_law_script", "_law_k"] ["_law_script", "_law_k"] (defScope (top 26)) := ⟨rfl, rfl, rfl, by decide +kernel, rfl, by decide +kernel, by decide +kernel⟩
  have nd := sc.nd
  refine D.ca0 sc (fun _ _ _ _ _ _ us hl => match us, hl with | [_, _], _ => rfl) (fun vs H Q E h => by obtain ⟨_, _, _, rfl, _⟩ := h; rfl) (fun f cdv A outer s H vs Q E hr h => ?_)
  obtain ⟨a, ns, k, rfl, hS, hk, q⟩ := h
  refine ⟨_, (pss_cons (ps_if (pt_cmpR op_lt (pv 1) (pe_callB call_lenA rfl B.len PySem.boot_len (pa_cons (pv 0) pa_nil)) (nomark _)) (pss_one (ps_ret (pe_ix ix_lt (pv 0) (pv 1) (fun _ _ => rfl)))) pss_nil)
    (pss_one (ps_ret pe_int))), ?_⟩
  refine U.w_start (σ' := [some _, some _]) rfl ?_
  walk_at "st"
  walk_at "if"
  have hl : (ns.map V.int).length = ns.length := List.length_map _
  rw [hl]
  refine it_cases (fun c => ?_) fun c => ?_
  · walk_at "go"
    refine w_ixLL hS (v := .int (cellAt ns k)) ?_ q
    have e : k = ((k.toNat : Nat) : Int) := by omega
    have hk : k.toNat < ns.length := by omega
    have e2 : atI (ns.map V.int) ((k.toNat : Nat) : Int) = some (.int (cellAt ns k)) := atI_nat (by
      unfold cellAt
      rw [List.getElem?_map, List.getElem?_eq_getElem hk]
      rfl)
    rw [← e] at e2
    exact e2
  · walk_at "go"
    have e : cellAt ns k = 0 := by
      unfold cellAt
      rw [List.getElem?_eq_none_iff.mpr (by omega)]
      rfl
    rw [e] at q
    exact q
theorem ca_numb (D : Df K mg "_law_number" (top 27)) : Ca P w K mg base CX0 1 "_law_number" spNumb := by
  have sc : FnScope ["_law_cell"] ["_law_cell"] (defScope (top 27)) := ⟨rfl, rfl, rfl, by decide +kernel, rfl, by decide +kernel, by decide +kernel⟩
  have nd := sc.nd
  refine D.ca0 sc (fun _ _ _ _ _ _ us hl => match us, hl with | [_], _ => rfl) (fun vs H Q E h => by obtain ⟨_, rfl, _⟩ := h; rfl) (fun f cdv A outer s H vs Q E hr h => ?_)
  obtain ⟨c, rfl, q⟩ := h
  refine ⟨_, (pss_cons (ps_if (pt_cmpR op_eq (pe_op op_mod (pv 0) pe_int) pe_int (nomark _)) (pss_one (ps_ret (pe_op op_sub (pe_op op_mod (pe_op op_fdiv (pv 0) pe_int) (pe_op op_pow pe_int pe_int)) (pe_op op_mul pe_int (pe_op op_pow pe_int pe_int))))) pss_nil)
    (pss_one (ps_ret (pe_op op_sub (pe_op op_mod (pe_op op_fdiv (pv 0) pe_int) pe_int) pe_int)))), ?_⟩
  refine U.w_start (σ' := [some _]) rfl ?_
  walk_at "st"
  walk_at "if"
  unfold numb at q
  refine it_cases (fun c => ?_) fun c => ?_
  · walk_at "go"
    rw [if_pos c] at q
    exact q
  · walk_at "go"
    rw [if_neg c] at q
    exact q
theorem ca_whole (B : Bi mg) (D : Df K mg "_law_whole" (top 25)) : Ca P w K mg base CX0 1 "_law_whole" spWhole := by
  have sc : FnScope ["_law_found"] ["_law_found"] (defScope (top 25)) := ⟨rfl, rfl, rfl, by decide +kernel, rfl, by decide +kernel, by decide +kernel⟩
  have nd := sc.nd
  refine D.ca0 sc (fun _ _ _ _ _ _ us hl => match us, hl with | [_], _ => rfl) (fun vs H Q E h => by obtain ⟨_, rfl, _⟩ := h; rfl) (fun f cdv A outer s H vs Q E hr h => ?_)
  obtain ⟨c, rfl, q⟩ := h
  refine ⟨_, (pss_one (ps_ret (pe_and (pe_callB call_isiN rfl B.isinstance (by decide +kernel) (pa_cons (pv 0) (pa_cons (pe_bltn (v := .ty "int") rfl B.int (by decide +kernel) rfl) pa_nil))) (pe_one (pe_not (pe_callB call_isiN rfl B.isinstance (by decide +kernel) (pa_cons (pv 0) (pa_cons (pe_bltn (v := .ty "bool") rfl B.bool (by decide +kernel) rfl) pa_nil)))))))), ?_⟩
  refine U.w_start (σ' := [some _]) rfl ?_
  walk_at "st"
  exact q
end
end LC

namespace M
open PySem PySem.Spec PyProof.Rows L2 U MM He
def mW : List Wd := [.df "reckoned" (top 4), .df "goal_of" (top 8), .df "run" (top 9), .df "_step" (top 10),
  .df "_put" (top 11), .df "_get" (top 12), .df "_set" (top 13), .df "_say" (top 14), .df "_reckon" (top 15), .df "_go" (top 16),
  .df "_nought" (top 17), .df "_on" (top 18), .df "_turn" (top 19), .df "_call" (top 20), .df "_back" (top 21), .df "_raise" (top 22),
  .cls "Entered" fE, .cls "Machine" fM, .me "Machine" "take_turn" "Machine.take_turn" (inClass (top 7) 1), .me "Machine" "enter" "Machine.enter" (inClass (top 7) 2), .me "Machine" "fault" "Machine.fault" (inClass (top 7) 3),
  .ini "Entered" "Entered.__init__" (inClass (top 6) 0), .ini "Machine" "Machine.__init__" (inClass (top 7) 0), .num "DEEPEST" 8, .num "NOUGHT" 101, .num "DEEP" 102, .any "ACTS"]
def actN : List (Str × Dv) := [("put", .glo "_put"), ("get", .glo "_get"), ("set", .glo "_set"), ("say", .glo "_say"), ("add", .glo "_reckon"), ("sub", .glo "_reckon"), ("less", .glo "_reckon"), ("share", .glo "_reckon"),
  ("go", .glo "_go"), ("nought", .glo "_nought"), ("on", .glo "_on"), ("turn", .glo "_turn"), ("call", .glo "_call"), ("back", .glo "_back"), ("raise", .glo "_raise")]
def actT : Tab := (fun K => ga K "ACTS", ["put", "get", "set", "say", "add", "sub", "less", "share", "go", "nought", "on", "turn", "call", "back", "raise"])
def mX (K : PySem.W.Frag) : Bool := seerB K && valsB K (ga K "ACTS") actN
def HlM (K : PySem.W.Frag) (f : Addr) (sp : Sp) : Prop := ∃ r : Rw, sp = spAct K (ga K "Machine") (ga K "Entered") (Rw.fi r) ∧ ∃ q ∈ actN, q.1 = Rw.word r ∧ q.2.v K = .ref f
theorem acts_of {lW : List Wd} {ts : List Tab} {ex : PySem.W.Frag → Bool} {w : World} {K : PySem.W.Frag} (c : SaysU (faU (mW ++ lW)) (fnU (mW ++ lW)) (actT :: ts) ex w K) (hx : mX K = true) :
    Acts w K (ga K "Machine") (ga K "Entered") (ga K "ACTS") (HlM K) := fun r => by
  obtain ⟨_, hv⟩ := ba hx
  have key : ∀ (x : Str) (y : Str), (x, Dv.glo y) ∈ actN → x = Rw.word r → ∃ f, KDct K w (ga K "ACTS") (Rw.word r) (.ref f) ∧ HlM K f (spAct K (ga K "Machine") (ga K "Entered") (Rw.fi r)) := fun x y hm e => by
    subst e
    exact ⟨ga K y, tab_u c 0 (t := actT) rfl hv hm, r, rfl, _, hm, rfl, rfl⟩
  cases r with
  | put n => exact key _ _ (List.mem_of_getElem? (i := 0) rfl) rfl
  | get n => exact key _ _ (List.mem_of_getElem? (i := 1) rfl) rfl
  | set n => exact key _ _ (List.mem_of_getElem? (i := 2) rfl) rfl
  | say => exact key _ _ (List.mem_of_getElem? (i := 3) rfl) rfl
  | rek o =>
    cases o with
    | add => exact key _ _ (List.mem_of_getElem? (i := 4) rfl) rfl
    | sub => exact key _ _ (List.mem_of_getElem? (i := 5) rfl) rfl
    | less => exact key _ _ (List.mem_of_getElem? (i := 6) rfl) rfl
    | share => exact key _ _ (List.mem_of_getElem? (i := 7) rfl) rfl
  | go n => exact key _ _ (List.mem_of_getElem? (i := 8) rfl) rfl
  | nought n => exact key _ _ (List.mem_of_getElem? (i := 9) rfl) rfl
  | on n => exact key _ _ (List.mem_of_getElem? (i := 10) rfl) rfl
  | turn => exact key _ _ (List.mem_of_getElem? (i := 11) rfl) rfl
  | call n => exact key _ _ (List.mem_of_getElem? (i := 12) rfl) rfl
  | back => exact key _ _ (List.mem_of_getElem? (i := 13) rfl) rfl
  | raise => exact key _ _ (List.mem_of_getElem? (i := 14) rfl) rfl
/-- run, by its contract, from what the head tells -/
theorem run_of {lW : List Wd} {ts : List Tab} {ex : PySem.W.Frag → Bool} {P : Program} {w : World} {K : PySem.W.Frag} {mg : Str → Option Value} {h base : Heap} (X : K.In h) (G : h.Ns mainGlobals mg) (c : SaysU (faU (mW ++ lW)) (fnU (mW ++ lW)) (actT :: ts) ex w K)
    (hx : mX K = true) (hP : P.given.tree = none) : Ca P w K mg base CX0 43 "run" (spRun K) := by
  have B := bi_u X G c
  obtain ⟨hS, _⟩ := ba hx
  have iE : CI K (ga K "Entered") fE := ci_u c 16
  have iM : CI K (ga K "Machine") fM := ci_u c 17
  have c1 : Ca P w K mg base CX0 40 _ spReck := ca_reckoned hS hP (df_u X G c 0)
  have c2 : Ca P w K mg base CX0 1 _ (spGoal K) := ca_goal (df_u X G c 1)
  have mt : CaM P w K mg base CX0 1 (ga K "Machine") "take_turn" (spTurn K (ga K "Machine") (ga K "Entered")) := ca_turn_ (me_u X G c 18) iM
  have mf : CaM P w K mg base CX0 2 (ga K "Machine") "fault" (spFault K (ga K "Machine") (ga K "Entered")) := ca_fault (me_u X G c 20) iE iM c2
  have ie : CaI P w K mg base CX0 1 "Entered" (ga K "Entered") (spNew (ga K "Entered")) := ca_new (ini_u X G c 21) iE
  have im : CaI P w K mg base CX0 1 "Machine" (ga K "Machine") (spNewM K (ga K "Machine")) := ca_newM (ini_u X G c 22) iM
  have me : CaM P w K mg base CX0 4 (ga K "Machine") "enter" (spEnter K (ga K "Machine") (ga K "Entered")) := ca_enter (me_u X G c 19) iE iM (num_u X G c 23) (num_u X G c 25) B mf ie
  have a0 : Ca P w K mg base CX0 41 _ (spAct K (ga K "Machine") (ga K "Entered") 0) := (ca_put (df_u X G c 4) iE iM).mono (by decide)
  have a1 : Ca P w K mg base CX0 41 _ (spAct K (ga K "Machine") (ga K "Entered") 1) := (ca_get (df_u X G c 5) iE iM).mono (by decide)
  have a2 : Ca P w K mg base CX0 41 _ (spAct K (ga K "Machine") (ga K "Entered") 2) := (ca_set (df_u X G c 6) iE iM).mono (by decide)
  have a3 : Ca P w K mg base CX0 41 _ (spAct K (ga K "Machine") (ga K "Entered") 3) := (ca_say (df_u X G c 7) iE iM).mono (by decide)
  have a4 : Ca P w K mg base CX0 41 _ (spAct K (ga K "Machine") (ga K "Entered") 4) := ca_reckon (df_u X G c 8) iE iM (num_u X G c 24) mf c1
  have a5 : Ca P w K mg base CX0 41 _ (spAct K (ga K "Machine") (ga K "Entered") 5) := (ca_go (df_u X G c 9) iE iM).mono (by decide)
  have a6 : Ca P w K mg base CX0 41 _ (spAct K (ga K "Machine") (ga K "Entered") 6) := (ca_nought (df_u X G c 10) iE iM).mono (by decide)
  have a7 : Ca P w K mg base CX0 41 _ (spAct K (ga K "Machine") (ga K "Entered") 7) := (ca_on (df_u X G c 11) iE iM).mono (by decide)
  have a8 : Ca P w K mg base CX0 41 _ (spAct K (ga K "Machine") (ga K "Entered") 8) := (ca_turn (df_u X G c 12) iE iM mt).mono (by decide)
  have a9 : Ca P w K mg base CX0 41 _ (spAct K (ga K "Machine") (ga K "Entered") 9) := (ca_call (df_u X G c 13) iE iM mt me).mono (by decide)
  have a10 : Ca P w K mg base CX0 41 _ (spAct K (ga K "Machine") (ga K "Entered") 10) := (ca_back (df_u X G c 14) iE iM).mono (by decide)
  have a11 : Ca P w K mg base CX0 41 _ (spAct K (ga K "Machine") (ga K "Entered") 11) := (ca_raise (df_u X G c 15) iE iM mf).mono (by decide)
  have gl : ∀ (i : Nat) (x : Str) (st : Stmt), (mW ++ lW)[i]? = some (.df x st) → mg x = some (.ref (ga K x)) := fun i x st e => glo_ok X G (c.fact (List.mem_of_getElem? e) (f := .glo x) List.mem_cons_self)
  refine ca_run (df_u X G c 2) iE iM (ca_step (df_u X G c 3) iE iM (any_u X G c 26) (acts_of c hx) fun f sp hl => ?_) im me
  obtain ⟨r, rfl, q, hq, e1, e2⟩ := hl
  have fin : ∀ (i : Nat) (y : Str) (st : Stmt), (mW ++ lW)[i]? = some (.df y st) → q.2 = .glo y → Ca P w K mg base CX0 41 y (spAct K (ga K "Machine") (ga K "Entered") (Rw.fi r)) → Cf P w K mg base CX0 41 f (spAct K (ga K "Machine") (ga K "Entered") (Rw.fi r)) := fun i y st e ey ca => by
    have z : V.ref (ga K y) = .ref f := by rw [← e2, ey]; rfl
    rw [← V.ref.inj z]
    exact ca.cf (gl i y st e)
  have look : ∀ q ∈ actN, ∀ r : Rw, q.1 = Rw.word r → (q.2 = .glo "_put" ∧ Rw.fi r = 0) ∨ (q.2 = .glo "_get" ∧ Rw.fi r = 1) ∨ (q.2 = .glo "_set" ∧ Rw.fi r = 2) ∨ (q.2 = .glo "_say" ∧ Rw.fi r = 3) ∨ (q.2 = .glo "_reckon" ∧ Rw.fi r = 4) ∨ (q.2 = .glo "_go" ∧ Rw.fi r = 5) ∨
      (q.2 = .glo "_nought" ∧ Rw.fi r = 6) ∨ (q.2 = .glo "_on" ∧ Rw.fi r = 7) ∨ (q.2 = .glo "_turn" ∧ Rw.fi r = 8) ∨ (q.2 = .glo "_call" ∧ Rw.fi r = 9) ∨ (q.2 = .glo "_back" ∧ Rw.fi r = 10) ∨ (q.2 = .glo "_raise" ∧ Rw.fi r = 11) := by
    intro q hq r e
    have wd : ∀ (x : Str), x = Rw.word r → (x = "put" → Rw.fi r = 0) ∧ (x = "get" → Rw.fi r = 1) ∧ (x = "set" → Rw.fi r = 2) ∧ (x = "say" → Rw.fi r = 3) ∧ ((x = "add" ∨ x = "sub" ∨ x = "less" ∨ x = "share") → Rw.fi r = 4) ∧ (x = "go" → Rw.fi r = 5) ∧ (x = "nought" → Rw.fi r = 6) ∧ (x = "on" → Rw.fi r = 7) ∧ (x = "turn" → Rw.fi r = 8) ∧ (x = "call" → Rw.fi r = 9) ∧ (x = "back" → Rw.fi r = 10) ∧ (x = "raise" → Rw.fi r = 11) := by
      intro x ex
      subst ex
      cases r with
      | rek o => cases o <;> decide +kernel
      | _ => simp only [Rw.word, Rw.fi]; decide +kernel
    obtain ⟨w0, w1, w2, w3, w4, w5, w6, w7, w8, w9, w10, w11⟩ := wd q.1 e
    unfold actN at hq
    simp only [List.mem_cons, List.not_mem_nil, or_false] at hq
    rcases hq with rfl | rfl | rfl | rfl | rfl | rfl | rfl | rfl | rfl | rfl | rfl | rfl | rfl | rfl | rfl
    · exact .inl ⟨rfl, w0 rfl⟩
    · exact .inr (.inl ⟨rfl, w1 rfl⟩)
    · exact .inr (.inr (.inl ⟨rfl, w2 rfl⟩))
    · exact .inr (.inr (.inr (.inl ⟨rfl, w3 rfl⟩)))
    · exact .inr (.inr (.inr (.inr (.inl ⟨rfl, w4 (.inl rfl)⟩))))
    · exact .inr (.inr (.inr (.inr (.inl ⟨rfl, w4 (.inr (.inl rfl))⟩))))
    · exact .inr (.inr (.inr (.inr (.inl ⟨rfl, w4 (.inr (.inr (.inl rfl)))⟩))))
    · exact .inr (.inr (.inr (.inr (.inl ⟨rfl, w4 (.inr (.inr (.inr rfl)))⟩))))
    · exact .inr (.inr (.inr (.inr (.inr (.inl ⟨rfl, w5 rfl⟩)))))
    · exact .inr (.inr (.inr (.inr (.inr (.inr (.inl ⟨rfl, w6 rfl⟩))))))
    · exact .inr (.inr (.inr (.inr (.inr (.inr (.inr (.inl ⟨rfl, w7 rfl⟩)))))))
    · exact .inr (.inr (.inr (.inr (.inr (.inr (.inr (.inr (.inl ⟨rfl, w8 rfl⟩))))))))
    · exact .inr (.inr (.inr (.inr (.inr (.inr (.inr (.inr (.inr (.inl ⟨rfl, w9 rfl⟩)))))))))
    · exact .inr (.inr (.inr (.inr (.inr (.inr (.inr (.inr (.inr (.inr (.inl ⟨rfl, w10 rfl⟩))))))))))
    · exact .inr (.inr (.inr (.inr (.inr (.inr (.inr (.inr (.inr (.inr (.inr ⟨rfl, w11 rfl⟩))))))))))
  rcases look q hq r e1 with ⟨e, n⟩ | ⟨e, n⟩ | ⟨e, n⟩ | ⟨e, n⟩ | ⟨e, n⟩ | ⟨e, n⟩ | ⟨e, n⟩ | ⟨e, n⟩ | ⟨e, n⟩ | ⟨e, n⟩ | ⟨e, n⟩ | ⟨e, n⟩
  · exact fin 4 _ _ rfl e (by rw [n]; exact a0)
  · exact fin 5 _ _ rfl e (by rw [n]; exact a1)
  · exact fin 6 _ _ rfl e (by rw [n]; exact a2)
  · exact fin 7 _ _ rfl e (by rw [n]; exact a3)
  · exact fin 8 _ _ rfl e (by rw [n]; exact a4)
  · exact fin 9 _ _ rfl e (by rw [n]; exact a5)
  · exact fin 10 _ _ rfl e (by rw [n]; exact a6)
  · exact fin 11 _ _ rfl e (by rw [n]; exact a7)
  · exact fin 12 _ _ rfl e (by rw [n]; exact a8)
  · exact fin 13 _ _ rfl e (by rw [n]; exact a9)
  · exact fin 14 _ _ rfl e (by rw [n]; exact a10)
  · exact fin 15 _ _ rfl e (by rw [n]; exact a11)
end M

namespace LM
open PySem PySem.Spec PyProof.Rows L2 U MM M LC
abbrev Gh3 := Addr × Addr × Addr
def srL : List Gh3 → List V
  | [] => []
  | g :: r => srL r ++ [.ref g.1]
theorem srL_len : ∀ p : List Gh3, (srL p).length = p.length
  | [] => rfl
  | g :: p => by
    show (srL p ++ [V.ref g.1]).length = p.length + 1
    rw [List.length_append, srL_len p]
    rfl
structure Lc where
  K : PySem.W.Frag
  R0 : Hp
  B : Hp
  C : Cd
  aC : Addr
  aS : Addr
  aB : Addr
  t : Addr
structure Lc.Ok (c : Lc) : Prop where
  rows : ∃ xs, SqL c.K c.R0 c.aC xs ∧ DpAll c.K c.R0 xs (c.C.rows.map Rw.enc)
  str : ∃ xs, SqL c.K c.R0 c.aS xs ∧ DpAll c.K c.R0 xs (c.C.str.map enc3)
  beg : SqL c.K c.R0 c.aB (c.C.begins.map .int)
  bxs0 : 0 ≤ c.C.boxes
  bxs : c.C.boxes ≤ 100000
  strl : c.C.str.length ≤ 10000
def stL (c : Lc) (turns : Int) (sd : Addr) (ov : V) (st : Addr) : List (Key × V) :=
  [(.inr "code", .ref c.aC), (.inr "stretches", .ref c.aS), (.inr "starts", .ref c.aB), (.inr "boxes", .int c.C.boxes), (.inr "turns", .int turns), (.inr "said", .ref sd), (.inr "ended", ov), (.inr "frames", .ref st)]
section
variable {c : Lc} {H : Hp} {Q : VK} {a sd st : Addr} {t z : Int} {ov v : V} {N : Hp → Prop}
theorem w_lCo (ha : H a = some (.dK (stL c t sd ov st))) (h : Q (.ref c.aC) H) : DgE Q (.ref a) (.str "code") H := w_dgE ha rfl h
theorem w_lSt (ha : H a = some (.dK (stL c t sd ov st))) (h : Q (.ref c.aS) H) : DgE Q (.ref a) (.str "stretches") H := w_dgE ha rfl h
theorem w_lBe (ha : H a = some (.dK (stL c t sd ov st))) (h : Q (.ref c.aB) H) : DgE Q (.ref a) (.str "starts") H := w_dgE ha rfl h
theorem w_lBo (ha : H a = some (.dK (stL c t sd ov st))) (h : Q (.int c.C.boxes) H) : DgE Q (.ref a) (.str "boxes") H := w_dgE ha rfl h
theorem w_lTu (ha : H a = some (.dK (stL c t sd ov st))) (h : Q (.int t) H) : DgE Q (.ref a) (.str "turns") H := w_dgE ha rfl h
theorem w_lSa (ha : H a = some (.dK (stL c t sd ov st))) (h : Q (.ref sd) H) : DgE Q (.ref a) (.str "said") H := w_dgE ha rfl h
theorem w_lEn (ha : H a = some (.dK (stL c t sd ov st))) (h : Q ov H) : DgE Q (.ref a) (.str "ended") H := w_dgE ha rfl h
theorem w_lFr (ha : H a = some (.dK (stL c t sd ov st))) (h : Q (.ref st) H) : DgE Q (.ref a) (.str "frames") H := w_dgE ha rfl h
theorem w_pTu (ha : H a = some (.dK (stL c t sd ov st))) (h : N (upd H a (.dK (stL c z sd ov st)))) : DpE N (.ref a) (.str "turns") (.int z) H := w_dpE ha rfl rfl h
theorem w_pEn (ha : H a = some (.dK (stL c t sd ov st))) (h : N (upd H a (.dK (stL c t sd v st)))) : DpE N (.ref a) (.str "ended") v H := w_dpE ha rfl rfl h
end
local macro_rules | `(tactic| walk_at "own1") => `(tactic| first
  | (with_reducible refine U.w_dg ?_)
  | (with_reducible refine U.w_dp ?_)
  | ((with_reducible refine w_lCo (c := ?lwc) (t := ?lwt) (sd := ?lwd) (ov := ?lwo) (st := ?lws) ?wda ?_); (case wda => walk_at "hp"))
  | ((with_reducible refine w_lSt (c := ?lwc) (t := ?lwt) (sd := ?lwd) (ov := ?lwo) (st := ?lws) ?wda ?_); (case wda => walk_at "hp"))
  | ((with_reducible refine w_lBe (c := ?lwc) (t := ?lwt) (sd := ?lwd) (ov := ?lwo) (st := ?lws) ?wda ?_); (case wda => walk_at "hp"))
  | ((with_reducible refine w_lBo (c := ?lwc) (t := ?lwt) (sd := ?lwd) (ov := ?lwo) (st := ?lws) ?wda ?_); (case wda => walk_at "hp"))
  | ((with_reducible refine w_lTu (c := ?lwc) (t := ?lwt) (sd := ?lwd) (ov := ?lwo) (st := ?lws) ?wda ?_); (case wda => walk_at "hp"))
  | ((with_reducible refine w_lSa (c := ?lwc) (t := ?lwt) (sd := ?lwd) (ov := ?lwo) (st := ?lws) ?wda ?_); (case wda => walk_at "hp"))
  | ((with_reducible refine w_lEn (c := ?lwc) (t := ?lwt) (sd := ?lwd) (ov := ?lwo) (st := ?lws) ?wda ?_); (case wda => walk_at "hp"))
  | ((with_reducible refine w_lFr (c := ?lwc) (t := ?lwt) (sd := ?lwd) (ov := ?lwo) (st := ?lws) ?wda ?_); (case wda => walk_at "hp"))
  | ((with_reducible refine w_pTu (c := ?lwc) (t := ?lwt) (sd := ?lwd) (ov := ?lwo) (st := ?lws) ?wda ?_); (case wda => walk_at "hp"))
  | ((with_reducible refine w_pEn (c := ?lwc) (t := ?lwt) (sd := ?lwd) (ov := ?lwo) (st := ?lws) ?wda ?_); (case wda => walk_at "hp"))
  | ((with_reducible refine U.w_setL (xs := ?wsx) (j := ?wsj) ?wsa ?wsk ?_); (case wsa => walk_at "hp"); (case wsk => exact rfl))
  | walk_at "own2")
/-- the frames that wait: their places are those of their calls -/
def frW : List Gh3 → List MM.Fr → List (Addr × HO)
  | g :: gs, f :: fs => (g.1, .lst [.int (f.place - 1), .ref g.2.1, .ref g.2.2]) :: (g.2.1, .lst (f.boxes.map .int)) :: (g.2.2, .lst (plV f.pile)) :: frW gs fs
  | _, _ => []
abbrev lL (c : Lc) (t : Int) (sd st : Addr) (said : List Int) (ov : V) (gs : List Gh3) (L : List (Addr × HO)) : List (Addr × HO) := (c.t, .dK (stL c t sd ov st)) :: (sd, .lst (said.map .int)) :: (st, .lst (srL gs)) :: L
/-- in the middle of a step: all places are those of rows that are being done; e holds the uppermost frame -/
structure InvW (c : Lc) (s : MS) (H : Hp) : Prop where
  ex : ∃ R sd st gs, Sta [] c.R0 c.B R H (lL c s.turns sd st s.said .non gs (frW gs s.fs)) ∧ gs.length = s.fs.length
structure InvT (c : Lc) (e : Addr) (s : MS) (H : Hp) : Prop where
  ex : ∃ R sd st g gs f fs, s.fs = f :: fs ∧ g.1 = e ∧ Sta [] c.R0 c.B R H (lL c s.turns sd st s.said .non (g :: gs) (frW (g :: gs) (f :: fs))) ∧ gs.length = fs.length
/-- between two steps -/
def InvL (c : Lc) (s : MS) (H : Hp) : Prop := match s.out with
  | none => ∃ R sd st g gs f fs, s.fs = f :: fs ∧ gs.length = fs.length ∧ Sta [] c.R0 c.B R H (lL c s.turns sd st s.said .non (g :: gs) ((g.1, .lst [.int f.place, .ref g.2.1, .ref g.2.2]) :: (g.2.1, .lst (f.boxes.map .int)) :: (g.2.2, .lst (plV f.pile)) :: frW gs fs))
  | some o => ∃ R t sd st p, Sta [] c.R0 c.B R H ((c.t, .dK (stL c t sd (.ref p) st)) :: (sd, .lst (s.said.map .int)) :: []) ∧ R p = some (.tup [.str o.word, .int o.num])
theorem InvL.run {c : Lc} {R H : Hp} {t : Int} {sd st : Addr} {said : List Int} {g : Gh3} {gs : List Gh3} {f : MM.Fr} {fs : List MM.Fr} {z : Int} (S : Sta [] c.R0 c.B R H (lL c t sd st said .non (g :: gs) ((g.1, .lst [.int z, .ref g.2.1, .ref g.2.2]) :: (g.2.1, .lst (f.boxes.map .int)) :: (g.2.2, .lst (plV f.pile)) :: frW gs fs))) (h : gs.length = fs.length) (e : z = f.place) : InvL c ⟨t, f :: fs, said, none⟩ H := by
  subst e
  exact ⟨R, sd, st, g, gs, f, fs, rfl, h, S⟩
theorem InvL.end_ {c : Lc} {R H : Hp} {t t' : Int} {sd st p : Addr} {said : List Int} {fs : List MM.Fr} {o : Ou} (S : Sta [] c.R0 c.B R H ((c.t, .dK (stL c t sd (.ref p) st)) :: (sd, .lst (said.map .int)) :: [])) (h : R p = some (.tup [.str o.word, .int o.num])) : InvL c ⟨t', fs, said, some o⟩ H := ⟨R, t, sd, st, p, S, h⟩
theorem plV_eq : ∀ p : List Int, plV p = p.reverse.map V.int
  | [] => rfl
  | n :: p => by
    show plV p ++ [V.int n] = _
    rw [plV_eq p, List.reverse_cons, List.map_append]
    rfl
def fdata (z : Int) (f : MM.Fr) : PyData := .list [.int z, .list (f.boxes.map .int), .list (f.pile.reverse.map .int)]
theorem ints_ok (l : List Int) : (PyData.list (l.map .int)).canLay0 = true ∧ (PyData.list (l.map .int)).depth ≤ 1 :=
  ⟨canLayAll_of fun d hd => by obtain ⟨r, _, rfl⟩ := List.mem_map.mp hd; rfl, Nat.succ_le_succ (depthAll_of fun d hd => by obtain ⟨r, _, rfl⟩ := List.mem_map.mp hd; exact Nat.le_refl 0)⟩
theorem fdata_ok (z : Int) (f : MM.Fr) : (fdata z f).canLay0 = true ∧ (fdata z f).depth ≤ 2 := by
  have h1 := ints_ok f.boxes
  have h2 := ints_ok f.pile.reverse
  refine ⟨canLayAll_of fun d hd => ?_, Nat.succ_le_succ (depthAll_of fun d hd => ?_)⟩
  · rcases List.mem_cons.mp hd with rfl | hd
    · rfl
    · rcases List.mem_cons.mp hd with rfl | hd
      · exact h1.1
      · rw [List.mem_singleton.mp hd]; exact h2.1
  · rcases List.mem_cons.mp hd with rfl | hd
    · exact Nat.zero_le _
    · rcases List.mem_cons.mp hd with rfl | hd
      · exact h1.2
      · rw [List.mem_singleton.mp hd]; exact h2.2
theorem fd_one {K : PySem.W.Frag} {H : Hp} {g : Gh3} {f : MM.Fr} {z : Int} (h1 : H g.1 = some (.lst [.int z, .ref g.2.1, .ref g.2.2])) (h2 : H g.2.1 = some (.lst (f.boxes.map .int))) (h3 : H g.2.2 = some (.lst (plV f.pile))) : Dp K H (.ref g.1) (fdata z f) := by
  rw [plV_eq] at h3
  exact dp_newL h1 (.cons (.int _) (.cons (dp_newL h2 (.ints _)) (.cons (dp_newL h3 (.ints _)) .nil)))
theorem fd_all {K : PySem.W.Frag} {H : Hp} : ∀ (gs : List Gh3) (fs : List MM.Fr), gs.length = fs.length → (∀ q ∈ frW gs fs, H q.1 = some q.2) → ∃ ds, DpAll K H (srL gs) ds ∧ ∀ d ∈ ds, d.canLay0 = true ∧ d.depth ≤ 2
  | [], [], _, _ => ⟨[], .nil, fun _ h => by cases h⟩
  | g :: gs, f :: fs, hl, h => by
    obtain ⟨ds, h1, h2⟩ := fd_all (K := K) gs fs (by simpa using hl) fun q hq => h q (List.mem_cons_of_mem _ (List.mem_cons_of_mem _ (List.mem_cons_of_mem _ hq)))
    refine ⟨ds ++ [fdata (f.place - 1) f], h1.snoc (fd_one (h _ List.mem_cons_self) (h _ (List.mem_cons_of_mem _ List.mem_cons_self)) (h _ (List.mem_cons_of_mem _ (List.mem_cons_of_mem _ List.mem_cons_self)))), fun d hd => ?_⟩
    rcases List.mem_append.mp hd with hd | hd
    · exact h2 d hd
    · rw [List.mem_singleton.mp hd]
      exact fdata_ok _ _
  | [], _ :: _, hl, _ => by simp at hl
  | _ :: _, [], hl, _ => by simp at hl
section
variable {P : Program} {w : World} {K : PySem.W.Frag} {mg : Str → Option Value} {base : Heap}
def hit (place : Int) (t : St3) : Bool := decide (t.1 ≤ place) && decide (place < t.2.1)
theorem goal_hit {place : Int} : ∀ ts : List St3, goal place ts = ((ts.filter (hit place)).map (·.2.2)).head?
  | [] => rfl
  | t :: r => by
    rw [goal_cons, List.filter_cons]
    by_cases c : t.1 ≤ place ∧ place < t.2.1
    · rw [if_pos c, if_pos (by unfold hit; rw [decide_eq_true c.1, decide_eq_true c.2]; rfl)]
      rfl
    · rw [if_neg c, if_neg (by
        unfold hit
        intro h
        rw [Bool.and_eq_true_iff] at h
        exact c ⟨of_decide_eq_true h.1, of_decide_eq_true h.2⟩)]
      exact goal_hit r
def spLGoal (K : PySem.W.Frag) : Sp := fun vs H Q _ => ∃ (a : Addr) (xs : List V) (ts : List St3) (place : Int), vs = [.ref a, .int place] ∧ SqL K H a xs ∧ DpAll K H xs (ts.map enc3) ∧ ts.length ≤ 10000 ∧ ∀ H', Same H H' → Q (optV (goal place ts)) H'
theorem ca_lgoal (D : Df K mg "_law_goal" (top 36)) : Ca P w K mg base CX0 1 "_law_goal" (spLGoal K) := by
  have sc : FnScope ["_law_stretches_here", "_law_place", "_law_found", "_law_row"] ["_law_stretches_here", "_law_place"] (defScope (top 36)) := ⟨rfl, rfl, rfl, by decide +kernel, rfl, by decide +kernel, by decide +kernel⟩
  have nd := sc.nd
  refine D.ca0 sc (fun _ _ _ _ _ _ us hl => match us, hl with | [_, _], _ => rfl) (fun vs H Q E h => by obtain ⟨_, _, _, _, rfl, _⟩ := h; rfl) (fun f cdv A outer s H vs Q E hr h => ?_)
  obtain ⟨a, xs, ts, place, rfl, hS, hD, hl, q⟩ := h
  refine ⟨_, (pss_cons (ps_setLc (i := 2) (own := [("_law_row", 3)]) rfl nd rfl rfl (sw_true rfl rfl rfl (by decide +kernel)) (pi_list (pv 0)) (blkOk_by (N := ["_law_stretches_here", "_law_place", "_law_found", "_law_row"]) (sc := defScope (top 36)) (by decide +kernel)) (fun _ _ _ _ _ => (pg_name (i := 3) nd rfl (by first | exact Or.inl rfl | exact Or.inr rfl))) (fun _ _ _ _ _ => (pts_one (PW.pt (pw_and (pt_cmpR op_le (pe_ix (ix_ltK (K := K) rfl) (pv 3) pe_int (fun _ _ => rfl)) (pv 1) (nomark _)) (pw_and1 (pt_cmpR op_lt (pv 1) (pe_ix (ix_ltK (K := K) rfl) (pv 3) pe_int (fun _ _ => rfl)) (nomark _))))))) (fun _ _ _ _ _ => (pe_ix (ix_ltK (K := K) rfl) (pv 3) pe_int (fun _ _ => rfl))))
    (pss_cons (ps_if (pt_cmpR (op_eqD hr.units) (pv 2) (pe_lst pa_nil) (nomark _)) (pss_one (ps_ret pe_non)) pss_nil)
    (pss_one (ps_ret (pe_ix ix_lt (pv 2) pe_int (fun _ _ => rfl)))))), ?_⟩
  refine U.w_start (σ' := [some _, some _, none, none]) rfl ?_
  walk_at "st"
  have hlx : xs.length = ts.length := by rw [hD.len, List.length_map]
  refine lc_L (fun D i H1 => H1 = upd H D (.lst ((((ts.take i).filter (hit place)).map (·.2.2)).map .int))) hS (fun D n => by rw [List.take_zero]; rfl) (fun D i H1 n hi p => by rw [p]; exact Same.seqL (same_new n _) hS) (fun D i x H1 n hx p => ?_) (fun D H1 n p => ?_)
  · subst p
    obtain ⟨d, hd, hdx⟩ := hD.get hx
    rw [List.getElem?_map] at hd
    obtain ⟨t, ht, rfl⟩ := Option.map_eq_some_iff.mp hd
    obtain ⟨p, w1, w2, w3, rfl, hT, h1, h2, h3⟩ := dp_tup3 hdx
    cases dp_int h1
    cases dp_int h2
    cases dp_int h3
    have hT' := Same.seqT (same_new n (.lst ((((ts.take i).filter (hit place)).map (·.2.2)).map .int))) hT
    have et : (ts.take (i + 1)).filter (hit place) = (ts.take i).filter (hit place) ++ if hit place t = true then [t] else [] := by
      rw [take_succ ht, List.filter_append, List.filter_cons]
      rfl
    walk_at "go"
    refine it_cases (fun c => ?_) fun c => ?_
    · walk_at "go"
      refine it_cases (fun c' => ?_) fun c' => ?_
      · walk_at "go"
        rw [if_pos (by unfold hit; rw [decide_eq_true c, decide_eq_true c']; rfl)] at et
        refine w_lcE upd_same (szlt (by rw [List.length_map, List.length_map]; have := List.length_filter_le (hit place) (ts.take i); rw [List.length_take] at this; omega)) ?_
        rw [L2.upd_upd, et, List.map_append, List.map_append]
        rfl
      · walk_at "go"
        rw [if_neg (by unfold hit; rw [decide_eq_false c']; simp), List.append_nil] at et
        rw [et]
    · walk_at "go"
      rw [if_neg (by unfold hit; rw [decide_eq_false c]; simp), List.append_nil] at et
      rw [et]
  · rw [hlx, List.take_length] at p
    subst p
    rw [goal_hit] at q
    walk_at "go"
    walk_at "if"
    intro z nz
    have h1 := same_new nz (.lst [])
    refine w_eqNil (SqL.of (h1 _ _ upd_same)) (.ints _) (dp_newL upd_same .nil) (ints_shaped _) ?_
    have sm := (same_new n (.lst (((ts.filter (hit place)).map (·.2.2)).map .int))).trans h1
    generalize (ts.filter (hit place)).map (·.2.2) = l at *
    cases l with
    | nil =>
      walk_at "go"
      exact q _ sm
    | cons y l =>
      rw [show (List.map V.int (y :: l)).isEmpty = false from rfl]
      walk_at "go"
      refine w_ixLL (SqL.of (h1 _ _ upd_same)) (v := .int y) (atI_nat (j := 0) rfl) ?_
      exact q _ sm
def spLFault (K : PySem.W.Frag) : Sp := fun vs H Q _ => ∃ (c : Lc) (s : MS) (n : Int), vs = [.ref c.t, .int n] ∧ c.K = K ∧ c.Ok ∧ InvW c s H ∧ s.out = none ∧ ∀ H', InvL c (s.faulted c.C.str n) H' → Q .non H'
theorem ca_lfault (D : Df K mg "_law_fault" (top 37)) (c__law_goal : Ca P w K mg base CX0 1 "_law_goal" (spLGoal K)) : Ca P w K mg base CX0 2 "_law_fault" (spLFault K) := by
  have sc : FnScope ["_law_state", "_law_number_here", "_law_frame", "_law_goal_here"] ["_law_state", "_law_number_here"] (defScope (top 37)) := ⟨rfl, rfl, rfl, by decide +kernel, rfl, by decide +kernel, by decide +kernel⟩
  have nd := sc.nd
  refine D.ca0 sc (fun _ _ _ _ _ _ us hl => match us, hl with | [_, _], _ => rfl) (fun vs H Q E h => by obtain ⟨_, _, _, rfl, _⟩ := h; rfl) (fun f cdv A outer s H vs Q E hr h => ?_)
  obtain ⟨c, s, n, rfl, rfl, ok, ⟨R, sd, st, gs, S, hl⟩, ho, q⟩ := h
  refine ⟨_, (pss_cons (ps_while PassesOwn.never (pt_cmpR (op_neD hr.units) (pe_dget (hu_of hr) (pv 0) pe_str (fun _ _ => rfl)) (pe_lst pa_nil) (nomark _)) (pss_cons (ps_set (i := 2) nd rfl (by first | exact Or.inl rfl | exact Or.inr rfl) (pe_ix ix_lt (pe_dget (hu_of hr) (pv 0) pe_str (fun _ _ => rfl)) (pe_un un_neg pe_int) (fun _ _ => rfl)))
    (pss_cons (ps_set (i := 3) nd rfl (by first | exact Or.inl rfl | exact Or.inr rfl) (pe_ca c__law_goal hr (by omega) rfl pass0 (pa_cons (pe_dget (hu_of hr) (pv 0) pe_str (fun _ _ => rfl)) (pa_cons (pe_ix ix_lt (pv 2) pe_int (fun _ _ => rfl)) pa_nil))))
    (pss_cons (ps_if (pt_cmpR op_notNo (pv 3) pe_non (nomark _)) (pss_cons (ps_asg (pv 3) (pg_sub (pv 2) pe_int set_list))
    (pss_cons (ps_asg (pe_lst (pa_cons (pv 1) pa_nil)) (pg_sub (pv 2) pe_int set_list))
    (pss_one ps_retN))) pss_nil)
    (pss_one (ps_expr (pe_bm0 PySem.F.plainAttrs_list PySem.F.slot_list_pop PySem.F.type_list_pop mt_pop (pe_dget (hu_of hr) (pv 0) pe_str (fun _ _ => rfl)))))))))
    (pss_one (ps_dput (hu_of hr) (pv 0) pe_str (pe_tup (pa_cons pe_str (pa_cons (pv 1) pa_nil))) rfl))), ?_⟩
  refine U.w_start (σ' := [some _, some _, none, none]) rfl ?_
  walk_at "st"
  refine w_lpJ (by walk_at "set") (fun σ' H' => ∃ R v2 v3, σ' = [some (.ref c.t), some (.int n), v2, v3] ∧ Sta [] c.R0 c.B R H' (lL c s.turns sd st s.said .non [] []) ∧ fault c.C.str n s.fs = fault c.C.str n []) (fun nx' kj => ?_) (fun σ' H' hj => ?_)
  · refine w_while (fun k σ' H' => ∃ R gs fs v2 v3, σ' = [some (.ref c.t), some (.int n), v2, v3] ∧ Sta [] c.R0 c.B R H' (lL c s.turns sd st s.said .non gs (frW gs fs)) ∧ gs.length = fs.length ∧ k = fs.length ∧ fault c.C.str n s.fs = fault c.C.str n fs) s.fs.length ⟨R, gs, s.fs, none, none, rfl, S, hl, rfl, rfl⟩ (fun k σ' H' hw => ?_)
    obtain ⟨R, gs, fs, v2, v3, rfl, S, hl, rfl, e⟩ := hw
    walk_at "go"
    intro z nz
    have S1 := S.newX nz (.lst [])
    obtain ⟨ds, k1, k2⟩ := fd_all (K := c.K) (H := upd H' z (.lst [])) gs fs hl fun q hq => S1.mem (List.mem_cons_of_mem _ (List.mem_cons_of_mem _ (List.mem_cons_of_mem _ hq)))
    refine w_neNil (SqL.of (S1.get 2 rfl)) k1 (dp_newL upd_same .nil) (shaped_list k2 (by decide)) ?_
    walk_at "go"
    cases gs with
    | nil =>
      cases fs with
      | cons f fs => simp at hl
      | nil =>
        refine w_whF ?_
        exact kj _ _ ⟨R, _, _, rfl, S1, e⟩
    | cons g gs =>
      cases fs with
      | nil => simp at hl
      | cons f fs =>
        have hb : (!(srL (g :: gs)).isEmpty) = true := by
          show (!(srL gs ++ [V.ref g.1]).isEmpty) = true
          simp
        rw [hb]
        refine w_whT ?_
        walk_at "go"
        refine w_ixLL (xs := srL gs ++ [V.ref g.1]) (SqL.of (S1.get 2 rfl)) (v := .ref g.1) (atI_last _ _) ?_
        walk_at "go"
        obtain ⟨xs, h1, h2⟩ := ok.str
        refine ⟨c.aS, xs, c.C.str, f.place - 1, rfl, Same.seqL S1.old h1, h2.up S1.old, ok.strl, fun H2 s2 => ?_⟩
        have S2 := S1.sm s2
        rw [fault_cons] at e
        walk_at "go"
        cases hg : goal (f.place - 1) c.C.str with
        | some y =>
          rw [hg] at e
          walk_at "if"
          have S3 := S2.set 3 rfl (.lst [.int y, .ref g.2.1, .ref g.2.2])
          intro p np
          have S4 := S3.new np (.lst [.int n])
          walk_at "go"
          have S5 := S4.set 4 rfl (.lst [.int y, .ref g.2.1, .ref p])
          refine q _ ?_
          unfold MS.faulted
          rw [e]
          have S6 := S5.less (L' := (p, .lst [.int n]) :: (c.t, _) :: (sd, _) :: (st, _) :: (g.1, _) :: (g.2.1, _) :: frW gs fs) (.cons₂ _ (.cons₂ _ (.cons₂ _ (.cons₂ _ (.cons₂ _ (.cons₂ _ (.cons _ (.refl _))))))))
          have S7 := S6.perm (L' := lL c s.turns sd st s.said .non ((g.1, g.2.1, p) :: gs) ((g.1, .lst [.int y, .ref g.2.1, .ref p]) :: (g.2.1, .lst (f.boxes.map .int)) :: (p, .lst [.int n]) :: frW gs fs)) (by
            refine List.Perm.trans (.swap _ _ _) (.cons _ ?_)
            refine List.Perm.trans (.swap _ _ _) (.cons _ ?_)
            refine List.Perm.trans (.swap _ _ _) (.cons _ ?_)
            refine List.Perm.trans (.swap _ _ _) (.cons _ ?_)
            exact .swap _ _ _)
          exact InvL.run (g := (g.1, g.2.1, p)) (f := { f with place := y, pile := [n] }) S7 (by simpa using hl) rfl
        | none =>
          rw [hg] at e
          walk_at "if"
          have S3 := S2.set 2 rfl (.lst (srL gs))
          have S4 := S3.less (L' := lL c s.turns sd st s.said .non gs (frW gs fs)) (.cons₂ _ (.cons₂ _ (.cons₂ _ (.cons _ (.cons _ (.cons _ (.refl _)))))))
          exact ⟨fs.length, Nat.lt_succ_self _, R, gs, fs, _, _, rfl, S4, by simpa using hl, rfl, e⟩
  · obtain ⟨R, v2, v3, rfl, S, e⟩ := hj
    walk_at "go"
    intro p np
    have S1 := S.newR np (.tup [.str "fault", .int n])
    walk_at "go"
    have S2 := (S1.set 0 rfl (.dK (stL c s.turns sd (.ref p) st))).less (L' := (c.t, .dK (stL c s.turns sd (.ref p) st)) :: (sd, .lst (s.said.map .int)) :: []) (.cons₂ _ (.cons₂ _ (.cons _ (.slnil))))
    refine q _ ?_
    unfold MS.faulted
    rw [e]
    exact InvL.end_ (o := .fault n) S2 upd_same
end
end LM

namespace LM
open PySem PySem.Spec PyProof.Rows L2 U MM M LC
local macro_rules | `(tactic| walk_at "own1") => `(tactic| first
  | (with_reducible refine U.w_dg ?_)
  | (with_reducible refine U.w_dp ?_)
  | ((with_reducible refine w_lCo (c := ?lwc) (t := ?lwt) (sd := ?lwd) (ov := ?lwo) (st := ?lws) ?wda ?_); (case wda => walk_at "hp"))
  | ((with_reducible refine w_lSt (c := ?lwc) (t := ?lwt) (sd := ?lwd) (ov := ?lwo) (st := ?lws) ?wda ?_); (case wda => walk_at "hp"))
  | ((with_reducible refine w_lBe (c := ?lwc) (t := ?lwt) (sd := ?lwd) (ov := ?lwo) (st := ?lws) ?wda ?_); (case wda => walk_at "hp"))
  | ((with_reducible refine w_lBo (c := ?lwc) (t := ?lwt) (sd := ?lwd) (ov := ?lwo) (st := ?lws) ?wda ?_); (case wda => walk_at "hp"))
  | ((with_reducible refine w_lTu (c := ?lwc) (t := ?lwt) (sd := ?lwd) (ov := ?lwo) (st := ?lws) ?wda ?_); (case wda => walk_at "hp"))
  | ((with_reducible refine w_lSa (c := ?lwc) (t := ?lwt) (sd := ?lwd) (ov := ?lwo) (st := ?lws) ?wda ?_); (case wda => walk_at "hp"))
  | ((with_reducible refine w_lEn (c := ?lwc) (t := ?lwt) (sd := ?lwd) (ov := ?lwo) (st := ?lws) ?wda ?_); (case wda => walk_at "hp"))
  | ((with_reducible refine w_lFr (c := ?lwc) (t := ?lwt) (sd := ?lwd) (ov := ?lwo) (st := ?lws) ?wda ?_); (case wda => walk_at "hp"))
  | ((with_reducible refine w_pTu (c := ?lwc) (t := ?lwt) (sd := ?lwd) (ov := ?lwo) (st := ?lws) ?wda ?_); (case wda => walk_at "hp"))
  | ((with_reducible refine w_pEn (c := ?lwc) (t := ?lwt) (sd := ?lwd) (ov := ?lwo) (st := ?lws) ?wda ?_); (case wda => walk_at "hp"))
  | ((with_reducible refine U.w_setL (xs := ?wsx) (j := ?wsj) ?wsa ?wsk ?_); (case wsa => walk_at "hp"); (case wsk => exact rfl))
  | walk_at "own2")
section
variable {P : Program} {w : World} {K : PySem.W.Frag} {mg : Str → Option Value} {base : Heap}
def spLTurn : Sp := fun vs H Q _ => ∃ (c : Lc) (R : Hp) (t : Int) (sd st : Addr) (L : List (Addr × HO)), vs = [.ref c.t] ∧ Sta [] c.R0 c.B R H ((c.t, .dK (stL c t sd .non st)) :: L) ∧ 0 ≤ t ∧
  (t < 1 → ∀ p R' H', Sta [] c.R0 c.B R' H' ((c.t, .dK (stL c t sd (.ref p) st)) :: L) → Same R R' → R' p = some (.tup [.str "tired", .int 0]) → Q (.bl false) H') ∧
  (¬ t < 1 → ∀ H', Sta [] c.R0 c.B R H' ((c.t, .dK (stL c (t - 1) sd .non st)) :: L) → Q (.bl true) H')
theorem ca_lturn (D : Df K mg "_law_turn" (top 38)) : Ca P w K mg base CX0 1 "_law_turn" spLTurn := by
  have sc : FnScope ["_law_state"] ["_law_state"] (defScope (top 38)) := ⟨rfl, rfl, rfl, by decide +kernel, rfl, by decide +kernel, by decide +kernel⟩
  have nd := sc.nd
  refine D.ca0 sc (fun _ _ _ _ _ _ us hl => match us, hl with | [_], _ => rfl) (fun vs H Q E h => by obtain ⟨_, _, _, _, _, _, rfl, _⟩ := h; rfl) (fun f cdv A outer s H vs Q E hr h => ?_)
  obtain ⟨c, R, t, sd, st, L, rfl, S, ht, q1, q2⟩ := h
  refine ⟨_, (pss_cons (ps_if (pt_cmpR op_eq (pe_dget (hu_of hr) (pv 0) pe_str (fun _ _ => rfl)) pe_int (nomark _)) (pss_cons (ps_dput (hu_of hr) (pv 0) pe_str (pe_tup (pa_cons pe_str (pa_cons pe_int pa_nil))) rfl)
    (pss_one (ps_ret pe_bl))) pss_nil)
    (pss_cons (ps_dput (hu_of hr) (pv 0) pe_str (pe_op op_sub (pe_dget (hu_of hr) (pv 0) pe_str (fun _ _ => rfl)) pe_int) rfl)
    (pss_one (ps_ret pe_bl)))), ?_⟩
  refine U.w_start (σ' := [some _]) rfl ?_
  walk_at "st"
  first | walk_at "if" | walk_at "go"
  refine it_cases (fun c1 => ?_) fun c1 => ?_
  · walk_at "go"
    intro p np
    have S1 := S.newR np (.tup [.str "tired", .int 0])
    walk_at "go"
    exact q1 (by omega) p _ _ (S1.set 0 rfl (.dK (stL c t sd (.ref p) st))) (same_new (S.nR np) _) upd_same
  · walk_at "go"
    exact q2 (by omega) _ (S.set 0 rfl (.dK (stL c (t - 1) sd .non st)))
def spLTwo (K : PySem.W.Frag) : Sp := fun vs H Q _ => ∃ (c : Lc) (e : Addr) (s s' : MS) (o : Op4), vs = [.ref c.t, .ref e, .str o.word] ∧ c.K = K ∧ c.Ok ∧ InvT c e s H ∧ s.out = none ∧ Small 16000000 s ∧ act c.C s (.rek o) = some s' ∧ ∀ H', InvL c s' H' → Q .non H'
theorem wd_ne {x : Str} {o : Op4} (h : ∀ o' : Op4, o'.word = x → o' = o) {o2 : Op4} (n : o2 ≠ o) : decide (V.str o2.word = V.str x) = false := decide_eq_false fun e => n (h o2 (V.str.inj e))
theorem ca_ltwo (B : Bi mg) (hS : seerB K = true) (hP : P.given.tree = none) (D : Df K mg "_law_two" (top 39)) (c__law_fault : Ca P w K mg base CX0 2 "_law_fault" (spLFault K)) : Ca P w K mg base CX0 40 "_law_two" (spLTwo K) := by
  have sc : FnScope ["_law_state", "_law_frame", "_law_word", "_law_other", "_law_one"] ["_law_state", "_law_frame", "_law_word"] (defScope (top 39)) := ⟨rfl, rfl, rfl, by decide +kernel, rfl, by decide +kernel, by decide +kernel⟩
  have nd := sc.nd
  refine D.ca0 sc (fun _ _ _ _ _ _ us hl => match us, hl with | [_, _, _], _ => rfl) (fun vs H Q E h => by obtain ⟨_, _, _, _, _, rfl, _⟩ := h; rfl) (fun f cdv A outer s H vs Q E hr h => ?_)
  obtain ⟨c, e, s, s', o, rfl, hK, ok, ⟨R, sd, st, g, gs, f, fs, ef, rfl, S, hl⟩, ho, hb, ha, q⟩ := h
  refine ⟨_, (pss_cons (ps_set (i := 3) nd rfl (by first | exact Or.inl rfl | exact Or.inr rfl) (pe_bm0 PySem.F.plainAttrs_list PySem.F.slot_list_pop PySem.F.type_list_pop mt_pop (pe_ix ix_lt (pv 1) pe_int (fun _ _ => rfl))))
    (pss_cons (ps_set (i := 4) nd rfl (by first | exact Or.inl rfl | exact Or.inr rfl) (pe_bm0 PySem.F.plainAttrs_list PySem.F.slot_list_pop PySem.F.type_list_pop mt_pop (pe_ix ix_lt (pv 1) pe_int (fun _ _ => rfl))))
    (pss_cons (ps_if (PW.pt (pw_and (pt_cmpR op_eq (pv 2) pe_str (nomark _)) (pw_and1 (pt_cmpR op_eq (pv 3) pe_int (nomark _))))) (pss_cons (ps_expr (pe_ca c__law_fault hr (by omega) rfl pass0 (pa_cons (pv 0) (pa_cons pe_int pa_nil))))
    (pss_one ps_retN)) pss_nil)
    (pss_cons (ps_if (pt_cmpR op_eq (pv 2) pe_str (nomark _)) (pss_one (ps_expr (pe_bm PySem.F.plainAttrs_list PySem.F.slot_list_append PySem.F.type_list_append mt_append (pe_ix ix_lt (pv 1) pe_int (fun _ _ => rfl)) (pa_cons (pe_op op_add (pv 4) (pv 3)) pa_nil)))) (pss_one (ps_if (pt_cmpR op_eq (pv 2) pe_str (nomark _)) (pss_one (ps_expr (pe_bm PySem.F.plainAttrs_list PySem.F.slot_list_append PySem.F.type_list_append mt_append (pe_ix ix_lt (pv 1) pe_int (fun _ _ => rfl)) (pa_cons (pe_op op_sub (pv 4) (pv 3)) pa_nil)))) (pss_one (ps_if (pt_cmpR op_eq (pv 2) pe_str (nomark _)) (pss_one (ps_expr (pe_bm PySem.F.plainAttrs_list PySem.F.slot_list_append PySem.F.type_list_append mt_append (pe_ix ix_lt (pv 1) pe_int (fun _ _ => rfl)) (pa_cons (pe_callTy call_intA rfl B.int (by decide +kernel) (pa_cons (pe_cmpR op_lt (pv 4) (pv 3) (nomark _)) pa_nil)) pa_nil)))) (pss_one (ps_expr (pe_bm PySem.F.plainAttrs_list PySem.F.slot_list_append PySem.F.type_list_append mt_append (pe_ix ix_lt (pv 1) pe_int (fun _ _ => rfl)) (pa_cons (pe_op (op_fdivA hS hP rfl sc.gen sc.co (room_deep hr (by omega))) (pv 4) (pv 3)) pa_nil)))))))))
    (pss_one (ps_asg (pe_op op_add (pe_ix ix_lt (pv 1) pe_int (fun _ _ => rfl)) pe_int) (pg_sub (pv 1) pe_int set_list))))))), ?_⟩
  refine U.w_start (σ' := [some _, some _, some _, none, none]) rfl ?_
  walk_at "st"
  have hp : f.pile.length ≤ 16000000 := hb.2 f (by rw [ef]; exact List.mem_cons_self ..)
  unfold act at ha
  rw [ef] at ha
  simp only at ha
  split at ha
  case h_2 => cases ha
  rename_i b a pl hz
  rw [hz] at hp
  rw [show f = ⟨f.place, f.boxes, b :: a :: pl⟩ from by rw [← hz]] at S
  have S1 := S.set 5 rfl (.lst (plV (a :: pl)))
  walk_at "go"
  have S2 := S1.set 5 rfl (.lst (plV pl))
  have hp2 : (plV pl).length < sizeLine := by rw [plV_len]; simp at hp; exact szl (by omega)
  walk_at "go"
  have fin : ∀ (z : Int) (H1 : Hp), reck o a b = some z → Sta [] c.R0 c.B R H1 ((c.t, .dK (stL c s.turns sd .non st)) :: (sd, .lst (s.said.map .int)) :: (st, .lst (srL (g :: gs))) :: (g.1, .lst [.int (f.place - 1 + 1), .ref g.2.1, .ref g.2.2]) :: (g.2.1, .lst (f.boxes.map .int)) :: (g.2.2, .lst (plV pl ++ [.int z])) :: frW gs fs) → Q .non H1 := by
    intro z H1 hr S3
    rw [hr] at ha
    cases ha
    refine q _ ?_
    rw [ho]
    exact InvL.run (f := { f with pile := z :: pl }) S3 hl (by show f.place - 1 + 1 = f.place; omega)
  cases o with
  | add =>
    first | walk_at "if" | walk_at "go"
    first | walk_at "if" | walk_at "go"
    have S3 := S2.set 5 rfl (.lst (plV pl ++ [.int (a + b)]))
    walk_at "go"
    exact fin _ _ rfl (S3.set 3 rfl (.lst [.int (f.place - 1 + 1), .ref g.2.1, .ref g.2.2]))
  | sub =>
    first | walk_at "if" | walk_at "go"
    first | walk_at "if" | walk_at "go"
    have S3 := S2.set 5 rfl (.lst (plV pl ++ [.int (a - b)]))
    walk_at "go"
    exact fin _ _ rfl (S3.set 3 rfl (.lst [.int (f.place - 1 + 1), .ref g.2.1, .ref g.2.2]))
  | less =>
    first | walk_at "if" | walk_at "go"
    first | walk_at "if" | walk_at "go"
    by_cases cl : a < b
    · rw [decide_eq_true cl]
      have S3 := S2.set 5 rfl (.lst (plV pl ++ [.int 1]))
      walk_at "go"
      exact fin 1 _ (by simp only [reck, if_pos cl]) (S3.set 3 rfl (.lst [.int (f.place - 1 + 1), .ref g.2.1, .ref g.2.2]))
    · rw [decide_eq_false cl]
      have S3 := S2.set 5 rfl (.lst (plV pl ++ [.int 0]))
      walk_at "go"
      exact fin 0 _ (by simp only [reck, if_neg cl]) (S3.set 3 rfl (.lst [.int (f.place - 1 + 1), .ref g.2.1, .ref g.2.2]))
  | share =>
    first | walk_at "if" | walk_at "go"
    refine it_cases (fun c1 => ?_) fun c1 => ?_
    · walk_at "go"
      refine ⟨c, { s with fs := { f with pile := pl } :: fs }, 101, rfl, hK, ok, ⟨R, sd, st, g :: gs, S2, congrArg (· + 1) hl⟩, ho, fun H' i => ?_⟩
      walk_at "go"
      simp only [reck, if_pos c1] at ha
      cases ha
      exact q _ i
    · first | walk_at "if" | walk_at "go"
      first | walk_at "if" | walk_at "go"
      have S3 := S2.set 5 rfl (.lst (plV pl ++ [.int (a.fdiv b)]))
      walk_at "go"
      exact fin _ _ (by simp only [reck, if_neg c1]) (S3.set 3 rfl (.lst [.int (f.place - 1 + 1), .ref g.2.1, .ref g.2.2]))
def spLCalled (K : PySem.W.Frag) : Sp := fun vs H Q _ => ∃ (c : Lc) (e : Addr) (s s' : MS) (z : Int), vs = [.ref c.t, .ref e, .int z] ∧ c.K = K ∧ c.Ok ∧ InvT c e s H ∧ s.out = none ∧ Small 16000000 s ∧ 0 ≤ s.turns ∧ s.fs.length ≤ 8 ∧ act c.C s (.call z) = some s' ∧ ∀ H', InvL c s' H' → Q .non H'
theorem ca_lcalled (B : Bi mg) (D : Df K mg "_law_called" (top 40)) (c__law_fault : Ca P w K mg base CX0 2 "_law_fault" (spLFault K)) (c__law_turn : Ca P w K mg base CX0 1 "_law_turn" spLTurn) : Ca P w K mg base CX0 3 "_law_called" (spLCalled K) := by
  have sc : FnScope ["_law_state", "_law_frame", "_law_function", "_law_number_here"] ["_law_state", "_law_frame", "_law_function"] (defScope (top 40)) := ⟨rfl, rfl, rfl, by decide +kernel, rfl, by decide +kernel, by decide +kernel⟩
  have nd := sc.nd
  refine D.ca0 sc (fun _ _ _ _ _ _ us hl => match us, hl with | [_, _, _], _ => rfl) (fun vs H Q E h => by obtain ⟨_, _, _, _, _, rfl, _⟩ := h; rfl) (fun f cdv A outer s H vs Q E hr h => ?_)
  obtain ⟨c, e, s, s', z, rfl, hK, ok, ⟨R, sd, st, g, gs, f, fs, ef, rfl, S, hl⟩, ho, hb, ht, h8, ha, q⟩ := h
  refine ⟨_, (pss_cons (ps_set (i := 3) nd rfl (by first | exact Or.inl rfl | exact Or.inr rfl) (pe_bm0 PySem.F.plainAttrs_list PySem.F.slot_list_pop PySem.F.type_list_pop mt_pop (pe_ix ix_lt (pv 1) pe_int (fun _ _ => rfl))))
    (pss_cons (ps_if (pt_not (pt_val (pe_ca c__law_turn hr (by omega) rfl pass0 (pa_cons (pv 0) pa_nil)))) (pss_one ps_retN) pss_nil)
    (pss_one (ps_if (pt_cmpR op_eq (pe_callB call_lenA rfl B.len PySem.boot_len (pa_cons (pe_dget (hu_of hr) (pv 0) pe_str (fun _ _ => rfl)) pa_nil)) pe_int (nomark _)) (pss_one (ps_expr (pe_ca c__law_fault hr (by omega) rfl pass0 (pa_cons (pv 0) (pa_cons pe_int pa_nil))))) (pss_one (ps_expr (pe_bm PySem.F.plainAttrs_list PySem.F.slot_list_append PySem.F.type_list_append mt_append (pe_dget (hu_of hr) (pv 0) pe_str (fun _ _ => rfl)) (pa_cons (pe_lst (pa_cons (pe_ix ix_lt (pe_dget (hu_of hr) (pv 0) pe_str (fun _ _ => rfl)) (pv 2) (fun _ _ => rfl)) (pa_cons (pe_op op_cat (pe_lst (pa_cons (pv 3) pa_nil)) (pe_op op_rep (pe_lst (pa_cons pe_int pa_nil)) (pe_op op_sub (pe_dget (hu_of hr) (pv 0) pe_str (fun _ _ => rfl)) pe_int))) (pa_cons (pe_lst pa_nil) pa_nil)))) pa_nil)))))))), ?_⟩
  refine U.w_start (σ' := [some _, some _, some _, none]) rfl ?_
  walk_at "st"
  unfold act at ha
  rw [ef] at ha h8
  simp only at ha
  split at ha
  case h_2 => cases ha
  rename_i n pl hz
  rw [show f = ⟨f.place, f.boxes, n :: pl⟩ from by rw [← hz]] at S
  walk_at "go"
  have S1 := S.set 5 rfl (.lst (plV pl))
  first | walk_at "if" | walk_at "go"
  refine ⟨c, R, s.turns, sd, st, _, rfl, S1, ht, fun h p R' H' S2 s2 hp => ?_, fun h H' S2 => ?_⟩
  · rw [if_pos h] at ha
    cases ha
    walk_at "go"
    have S3 := S2.less (L' := (c.t, .dK (stL c s.turns sd (.ref p) st)) :: (sd, .lst (s.said.map .int)) :: []) (.cons₂ _ (.cons₂ _ (List.nil_sublist _)))
    exact q _ (InvL.end_ (o := .tired) S3 hp)
  · rw [if_neg h] at ha
    walk_at "go"
    first | walk_at "if" | walk_at "go"
    rw [srL_len]
    unfold enter at ha
    dsimp only at ha
    by_cases e8 : (({ f with pile := pl } : MM.Fr) :: fs).length = 8
    · rw [if_pos e8] at ha
      refine it_pos (by simp at e8 ⊢; omega) ?_
      walk_at "go"
      refine ⟨c, { s with fs := { f with pile := pl } :: fs, turns := s.turns - 1 }, 102, rfl, hK, ok, ⟨R, sd, st, g :: gs, S2, congrArg (· + 1) hl⟩, ho, fun H2 i => ?_⟩
      walk_at "go"
      cases ha
      exact q _ i
    · rw [if_neg e8] at ha
      refine it_neg (by simp at e8 ⊢; omega) ?_
      split at ha
      case h_2 => cases ha
      rename_i y hy
      cases ha
      have hbg := Same.seqL S2.old ok.beg
      rw [hK] at hbg
      walk_at "go"
      refine w_ixLL hbg (v := .int y) (atI_map hy) ?_
      walk_at "go"
      intro p1 np1
      have S3 := S2.new np1 (.lst [.int n])
      walk_at "go"
      intro p2 np2
      have S4 := S3.new np2 (.lst [.int 0])
      walk_at "go"
      have b0 := ok.bxs0
      have b1 := ok.bxs
      refine ⟨p2, c.C.boxes - 1, [.int 0], rfl, rfl, S4.get 0 rfl, by omega, by omega, (by show 1 * (c.C.boxes - 1).toNat ≤ sizeLine; rw [sizeLine_eq]; omega), fun p3 np3 => ?_⟩
      rw [rep1] at *
      have S5 := S4.new np3 (.lst ((List.replicate (c.C.boxes - 1).toNat 0).map .int))
      refine ⟨p1, p3, _, _, rfl, rfl, S5.get 2 rfl, S5.get 0 rfl, (by rw [List.length_map, List.length_replicate]; show 1 + (c.C.boxes - 1).toNat ≤ sizeLine; rw [sizeLine_eq]; omega), fun p4 np4 => ?_⟩
      have S6 := S5.new np4 (.lst ((n :: List.replicate (c.C.boxes - 1).toNat 0).map .int))
      walk_at "go"
      intro p5 np5
      have S7 := S6.new np5 (.lst [])
      walk_at "go"
      intro p6 np6
      have S8 := S7.new np6 (.lst [.int y, .ref p4, .ref p5])
      walk_at "go"
      refine w_append (S8.get 8 rfl) (szlt (by rw [srL_len]; simp at h8 ⊢; omega)) ?_
      have S9 := S8.set 8 rfl (.lst (srL (g :: gs) ++ [.ref p6]))
      have S10 := S9.less (L' := (p6, .lst [.int y, .ref p4, .ref p5]) :: (p5, .lst []) :: (p4, .lst ((n :: List.replicate (c.C.boxes - 1).toNat 0).map .int)) :: (c.t, .dK (stL c (s.turns - 1) sd .non st)) :: (sd, .lst (s.said.map .int)) :: (st, .lst (srL (g :: gs) ++ [.ref p6])) :: frW (g :: gs) ({ f with pile := pl } :: fs)) (.cons₂ _ (.cons₂ _ (.cons₂ _ (.cons _ (.cons _ (.cons _ (.refl _)))))))
      have S11 := S10.perm (L' := lL c (s.turns - 1) sd st s.said .non ((p6, p4, p5) :: g :: gs) ((p6, .lst [.int y, .ref p4, .ref p5]) :: (p4, .lst ((n :: List.replicate (c.C.boxes - 1).toNat 0).map .int)) :: (p5, .lst []) :: frW (g :: gs) ({ f with pile := pl } :: fs))) (by
        have e1 := (List.perm_append_comm (l₁ := [((p6, .lst [.int y, .ref p4, .ref p5]) : Addr × HO), (p5, .lst []), (p4, .lst ((n :: List.replicate (c.C.boxes - 1).toNat 0).map .int))]) (l₂ := [(c.t, .dK (stL c (s.turns - 1) sd .non st)), (sd, .lst (s.said.map .int)), (st, .lst (srL (g :: gs) ++ [.ref p6]))])).append_right (frW (g :: gs) ({ f with pile := pl } :: fs))
        refine List.Perm.trans e1 (.cons _ (.cons _ (.cons _ (.cons _ (.swap _ _ _))))))
      refine q _ ?_
      rw [ho]
      exact InvL.run (g := (p6, p4, p5)) (gs := g :: gs) (f := newFr c.C y n) (fs := { f with pile := pl } :: fs) S11 (congrArg (· + 1) hl) rfl
def spLGiven (K : PySem.W.Frag) : Sp := fun vs H Q _ => ∃ (c : Lc) (s : MS) (n : Int) (f : MM.Fr) (fs : List MM.Fr), vs = [.ref c.t, .int n] ∧ c.K = K ∧ s.fs = f :: fs ∧ InvW c s H ∧ s.out = none ∧ Small 16000000 s ∧
  ∀ H', InvL c (match fs with | [] => { s with fs := [], out := some (.answer n) } | g :: gs => { s with fs := { g with pile := n :: g.pile } :: gs }) H' → Q .non H'
theorem ca_lgiven (D : Df K mg "_law_given" (top 41)) : Ca P w K mg base CX0 1 "_law_given" (spLGiven K) := by
  have sc : FnScope ["_law_state", "_law_number_here", "_law_frame"] ["_law_state", "_law_number_here"] (defScope (top 41)) := ⟨rfl, rfl, rfl, by decide +kernel, rfl, by decide +kernel, by decide +kernel⟩
  have nd := sc.nd
  refine D.ca0 sc (fun _ _ _ _ _ _ us hl => match us, hl with | [_, _], _ => rfl) (fun vs H Q E h => by obtain ⟨_, _, _, _, _, rfl, _⟩ := h; rfl) (fun f cdv A outer s H vs Q E hr h => ?_)
  obtain ⟨c, s, n, f, fs, rfl, rfl, ef, ⟨R, sd, st, gs0, S, hl⟩, ho, hb, q⟩ := h
  refine ⟨_, (pss_cons (ps_expr (pe_bm0 PySem.F.plainAttrs_list PySem.F.slot_list_pop PySem.F.type_list_pop mt_pop (pe_dget (hu_of hr) (pv 0) pe_str (fun _ _ => rfl))))
    (pss_one (ps_if (pt_cmpR (op_eqD hr.units) (pe_dget (hu_of hr) (pv 0) pe_str (fun _ _ => rfl)) (pe_lst pa_nil) (nomark _)) (pss_one (ps_dput (hu_of hr) (pv 0) pe_str (pe_tup (pa_cons pe_str (pa_cons (pv 1) pa_nil))) rfl)) (pss_cons (ps_set (i := 2) nd rfl (by first | exact Or.inl rfl | exact Or.inr rfl) (pe_ix ix_lt (pe_dget (hu_of hr) (pv 0) pe_str (fun _ _ => rfl)) (pe_un un_neg pe_int) (fun _ _ => rfl)))
    (pss_cons (ps_expr (pe_bm PySem.F.plainAttrs_list PySem.F.slot_list_append PySem.F.type_list_append mt_append (pe_ix ix_lt (pv 2) pe_int (fun _ _ => rfl)) (pa_cons (pv 1) pa_nil)))
    (pss_one (ps_asg (pe_op op_add (pe_ix ix_lt (pv 2) pe_int (fun _ _ => rfl)) pe_int) (pg_sub (pv 2) pe_int set_list)))))))), ?_⟩
  refine U.w_start (σ' := [some _, some _, none]) rfl ?_
  walk_at "st"
  rw [ef] at S hl
  cases gs0 with
  | nil => simp at hl
  | cons g gs =>
    walk_at "go"
    have S1 := S.set 2 rfl (.lst (srL gs))
    have S2 := S1.less (L' := lL c s.turns sd st s.said .non gs (frW gs fs)) (.cons₂ _ (.cons₂ _ (.cons₂ _ (.cons _ (.cons _ (.cons _ (.refl _)))))))
    first | walk_at "if" | walk_at "go"
    intro z nz
    have S3 := S2.newX nz (.lst [])
    obtain ⟨ds, k1, k2⟩ := fd_all (K := c.K) (H := upd (upd H st (.lst (srL gs))) z (.lst [])) gs fs (by simpa using hl) fun q hq => S3.mem (List.mem_cons_of_mem _ (List.mem_cons_of_mem _ (List.mem_cons_of_mem _ hq)))
    refine w_eqNil (SqL.of (S3.get 2 rfl)) k1 (dp_newL upd_same .nil) (shaped_list k2 (by decide)) ?_
    cases gs with
    | nil =>
      cases fs with
      | cons f fs => simp at hl
      | nil =>
        rw [show (srL ([] : List Gh3)).isEmpty = true from rfl]
        walk_at "go"
        intro p np
        have S4 := S3.newR np (.tup [.str "answer", .int n])
        walk_at "go"
        have S5 := (S4.set 0 rfl (.dK (stL c s.turns sd (.ref p) st))).less (L' := (c.t, .dK (stL c s.turns sd (.ref p) st)) :: (sd, .lst (s.said.map .int)) :: []) (.cons₂ _ (.cons₂ _ (List.nil_sublist _)))
        exact q _ (InvL.end_ (o := .answer n) S5 upd_same)
    | cons g2 gs =>
      cases fs with
      | nil => simp at hl
      | cons f2 fs =>
        have hp2 : (plV f2.pile).length < sizeLine := by rw [plV_len]; exact szl (hb.2 f2 (by rw [ef]; simp))
        rw [show (srL (g2 :: gs)).isEmpty = false from by show (srL gs ++ [V.ref g2.1]).isEmpty = false; simp]
        walk_at "go"
        refine w_ixLL (xs := srL gs ++ [V.ref g2.1]) (SqL.of (S3.get 2 rfl)) (v := .ref g2.1) (atI_last _ _) ?_
        walk_at "go"
        have S4 := S3.set 5 rfl (.lst (plV f2.pile ++ [.int n]))
        walk_at "go"
        have S5 := S4.set 3 rfl (.lst [.int (f2.place - 1 + 1), .ref g2.2.1, .ref g2.2.2])
        refine q _ ?_
        dsimp only
        rw [ho]
        exact InvL.run (f := { f2 with pile := n :: f2.pile }) S5 (by simpa using hl) (by show f2.place - 1 + 1 = f2.place; omega)
end
end LM

namespace LM
open PySem PySem.Spec PyProof.Rows L2 U MM M LC
local macro_rules | `(tactic| walk_at "own1") => `(tactic| first
  | (with_reducible refine U.w_dg ?_)
  | (with_reducible refine U.w_dp ?_)
  | ((with_reducible refine w_lCo (c := ?lwc) (t := ?lwt) (sd := ?lwd) (ov := ?lwo) (st := ?lws) ?wda ?_); (case wda => walk_at "hp"))
  | ((with_reducible refine w_lSt (c := ?lwc) (t := ?lwt) (sd := ?lwd) (ov := ?lwo) (st := ?lws) ?wda ?_); (case wda => walk_at "hp"))
  | ((with_reducible refine w_lBe (c := ?lwc) (t := ?lwt) (sd := ?lwd) (ov := ?lwo) (st := ?lws) ?wda ?_); (case wda => walk_at "hp"))
  | ((with_reducible refine w_lBo (c := ?lwc) (t := ?lwt) (sd := ?lwd) (ov := ?lwo) (st := ?lws) ?wda ?_); (case wda => walk_at "hp"))
  | ((with_reducible refine w_lTu (c := ?lwc) (t := ?lwt) (sd := ?lwd) (ov := ?lwo) (st := ?lws) ?wda ?_); (case wda => walk_at "hp"))
  | ((with_reducible refine w_lSa (c := ?lwc) (t := ?lwt) (sd := ?lwd) (ov := ?lwo) (st := ?lws) ?wda ?_); (case wda => walk_at "hp"))
  | ((with_reducible refine w_lEn (c := ?lwc) (t := ?lwt) (sd := ?lwd) (ov := ?lwo) (st := ?lws) ?wda ?_); (case wda => walk_at "hp"))
  | ((with_reducible refine w_lFr (c := ?lwc) (t := ?lwt) (sd := ?lwd) (ov := ?lwo) (st := ?lws) ?wda ?_); (case wda => walk_at "hp"))
  | ((with_reducible refine w_pTu (c := ?lwc) (t := ?lwt) (sd := ?lwd) (ov := ?lwo) (st := ?lws) ?wda ?_); (case wda => walk_at "hp"))
  | ((with_reducible refine w_pEn (c := ?lwc) (t := ?lwt) (sd := ?lwd) (ov := ?lwo) (st := ?lws) ?wda ?_); (case wda => walk_at "hp"))
  | ((with_reducible refine U.w_setL (xs := ?wsx) (j := ?wsj) ?wsa ?wsk ?_); (case wsa => walk_at "hp"); (case wsk => exact rfl))
  | walk_at "own2")
section
variable {P : Program} {w : World} {K : PySem.W.Frag} {mg : Str → Option Value} {base : Heap}
def Plain : Rw → Bool
  | .put _ => true
  | .get _ => true
  | .set _ => true
  | .say => true
  | .go _ => true
  | .nought _ => true
  | .turn => true
  | _ => false
def spLPlain (K : PySem.W.Frag) : Sp := fun vs H Q _ => ∃ (c : Lc) (e : Addr) (s s' : MS) (rv : V) (r : Rw), vs = [.ref c.t, .ref e, rv] ∧ c.K = K ∧ Dp K c.R0 rv r.enc ∧ Plain r = true ∧ InvT c e s H ∧ s.out = none ∧ Small 16000000 s ∧ 0 ≤ s.turns ∧ act c.C s r = some s' ∧ ∀ H', InvL c s' H' → Q .non H'
theorem ca_lplain (D : Df K mg "_law_plain" (top 42)) (c__law_turn : Ca P w K mg base CX0 1 "_law_turn" spLTurn) : Ca P w K mg base CX0 2 "_law_plain" (spLPlain K) := by
  have sc : FnScope ["_law_state", "_law_frame", "_law_row", "_law_goes"] ["_law_state", "_law_frame", "_law_row"] (defScope (top 42)) := ⟨rfl, rfl, rfl, by decide +kernel, rfl, by decide +kernel, by decide +kernel⟩
  have nd := sc.nd
  refine D.ca0 sc (fun _ _ _ _ _ _ us hl => match us, hl with | [_, _, _], _ => rfl) (fun vs H Q E h => by obtain ⟨_, _, _, _, _, _, rfl, _⟩ := h; rfl) (fun f cdv A outer s H vs Q E hr h => ?_)
  obtain ⟨c, e, s, s', rv, r, rfl, hK, hd, hpl, ⟨R, sd, st, g, gs, f, fs, ef, rfl, S, hl⟩, ho, hb, ht, ha, q⟩ := h
  refine ⟨_, (pss_cons (ps_set (i := 3) nd rfl (by first | exact Or.inl rfl | exact Or.inr rfl) (pe_or (pe_cmpR op_eq (pe_ix ix_lt (pv 2) pe_int (fun _ _ => rfl)) pe_str (nomark _)) (pe_one (pe_and (pe_cmpR op_eq (pe_ix ix_lt (pv 2) pe_int (fun _ _ => rfl)) pe_str (nomark _)) (pe_one (pe_cmpR op_eq (pe_bm0 PySem.F.plainAttrs_list PySem.F.slot_list_pop PySem.F.type_list_pop mt_pop (pe_ix ix_lt (pv 1) pe_int (fun _ _ => rfl))) pe_int (nomark _)))))))
    (pss_cons (ps_if (pt_cmpR op_eq (pe_ix ix_lt (pv 2) pe_int (fun _ _ => rfl)) pe_str (nomark _)) (pss_one (ps_expr (pe_bm PySem.F.plainAttrs_list PySem.F.slot_list_append PySem.F.type_list_append mt_append (pe_ix ix_lt (pv 1) pe_int (fun _ _ => rfl)) (pa_cons (pe_ix ix_lt (pv 2) pe_int (fun _ _ => rfl)) pa_nil)))) (pss_one (ps_if (pt_cmpR op_eq (pe_ix ix_lt (pv 2) pe_int (fun _ _ => rfl)) pe_str (nomark _)) (pss_one (ps_expr (pe_bm PySem.F.plainAttrs_list PySem.F.slot_list_append PySem.F.type_list_append mt_append (pe_ix ix_lt (pv 1) pe_int (fun _ _ => rfl)) (pa_cons (pe_ix ix_lt (pe_ix ix_lt (pv 1) pe_int (fun _ _ => rfl)) (pe_ix ix_lt (pv 2) pe_int (fun _ _ => rfl)) (fun _ _ => rfl)) pa_nil)))) (pss_one (ps_if (pt_cmpR op_eq (pe_ix ix_lt (pv 2) pe_int (fun _ _ => rfl)) pe_str (nomark _)) (pss_one (ps_asg (pe_bm0 PySem.F.plainAttrs_list PySem.F.slot_list_pop PySem.F.type_list_pop mt_pop (pe_ix ix_lt (pv 1) pe_int (fun _ _ => rfl))) (pg_sub (pe_ix ix_lt (pv 1) pe_int (fun _ _ => rfl)) (pe_ix ix_lt (pv 2) pe_int (fun _ _ => rfl)) set_list))) (pss_one (ps_if (pt_cmpR op_eq (pe_ix ix_lt (pv 2) pe_int (fun _ _ => rfl)) pe_str (nomark _)) (pss_one (ps_expr (pe_bm PySem.F.plainAttrs_list PySem.F.slot_list_append PySem.F.type_list_append mt_append (pe_dget (hu_of hr) (pv 0) pe_str (fun _ _ => rfl)) (pa_cons (pe_bm0 PySem.F.plainAttrs_list PySem.F.slot_list_pop PySem.F.type_list_pop mt_pop (pe_ix ix_lt (pv 1) pe_int (fun _ _ => rfl))) pa_nil)))) (pss_one (ps_if (PW.pt (pw_and (pt_cmpR op_eq (pe_ix ix_lt (pv 2) pe_int (fun _ _ => rfl)) pe_str (nomark _)) (pw_and1 (pt_not (pt_val (pe_ca c__law_turn hr (by omega) rfl pass0 (pa_cons (pv 0) pa_nil))))))) (pss_one ps_retN) pss_nil)))))))))
    (pss_one (ps_asg (pe_ifExp (pt_val (pv 3)) (pe_ix ix_lt (pv 2) pe_int (fun _ _ => rfl)) (pe_op op_add (pe_ix ix_lt (pv 1) pe_int (fun _ _ => rfl)) pe_int)) (pg_sub (pv 1) pe_int set_list))))), ?_⟩
  refine U.w_start (σ' := [some _, some _, some _, none]) rfl ?_
  walk_at "st"
  have hp : f.pile.length ≤ 16000000 := hb.2 f (by rw [ef]; exact List.mem_cons_self ..)
  have hp2 : (plV f.pile).length < sizeLine := by rw [plV_len]; exact szl hp
  obtain ⟨p0, vs0, rfl, hT⟩ := enc_head hd
  have ep : f.place - 1 + 1 = f.place := by omega
  unfold act at ha
  rw [ef] at ha
  cases r with
  | put n =>
    cases ha
    obtain ⟨pp, v1, v2, epp, hT2, h1, h2⟩ := dp_tup2 hd
    cases epp
    cases dp_str h1
    cases dp_int h2
    walk_at "go"
    first | walk_at "if" | walk_at "go"
    have S1 := S.set 5 rfl (.lst (plV f.pile ++ [.int n]))
    walk_at "go"
    refine q _ ?_
    rw [ho]
    exact InvL.run (f := { f with pile := n :: f.pile }) (S1.set 3 rfl (.lst [.int (f.place - 1 + 1), .ref g.2.1, .ref g.2.2])) hl ep
  | get n =>
    simp only at ha
    split at ha
    case h_2 => cases ha
    rename_i z hz
    cases ha
    obtain ⟨pp, v1, v2, epp, hT2, h1, h2⟩ := dp_tup2 hd
    cases epp
    cases dp_str h1
    cases dp_int h2
    walk_at "go"
    first | walk_at "if" | walk_at "go"
    refine w_ixLL (SqL.of (S.get 4 rfl)) (v := .int z) (atI_map hz) ?_
    have S1 := S.set 5 rfl (.lst (plV f.pile ++ [.int z]))
    walk_at "go"
    refine q _ ?_
    rw [ho]
    exact InvL.run (f := { f with pile := z :: f.pile }) (S1.set 3 rfl (.lst [.int (f.place - 1 + 1), .ref g.2.1, .ref g.2.2])) hl ep
  | set n =>
    simp only at ha
    split at ha
    case h_2 => cases ha
    rename_i z pl j hz hj
    cases ha
    obtain ⟨pp, v1, v2, epp, hT2, h1, h2⟩ := dp_tup2 hd
    cases epp
    cases dp_str h1
    cases dp_int h2
    rw [show f = ⟨f.place, f.boxes, z :: pl⟩ from by rw [← hz]] at S
    walk_at "go"
    first | walk_at "if" | walk_at "go"
    have S1 := S.set 5 rfl (.lst (plV pl))
    walk_at "go"
    refine w_setL (xs := f.boxes.map .int) (S1.get 4 rfl) (j := j) (by rw [List.length_map]; exact hj) ?_
    rw [show (f.boxes.map V.int).set j (V.int z) = (f.boxes.set j z).map V.int from List.map_set.symm]
    have S2 := S1.set 4 rfl (.lst ((f.boxes.set j z).map .int))
    walk_at "go"
    refine q _ ?_
    rw [ho]
    exact InvL.run (f := { f with pile := pl, boxes := f.boxes.set j z }) (S2.set 3 rfl (.lst [.int (f.place - 1 + 1), .ref g.2.1, .ref g.2.2])) hl ep
  | say =>
    simp only at ha
    split at ha
    case h_2 => cases ha
    rename_i z pl hz
    cases ha
    rw [show f = ⟨f.place, f.boxes, z :: pl⟩ from by rw [← hz]] at S
    have hs2 : (s.said.map V.int).length < sizeLine := by rw [List.length_map]; exact szl hb.1
    walk_at "go"
    first | walk_at "if" | walk_at "go"
    have S1 := S.set 5 rfl (.lst (plV pl))
    walk_at "go"
    rw [show s.said.map V.int ++ [V.int z] = (s.said ++ [z]).map V.int from by rw [List.map_append]; rfl]
    have S2 := S1.set 1 rfl (.lst ((s.said ++ [z]).map .int))
    walk_at "go"
    refine q _ ?_
    rw [ho]
    exact InvL.run (f := { f with pile := pl }) (S2.set 3 rfl (.lst [.int (f.place - 1 + 1), .ref g.2.1, .ref g.2.2])) hl ep
  | go n =>
    cases ha
    obtain ⟨pp, v1, v2, epp, hT2, h1, h2⟩ := dp_tup2 hd
    cases epp
    cases dp_str h1
    cases dp_int h2
    walk_at "go"
    first | walk_at "if" | walk_at "go"
    refine q _ ?_
    rw [ho]
    exact InvL.run (f := { f with place := n }) (S.set 3 rfl (.lst [.int n, .ref g.2.1, .ref g.2.2])) hl rfl
  | nought n =>
    simp only at ha
    split at ha
    case h_2 => cases ha
    rename_i z pl hz
    cases ha
    obtain ⟨pp, v1, v2, epp, hT2, h1, h2⟩ := dp_tup2 hd
    cases epp
    cases dp_str h1
    cases dp_int h2
    rw [show f = ⟨f.place, f.boxes, z :: pl⟩ from by rw [← hz]] at S
    walk_at "go"
    have S1 := S.set 5 rfl (.lst (plV pl))
    first | walk_at "if" | walk_at "go"
    refine it_cases (fun c1 => ?_) fun c1 => ?_
    · walk_at "go"
      refine q _ ?_
      rw [ho, if_pos c1]
      exact InvL.run (f := { f with pile := pl, place := n }) (S1.set 3 rfl (.lst [.int n, .ref g.2.1, .ref g.2.2])) hl rfl
    · walk_at "go"
      refine q _ ?_
      rw [ho, if_neg c1]
      exact InvL.run (f := { f with pile := pl }) (S1.set 3 rfl (.lst [.int (f.place - 1 + 1), .ref g.2.1, .ref g.2.2])) hl ep
  | turn =>
    simp only at ha
    walk_at "go"
    first | walk_at "if" | walk_at "go"
    refine ⟨c, R, s.turns, sd, st, _, rfl, S, ht, fun h p R' H' S2 s2 hp => ?_, fun h H' S2 => ?_⟩
    · rw [if_pos h] at ha
      cases ha
      walk_at "go"
      have S3 := S2.less (L' := (c.t, .dK (stL c s.turns sd (.ref p) st)) :: (sd, .lst (s.said.map .int)) :: []) (.cons₂ _ (.cons₂ _ (List.nil_sublist _)))
      exact q _ (InvL.end_ (o := .tired) S3 hp)
    · rw [if_neg h] at ha
      cases ha
      walk_at "go"
      refine q _ ?_
      rw [ho]
      exact InvL.run (f := f) (S2.set 3 rfl (.lst [.int (f.place - 1 + 1), .ref g.2.1, .ref g.2.2])) hl ep
  | rek o => cases hpl
  | on n => cases hpl
  | call n => cases hpl
  | back => cases hpl
  | raise => cases hpl
def spLStep (K : PySem.W.Frag) : Sp := fun vs H Q _ => ∃ (c : Lc) (s s' : MS), vs = [.ref c.t] ∧ c.K = K ∧ c.Ok ∧ InvL c s H ∧ s.out = none ∧ Small 16000000 s ∧ 0 ≤ s.turns ∧ s.fs.length ≤ 8 ∧ MM.step c.C s = some s' ∧ ∀ H', InvL c s' H' → Q .non H'
theorem in4 (r : Rw) : inV (.str (Rw.word r)) [.str "add", .str "sub", .str "less", .str "share"] = (match r with | .rek _ => true | _ => false) := by
  cases r with
  | rek o => cases o <;> decide +kernel
  | _ => simp only [Rw.word]; decide +kernel
theorem ca_lstep (D : Df K mg "_law_step" (top 43)) (c__law_two : Ca P w K mg base CX0 40 "_law_two" (spLTwo K)) (c__law_called : Ca P w K mg base CX0 3 "_law_called" (spLCalled K)) (c__law_given : Ca P w K mg base CX0 1 "_law_given" (spLGiven K))
    (c__law_fault : Ca P w K mg base CX0 2 "_law_fault" (spLFault K)) (c__law_plain : Ca P w K mg base CX0 2 "_law_plain" (spLPlain K)) : Ca P w K mg base CX0 41 "_law_step" (spLStep K) := by
  have sc : FnScope ["_law_state", "_law_frame", "_law_row"] ["_law_state"] (defScope (top 43)) := ⟨rfl, rfl, rfl, by decide +kernel, rfl, by decide +kernel, by decide +kernel⟩
  have nd := sc.nd
  refine D.ca0 sc (fun _ _ _ _ _ _ us hl => match us, hl with | [_], _ => rfl) (fun vs H Q E h => by obtain ⟨_, _, _, rfl, _⟩ := h; rfl) (fun f cdv A outer s H vs Q E hr h => ?_)
  obtain ⟨c, s, s', rfl, hK, ok, hi, ho, hb, ht, h8, he, q⟩ := h
  refine ⟨_, (pss_cons (ps_set (i := 1) nd rfl (by first | exact Or.inl rfl | exact Or.inr rfl) (pe_ix ix_lt (pe_dget (hu_of hr) (pv 0) pe_str (fun _ _ => rfl)) (pe_un un_neg pe_int) (fun _ _ => rfl)))
    (pss_cons (ps_set (i := 2) nd rfl (by first | exact Or.inl rfl | exact Or.inr rfl) (pe_ix ix_lt (pe_dget (hu_of hr) (pv 0) pe_str (fun _ _ => rfl)) (pe_ix ix_lt (pv 1) pe_int (fun _ _ => rfl)) (fun _ _ => rfl)))
    (pss_one (ps_if (pt_cmpR op_in_seq (pe_ix ix_lt (pv 2) pe_int (fun _ _ => rfl)) (pe_tup (pa_cons pe_str (pa_cons pe_str (pa_cons pe_str (pa_cons pe_str pa_nil))))) rfl) (pss_one (ps_expr (pe_ca c__law_two hr (by omega) rfl pass0 (pa_cons (pv 0) (pa_cons (pv 1) (pa_cons (pe_ix ix_lt (pv 2) pe_int (fun _ _ => rfl)) pa_nil)))))) (pss_one (ps_if (pt_cmpR op_eq (pe_ix ix_lt (pv 2) pe_int (fun _ _ => rfl)) pe_str (nomark _)) (pss_one (ps_expr (pe_ca c__law_called hr (by omega) rfl pass0 (pa_cons (pv 0) (pa_cons (pv 1) (pa_cons (pe_ix ix_lt (pv 2) pe_int (fun _ _ => rfl)) pa_nil)))))) (pss_one (ps_if (pt_cmpR op_eq (pe_ix ix_lt (pv 2) pe_int (fun _ _ => rfl)) pe_str (nomark _)) (pss_one (ps_expr (pe_ca c__law_given hr (by omega) rfl pass0 (pa_cons (pv 0) (pa_cons (pe_bm0 PySem.F.plainAttrs_list PySem.F.slot_list_pop PySem.F.type_list_pop mt_pop (pe_ix ix_lt (pv 1) pe_int (fun _ _ => rfl))) pa_nil))))) (pss_one (ps_if (pt_cmpR op_eq (pe_ix ix_lt (pv 2) pe_int (fun _ _ => rfl)) pe_str (nomark _)) (pss_one (ps_expr (pe_ca c__law_fault hr (by omega) rfl pass0 (pa_cons (pv 0) (pa_cons (pe_bm0 PySem.F.plainAttrs_list PySem.F.slot_list_pop PySem.F.type_list_pop mt_pop (pe_ix ix_lt (pv 1) pe_int (fun _ _ => rfl))) pa_nil))))) (pss_one (ps_if (pt_cmpR op_eq (pe_ix ix_lt (pv 2) pe_int (fun _ _ => rfl)) pe_str (nomark _)) (pss_one (ps_asg (pe_ix ix_lt (pe_ix ix_lt (pv 1) pe_int (fun _ _ => rfl)) (pe_ix ix_lt (pv 2) pe_int (fun _ _ => rfl)) (fun _ _ => rfl)) (pg_sub (pv 1) pe_int set_list))) (pss_one (ps_expr (pe_ca c__law_plain hr (by omega) rfl pass0 (pa_cons (pv 0) (pa_cons (pv 1) (pa_cons (pv 2) pa_nil)))))))))))))))))), ?_⟩
  refine U.w_start (σ' := [some _, none, none]) rfl ?_
  walk_at "st"
  unfold InvL at hi
  rw [ho] at hi
  obtain ⟨R, sd, st, g, gs, f, fs, ef, hl, S⟩ := hi
  unfold MM.step at he
  rw [ef] at he
  dsimp only at he
  split at he
  case h_2 => cases he
  rename_i r hr'
  obtain ⟨xs, h1, h2⟩ := ok.rows
  obtain ⟨rv, hrv, hd⟩ := h2.atI (atI_mapE hr')
  rw [hK] at h1 hd
  obtain ⟨p0, vs0, rfl, hT⟩ := enc_head hd
  have hTS := Same.seqT S.old hT
  walk_at "go"
  refine w_ixLL (xs := srL gs ++ [V.ref g.1]) (SqL.of (S.get 2 rfl)) (v := .ref g.1) (atI_last _ _) ?_
  walk_at "go"
  refine w_ixLL (xs := xs) (Same.seqL S.old h1) (v := .ref p0) hrv ?_
  walk_at "go"
  intro t nt
  have S1 := S.newX nt (.tup [.str "add", .str "sub", .str "less", .str "share"])
  have hTS1 := Same.seqT (same_new nt (.tup [.str "add", .str "sub", .str "less", .str "share"])) hTS
  walk_at "go"
  refine w_inT (SqT.of upd_same) rfl rfl (in4 r) ?_
  have S1' := S1.eqL (L' := lL c s.turns sd st s.said .non (g :: gs) (frW (g :: gs) ({ f with place := f.place + 1 } :: fs))) (by
    show _ = _ :: _ :: _ :: (g.1, HO.lst [.int (f.place + 1 - 1), .ref g.2.1, .ref g.2.2]) :: _
    rw [show f.place + 1 - 1 = f.place by omega])
  have hb1 : Small 16000000 { s with fs := { f with place := f.place + 1 } :: fs } := ⟨hb.1, fun x hx => by
    rcases List.mem_cons.mp hx with rfl | hx
    · exact hb.2 f (by rw [ef]; exact List.mem_cons_self ..)
    · exact hb.2 x (by rw [ef]; exact List.mem_cons_of_mem _ hx)⟩
  have h81 : ({ s with fs := { f with place := f.place + 1 } :: fs } : MS).fs.length ≤ 8 := by rw [ef] at h8; exact h8
  have iT : InvT c g.1 { s with fs := { f with place := f.place + 1 } :: fs } (upd H t (.tup [.str "add", .str "sub", .str "less", .str "share"])) := ⟨R, sd, st, g, gs, { f with place := f.place + 1 }, fs, rfl, rfl, S1', hl⟩
  cases r with
  | rek o =>
    have hTo : SqT K _ p0 (.str o.word :: vs0) := hTS1
    walk_at "go"
    refine ⟨c, g.1, _, s', o, rfl, hK, ok, iT, ho, hb1, he, fun H' i => ?_⟩
    walk_at "go"
    exact q _ i
  | call z =>
    obtain ⟨pp, v1, v2, epp, hT2, k1, k2⟩ := dp_tup2 hd
    cases epp
    cases dp_str k1
    cases dp_int k2
    have hTo := Same.seqT (S.old.trans (same_new nt (.tup [.str "add", .str "sub", .str "less", .str "share"]))) hT2
    clear hTS1 hTS hT
    walk_at "go"
    refine ⟨c, g.1, _, s', z, rfl, hK, ok, iT, ho, hb1, ht, h81, he, fun H' i => ?_⟩
    walk_at "go"
    exact q _ i
  | back =>
    have hTo : SqT K _ p0 (.str "back" :: vs0) := hTS1
    simp only [act] at he
    split at he
    case h_2 => cases he
    rename_i n pl hz
    rw [show f = ⟨f.place, f.boxes, n :: pl⟩ from by rw [← hz]] at S1'
    have S2 := S1'.set 5 rfl (.lst (plV pl))
    walk_at "go"
    refine ⟨c, { s with fs := ⟨f.place + 1, f.boxes, pl⟩ :: fs }, n, _, _, rfl, hK, rfl, ⟨R, sd, st, g :: gs, S2, congrArg (· + 1) hl⟩, ho, ?_, fun H' i => ?_⟩
    · refine ⟨hb.1, fun x hx => ?_⟩
      rcases List.mem_cons.mp hx with rfl | hx
      · have := hb.2 f (by rw [ef]; exact List.mem_cons_self ..)
        rw [hz] at this
        simp at this ⊢
        omega
      · exact hb.2 x (by rw [ef]; exact List.mem_cons_of_mem _ hx)
    · walk_at "go"
      refine q _ ?_
      cases fs with
      | nil => cases he; exact i
      | cons f2 fs => cases he; exact i
  | raise =>
    have hTo : SqT K _ p0 (.str "raise" :: vs0) := hTS1
    simp only [act] at he
    split at he
    case h_2 => cases he
    rename_i n pl hz
    rw [show f = ⟨f.place, f.boxes, n :: pl⟩ from by rw [← hz]] at S1'
    have S2 := S1'.set 5 rfl (.lst (plV pl))
    walk_at "go"
    refine ⟨c, { s with fs := ⟨f.place + 1, f.boxes, pl⟩ :: fs }, n, rfl, hK, ok, ⟨R, sd, st, g :: gs, S2, congrArg (· + 1) hl⟩, ho, fun H' i => ?_⟩
    walk_at "go"
    cases he
    exact q _ i
  | on n =>
    simp only [act] at he
    split at he
    case h_2 => cases he
    rename_i z hz
    cases he
    obtain ⟨pp, v1, v2, epp, hT2, k1, k2⟩ := dp_tup2 hd
    cases epp
    cases dp_str k1
    cases dp_int k2
    have hTo := Same.seqT (S.old.trans (same_new nt (.tup [.str "add", .str "sub", .str "less", .str "share"]))) hT2
    clear hTS1 hTS hT
    walk_at "go"
    refine w_ixLL (SqL.of (S1.get 4 rfl)) (v := .int z) (atI_map hz) ?_
    walk_at "go"
    refine q _ ?_
    rw [ho]
    exact InvL.run (f := { f with place := z }) (S1.set 3 rfl (.lst [.int z, .ref g.2.1, .ref g.2.2])) hl rfl
  | put n =>
    have hTo : SqT K _ p0 (.str "put" :: vs0) := hTS1
    walk_at "go"
    exact ⟨c, g.1, _, s', _, .put n, rfl, hK, hd, rfl, iT, ho, hb1, ht, he, fun H' i => by walk_at "go"; exact q _ i⟩
  | get n =>
    have hTo : SqT K _ p0 (.str "get" :: vs0) := hTS1
    walk_at "go"
    exact ⟨c, g.1, _, s', _, .get n, rfl, hK, hd, rfl, iT, ho, hb1, ht, he, fun H' i => by walk_at "go"; exact q _ i⟩
  | set n =>
    have hTo : SqT K _ p0 (.str "set" :: vs0) := hTS1
    walk_at "go"
    exact ⟨c, g.1, _, s', _, .set n, rfl, hK, hd, rfl, iT, ho, hb1, ht, he, fun H' i => by walk_at "go"; exact q _ i⟩
  | say =>
    have hTo : SqT K _ p0 (.str "say" :: vs0) := hTS1
    walk_at "go"
    exact ⟨c, g.1, _, s', _, .say, rfl, hK, hd, rfl, iT, ho, hb1, ht, he, fun H' i => by walk_at "go"; exact q _ i⟩
  | go n =>
    have hTo : SqT K _ p0 (.str "go" :: vs0) := hTS1
    walk_at "go"
    exact ⟨c, g.1, _, s', _, .go n, rfl, hK, hd, rfl, iT, ho, hb1, ht, he, fun H' i => by walk_at "go"; exact q _ i⟩
  | nought n =>
    have hTo : SqT K _ p0 (.str "nought" :: vs0) := hTS1
    walk_at "go"
    exact ⟨c, g.1, _, s', _, .nought n, rfl, hK, hd, rfl, iT, ho, hb1, ht, he, fun H' i => by walk_at "go"; exact q _ i⟩
  | turn =>
    have hTo : SqT K _ p0 (.str "turn" :: vs0) := hTS1
    walk_at "go"
    exact ⟨c, g.1, _, s', _, .turn, rfl, hK, hd, rfl, iT, ho, hb1, ht, he, fun H' i => by walk_at "go"; exact q _ i⟩
end
end LM

namespace LM
open PySem PySem.Spec PyProof.Rows L2 U MM M LC
local macro_rules | `(tactic| walk_at "own1") => `(tactic| first
  | (with_reducible refine U.w_dg ?_)
  | (with_reducible refine U.w_dp ?_)
  | (with_reducible refine U.w_disp ?_)
  | (with_reducible refine U.w_prN ?_)
  | (with_reducible refine U.w_prC ?_)
  | ((with_reducible refine w_lCo (c := ?lwc) (t := ?lwt) (sd := ?lwd) (ov := ?lwo) (st := ?lws) ?wda ?_); (case wda => walk_at "hp"))
  | ((with_reducible refine w_lSt (c := ?lwc) (t := ?lwt) (sd := ?lwd) (ov := ?lwo) (st := ?lws) ?wda ?_); (case wda => walk_at "hp"))
  | ((with_reducible refine w_lBe (c := ?lwc) (t := ?lwt) (sd := ?lwd) (ov := ?lwo) (st := ?lws) ?wda ?_); (case wda => walk_at "hp"))
  | ((with_reducible refine w_lBo (c := ?lwc) (t := ?lwt) (sd := ?lwd) (ov := ?lwo) (st := ?lws) ?wda ?_); (case wda => walk_at "hp"))
  | ((with_reducible refine w_lTu (c := ?lwc) (t := ?lwt) (sd := ?lwd) (ov := ?lwo) (st := ?lws) ?wda ?_); (case wda => walk_at "hp"))
  | ((with_reducible refine w_lSa (c := ?lwc) (t := ?lwt) (sd := ?lwd) (ov := ?lwo) (st := ?lws) ?wda ?_); (case wda => walk_at "hp"))
  | ((with_reducible refine w_lEn (c := ?lwc) (t := ?lwt) (sd := ?lwd) (ov := ?lwo) (st := ?lws) ?wda ?_); (case wda => walk_at "hp"))
  | ((with_reducible refine w_lFr (c := ?lwc) (t := ?lwt) (sd := ?lwd) (ov := ?lwo) (st := ?lws) ?wda ?_); (case wda => walk_at "hp"))
  | ((with_reducible refine w_pTu (c := ?lwc) (t := ?lwt) (sd := ?lwd) (ov := ?lwo) (st := ?lws) ?wda ?_); (case wda => walk_at "hp"))
  | ((with_reducible refine w_pEn (c := ?lwc) (t := ?lwt) (sd := ?lwd) (ov := ?lwo) (st := ?lws) ?wda ?_); (case wda => walk_at "hp"))
  | ((with_reducible refine U.w_setL (xs := ?wsx) (j := ?wsj) ?wsa ?wsk ?_); (case wsa => walk_at "hp"); (case wsk => exact rfl))
  | walk_at "own2")
section
variable {P : Program} {w : World} {K : PySem.W.Frag} {mg : Str → Option Value} {base : Heap}
def spLGone (K : PySem.W.Frag) : Sp := fun vs H Q _ => ∃ (C : Cd) (p : Addr) (number turns : Int) (n : Nat) (s0 s : MS) (o : Ou), vs = [.ref p, .int number, .int turns] ∧ Dp K H (.ref p) C.enc ∧ 0 ≤ C.boxes ∧ C.boxes ≤ 100000 ∧ C.str.length ≤ 10000 ∧ 0 ≤ turns ∧ MM.init C number turns = some s0 ∧ runs C n s0 = some s ∧ s.out = some o ∧ n ≤ 15000000 ∧
  ∀ R' H' v, Gw [] H H R' H' → Dp K R' v (outEnc s.said o) → Q v H'
theorem turns_ge {C : Cd} {s s' : MS} (h : MM.step C s = some s') (ht : 0 ≤ s.turns) : 0 ≤ s'.turns := by
  unfold MM.step at h
  split at h
  · cases h
  · split at h
    case h_2 => cases h
    rename_i f fs ef r hr
    unfold act at h
    dsimp only at h
    cases r with
    | put n => cases h; exact ht
    | get k => simp only at h; split at h <;> cases h; exact ht
    | set k => simp only at h; split at h <;> cases h; exact ht
    | say => simp only at h; split at h <;> cases h; exact ht
    | rek o =>
      simp only at h
      split at h
      · split at h
        · cases h; exact ht
        · cases h; exact ht
      · cases h
    | go p => cases h; exact ht
    | nought q => simp only at h; split at h <;> cases h; exact ht
    | on k => simp only at h; split at h <;> cases h; exact ht
    | turn =>
      simp only at h
      split at h
      · cases h; exact ht
      · cases h; show 0 ≤ s.turns - 1; omega
    | call g =>
      simp only at h
      split at h
      · split at h
        · cases h; exact ht
        · unfold enter at h
          split at h
          · cases h; show 0 ≤ s.turns - 1; omega
          · split at h
            · cases h; show 0 ≤ s.turns - 1; omega
            · cases h
      · cases h
    | back =>
      simp only at h
      split at h
      · split at h <;> (cases h; exact ht)
      · cases h
    | raise => simp only at h; split at h <;> cases h; exact ht
theorem ca_lgone (B : Bi mg) (D : Df K mg "_law_gone" (top 44)) (c__law_step : Ca P w K mg base CX0 41 "_law_step" (spLStep K)) : Ca P w K mg base CX0 42 "_law_gone" (spLGone K) := by
  have sc : FnScope ["_law_parts", "_law_given_here", "_law_turns", "_law_state"] ["_law_parts", "_law_given_here", "_law_turns"] (defScope (top 44)) := ⟨rfl, rfl, rfl, by decide +kernel, rfl, by decide +kernel, by decide +kernel⟩
  have nd := sc.nd
  refine D.ca0 sc (fun _ _ _ _ _ _ us hl => match us, hl with | [_, _, _], _ => rfl) (fun vs H Q E h => by obtain ⟨_, _, _, _, _, _, _, _, rfl, _⟩ := h; rfl) (fun f cdv A outer s H vs Q E hr h => ?_)
  obtain ⟨C, p, number, turns, n, s0, s, o, rfl, hC, hb0, hb1, hsl, ht0, hi, hn, ho, hn1, q⟩ := h
  refine ⟨_, (pss_cons (ps_set (i := 3) nd rfl (by first | exact Or.inl rfl | exact Or.inr rfl) (pe_disp (pps_cons pe_str (pe_ix ix_lt (pv 0) pe_int (fun _ _ => rfl)) (pps_cons pe_str (pe_ix ix_lt (pv 0) pe_int (fun _ _ => rfl)) (pps_cons pe_str (pe_ix ix_lt (pv 0) pe_int (fun _ _ => rfl)) (pps_cons pe_str (pe_ix ix_lt (pv 0) pe_int (fun _ _ => rfl)) (pps_cons pe_str (pv 2) pps_nil))))) rfl rfl (by intro z; cases z) (by decide)))
    (pss_cons (ps_dput (hu_of hr) (pv 3) pe_str (pe_lst pa_nil) rfl)
    (pss_cons (ps_dput (hu_of hr) (pv 3) pe_str pe_non rfl)
    (pss_cons (ps_dput (hu_of hr) (pv 3) pe_str (pe_lst (pa_cons (pe_lst (pa_cons (pe_ix ix_lt (pe_ix ix_lt (pv 0) pe_int (fun _ _ => rfl)) pe_int (fun _ _ => rfl)) (pa_cons (pe_op op_cat (pe_lst (pa_cons (pv 1) pa_nil)) (pe_op op_rep (pe_lst (pa_cons pe_int pa_nil)) (pe_op op_sub (pe_ix ix_lt (pv 0) pe_int (fun _ _ => rfl)) pe_int))) (pa_cons (pe_lst pa_nil) pa_nil)))) pa_nil)) rfl)
    (pss_cons (ps_while PassesOwn.never (pt_cmpR op_isNo (pe_dget (hu_of hr) (pv 3) pe_str (fun _ _ => rfl)) pe_non (nomark _)) (pss_one (ps_expr (pe_ca c__law_step hr (by omega) rfl pass0 (pa_cons (pv 3) pa_nil)))))
    (pss_one (ps_ret (pe_tup (pa_cons (pe_dget (hu_of hr) (pv 3) pe_str (fun _ _ => rfl)) (pa_cons (pe_ix ix_lt (pe_dget (hu_of hr) (pv 3) pe_str (fun _ _ => rfl)) pe_int (fun _ _ => rfl)) (pa_cons (pe_ix ix_lt (pe_dget (hu_of hr) (pv 3) pe_str (fun _ _ => rfl)) pe_int (fun _ _ => rfl)) pa_nil))))))))))), ?_⟩
  refine U.w_start (σ' := [some _, some _, some _, none]) rfl ?_
  walk_at "st"
  obtain ⟨p', vR, vS, vB, vN, ep, hT, hR, hSt, hBe, hNb⟩ := dp_tup4 hC
  cases ep
  obtain ⟨aR, xR, rfl, hR1, hR2⟩ := dp_lst hR
  obtain ⟨aS, xS, rfl, hS1, hS2⟩ := dp_lst hSt
  obtain ⟨aB, xB, rfl, hB1, hB2⟩ := dp_lst hBe
  cases dp_int hNb
  have eB := dpAll_ints hB2
  subst eB
  intro t nt
  have S1 := (Sta.start (W := []) (Same.refl H)).new nt (.dK [])
  walk_at "go"
  refine w_dsE [(.inr "code", .ref aR), (.inr "stretches", .ref aS), (.inr "starts", .ref aB), (.inr "boxes", .int C.boxes), (.inr "turns", .int turns)] (S1.get 0 rfl) rfl rfl (kvs' := [(.inr "code", .ref aR), (.inr "stretches", .ref aS), (.inr "starts", .ref aB), (.inr "boxes", .int C.boxes), (.inr "turns", .int turns)]) rfl ?_
  have S2 := S1.set 0 rfl (.dK [(.inr "code", .ref aR), (.inr "stretches", .ref aS), (.inr "starts", .ref aB), (.inr "boxes", .int C.boxes), (.inr "turns", .int turns)])
  walk_at "go"
  intro sd nsd
  have S3 := S2.new nsd (.lst [])
  walk_at "go"
  refine w_dpE (S3.get 1 rfl) rfl (kvs' := [(.inr "code", .ref aR), (.inr "stretches", .ref aS), (.inr "starts", .ref aB), (.inr "boxes", .int C.boxes), (.inr "turns", .int turns), (.inr "said", .ref sd)]) rfl ?_
  have S4 := S3.set 1 rfl (.dK [(.inr "code", .ref aR), (.inr "stretches", .ref aS), (.inr "starts", .ref aB), (.inr "boxes", .int C.boxes), (.inr "turns", .int turns), (.inr "said", .ref sd)])
  walk_at "go"
  refine w_dpE (S4.get 1 rfl) rfl (kvs' := [(.inr "code", .ref aR), (.inr "stretches", .ref aS), (.inr "starts", .ref aB), (.inr "boxes", .int C.boxes), (.inr "turns", .int turns), (.inr "said", .ref sd), (.inr "ended", .non)]) rfl ?_
  have S5 := S4.set 1 rfl (.dK [(.inr "code", .ref aR), (.inr "stretches", .ref aS), (.inr "starts", .ref aB), (.inr "boxes", .int C.boxes), (.inr "turns", .int turns), (.inr "said", .ref sd), (.inr "ended", .non)])
  unfold MM.init MM.enter at hi
  rw [if_neg (show ¬ ([] : List MM.Fr).length = 8 by decide)] at hi
  split at hi
  case h_2 => cases hi
  rename_i y hy
  cases hi
  walk_at "go"
  refine w_ixLL (Same.seqL S5.old hB1) (v := .int y) (atI_map hy) ?_
  walk_at "go"
  intro p1 np1
  have S6 := S5.new np1 (.lst [.int number])
  walk_at "go"
  intro p2 np2
  have S7 := S6.new np2 (.lst [.int 0])
  walk_at "go"
  refine ⟨p2, C.boxes - 1, [.int 0], rfl, rfl, S7.get 0 rfl, by omega, by omega, (by show 1 * (C.boxes - 1).toNat ≤ sizeLine; rw [sizeLine_eq]; omega), fun p3 np3 => ?_⟩
  rw [rep1] at *
  have S8 := S7.new np3 (.lst ((List.replicate (C.boxes - 1).toNat 0).map .int))
  refine ⟨p1, p3, _, _, rfl, rfl, S8.get 2 rfl, S8.get 0 rfl, (by rw [List.length_map, List.length_replicate]; show 1 + (C.boxes - 1).toNat ≤ sizeLine; rw [sizeLine_eq]; omega), fun p4 np4 => ?_⟩
  have S9 := S8.new np4 (.lst ((number :: List.replicate (C.boxes - 1).toNat 0).map .int))
  walk_at "go"
  intro p5 np5
  have S10 := S9.new np5 (.lst [])
  walk_at "go"
  intro p6 np6
  have S11 := S10.new np6 (.lst [.int y, .ref p4, .ref p5])
  walk_at "go"
  intro p7 np7
  have S12 := S11.new np7 (.lst [.ref p6])
  walk_at "go"
  let c : Lc := ⟨K, H, H, C, aR, aS, aB, t⟩
  have ok : c.Ok := ⟨⟨_, hR1, hR2⟩, ⟨_, hS1, hS2⟩, hB1, hb0, hb1, hsl⟩
  refine w_dpE (S12.get 8 rfl) rfl (kvs' := stL c turns sd .non p7) rfl ?_
  have S13 := S12.set 8 rfl (.dK (stL c turns sd .non p7))
  have S14 := S13.less (L' := (p7, .lst [.ref p6]) :: (p6, .lst [.int y, .ref p4, .ref p5]) :: (p5, .lst []) :: (p4, .lst ((number :: List.replicate (C.boxes - 1).toNat 0).map .int)) :: (sd, .lst []) :: (t, .dK (stL c turns sd .non p7)) :: []) (.cons₂ _ (.cons₂ _ (.cons₂ _ (.cons₂ _ (.cons _ (.cons _ (.cons _ (.refl _))))))))
  have S15 := S14.perm (L' := lL c turns sd p7 [] .non [(p6, p4, p5)] ((p6, .lst [.int y, .ref p4, .ref p5]) :: (p4, .lst ((number :: List.replicate (C.boxes - 1).toNat 0).map .int)) :: (p5, .lst []) :: frW [] [])) (by
    have e1 := List.reverse_perm [((p7, .lst [.ref p6]) : Addr × HO), (p6, .lst [.int y, .ref p4, .ref p5]), (p5, .lst []), (p4, .lst ((number :: List.replicate (C.boxes - 1).toNat 0).map .int)), (sd, .lst []), (t, .dK (stL c turns sd .non p7))]
    refine e1.symm.trans ?_
    refine .cons _ (.cons _ ?_)
    show List.Perm [_, _, _, _] [_, _, _, _]
    refine List.Perm.trans (List.reverse_perm _).symm ?_
    exact .cons _ (.cons _ (.swap _ _ _)))
  have i0 : InvL c ⟨turns, [newFr C y number], [], none⟩ _ := InvL.run (g := (p6, p4, p5)) (gs := []) (f := newFr C y number) (fs := []) S15 rfl rfl
  clear S1 S2 S3 S4 S5 S6 S7 S8 S9 S10 S11 S12 S13 S14 S15
  refine w_lpJ (by walk_at "set") (fun σ' H' => σ' = [some (.ref p), some (.int number), some (.int turns), some (.ref c.t)] ∧ InvL c s H') (fun nx' kj => ?_) (fun σ' H' hj => ?_)
  · refine w_while (fun k σ' H' => ∃ j s1, σ' = [some (.ref p), some (.int number), some (.int turns), some (.ref c.t)] ∧ InvL c s1 H' ∧ runs C k s1 = some s ∧ j + k = n ∧ Small (j + 1) s1 ∧ s1.fs.length ≤ 8 ∧ 0 ≤ s1.turns) n ⟨0, ⟨turns, [newFr C y number], [], none⟩, rfl, i0, hn, Nat.zero_add _, ⟨Nat.zero_le _, fun f hf => by
      rw [List.mem_singleton.mp hf]
      exact Nat.zero_le _⟩, (show 1 ≤ 8 by decide), ht0⟩ (fun k σ' H' hw => ?_)
    obtain ⟨j, s1, rfl, i, hk, hjk, hsm, hl8, ht1⟩ := hw
    have i' := i
    unfold InvL at i
    cases e1 : s1.out with
    | none =>
      rw [e1] at i
      obtain ⟨R, sd, st, g, gs, f, fs, ef, hl, S⟩ := i
      walk_at "go"
      cases k with
      | zero =>
        have e2 : s1 = s := Option.some.inj hk
        rw [e2, ho] at e1
        cases e1
      | succ k =>
        obtain ⟨_, u, hu, hk2⟩ := runs_succ hk
        refine w_whT ?_
        walk_at "go"
        refine ⟨c, s1, u, rfl, rfl, ok, i', e1, hsm.mono (by omega), ht1, hl8, hu, fun H3 i3 => ?_⟩
        walk_at "go"
        exact ⟨k, Nat.lt_succ_self _, j + 1, u, rfl, i3, hk2, by omega, step_small hsm hu, step_len hl8 hu, turns_ge hu ht1⟩
    | some o1 =>
      rw [e1] at i
      obtain ⟨R, t2, sd, st, po, S, hpo⟩ := i
      walk_at "go"
      refine w_whF ?_
      cases k with
      | zero =>
        have e2 : s1 = s := Option.some.inj hk
        exact kj _ _ ⟨rfl, by rw [← e2]; exact i'⟩
      | succ k =>
        obtain ⟨z, _⟩ := runs_succ hk
        rw [e1] at z
        cases z
  · obtain ⟨rfl, i⟩ := hj
    unfold InvL at i
    rw [ho] at i
    obtain ⟨R, t2, sd, st, po, S, hpo⟩ := i
    have hT2 : SqT K H' po [.str o.word, .int o.num] := SqT.of (S.sub' _ _ hpo)
    clear hT
    walk_at "go"
    intro u nu
    have S3 := S.perm (L' := (sd, .lst (s.said.map .int)) :: (c.t, .dK (stL c t2 sd (.ref po) st)) :: []) (.swap _ _ _)
    have S4 := S3.frz.newR nu (.tup [.ref sd, .str o.word, .int o.num])
    exact q _ _ _ S4.g (dp_tupN (S3.frz.nR nu) (.cons (dp_newL upd_same (.ints _)) (.cons (.str _) (.cons (.int _) .nil))))
end
end LM

namespace K14
open PySem PySem.Spec PyProof.Rows L2 U MM M LC
local macro_rules | `(tactic| walk_at "own1") => `(tactic| first
  | (with_reducible refine U.w_iE ?_)
  | walk_at "own2")
local macro_rules | `(tactic| walk_at "k") => `(tactic| ((try walk_at "if"); repeat (first | walk_at "if" | (refine it_pos (by decide) ?_; walk_at "go") | (refine it_neg (by decide) ?_; walk_at "go"))))
section
variable {P : Program} {w : World} {K : PySem.W.Frag} {mg : Str → Option Value} {base : Heap}
theorem szA_at (c : Int) : atI [V.int 2, .int 2, .int 4, .int 2, .int 1, .int 3, .int 2, .int 3, .int 5, .int 5, .int 2, .int 4, .int 4] (c % 13) = some (.int (szA c : Nat)) := by
  rcases kd13 c with h | h | h | h | h | h | h | h | h | h | h | h | h <;> (unfold szA grpA; rw [h]; rfl)
theorem op_at (c : Int) : atI [V.str "add", .str "sub", .str "less", .str "share"] (c % 4) = some (.str (opOf c).word) := by
  have h : c % 4 = 0 ∨ c % 4 = 1 ∨ c % 4 = 2 ∨ c % 4 = 3 := by omega
  rcases h with h | h | h | h <;> (unfold opOf; rw [h]; rfl)
def spSize : Sp := fun vs H Q _ => ∃ (c : Int), vs = [.int (c % 13)] ∧ ∀ H', Same H H' → Q (.int (szA c : Nat)) H'
theorem ca_size (D : Df K mg "_law_size" (top 28)) : Ca P w K mg base CX0 1 "_law_size" spSize := by
  have sc : FnScope ["_law_kind"] ["_law_kind"] (defScope (top 28)) := ⟨rfl, rfl, rfl, by decide +kernel, rfl, by decide +kernel, by decide +kernel⟩
  have nd := sc.nd
  refine D.ca0 sc (fun _ _ _ _ _ _ us hl => match us, hl with | [_], _ => rfl) (fun vs H Q E h => by obtain ⟨_, rfl, _⟩ := h; rfl) (fun f cdv A outer s H vs Q E hr h => ?_)
  obtain ⟨c, rfl, q⟩ := h
  refine ⟨_, (pss_one (ps_ret (pe_ix ix_lt (pe_lst (pa_cons pe_int (pa_cons pe_int (pa_cons pe_int (pa_cons pe_int (pa_cons pe_int (pa_cons pe_int (pa_cons pe_int (pa_cons pe_int (pa_cons pe_int (pa_cons pe_int (pa_cons pe_int (pa_cons pe_int (pa_cons pe_int pa_nil)))))))))))))) (pv 0) (fun _ _ => rfl)))), ?_⟩
  refine U.w_start (σ' := [some _]) rfl ?_
  walk_at "st"
  intro p np
  walk_at "go"
  exact w_ixLL (SqL.of upd_same) (szA_at c) (q _ (same_new np _))
def spGrp (K : PySem.W.Frag) : Sp := fun vs H Q _ => ∃ (W : List Addr) (R0 B0 R : Hp) (L : List (Addr × HO)) (c near far : Int) (B many : Nat), vs = [.int c, .int near, .int far, .int (B : Nat), .int (many : Nat)] ∧ 1 ≤ B ∧ 1 ≤ many ∧ Sta W R0 B0 R H L ∧
  ∀ R' H' p ys, Sta W R0 B0 R' H' L → Same R R' → R' p = some (.lst ys) → DpAll K R' ys ((grpA c near far B many).map fun q => q.1.enc) → Q (.ref p) H'
theorem ca_group (D : Df K mg "_law_group" (top 29)) : Ca P w K mg base CX0 1 "_law_group" (spGrp K) := by
  have sc : FnScope ["_law_cell", "_law_near", "_law_far", "_law_boxes", "_law_many", "_law_kind", "_law_k", "_law_number_here", "_law_function"] ["_law_cell", "_law_near", "_law_far", "_law_boxes", "_law_many"] (defScope (top 29)) := ⟨rfl, rfl, rfl, by decide +kernel, rfl, by decide +kernel, by decide +kernel⟩
  have nd := sc.nd
  refine D.ca0 sc (fun _ _ _ _ _ _ us hl => match us, hl with | [_, _, _, _, _], _ => rfl) (fun vs H Q E h => by obtain ⟨_, _, _, _, _, _, _, _, _, _, rfl, _⟩ := h; rfl) (fun f cdv A outer s H vs Q E hr h => ?_)
  obtain ⟨W, R0, B0, R, L, c, near, far, B, many, rfl, hB, hmany, S, q⟩ := h
  refine ⟨_, (pss_cons (ps_set (i := 5) nd rfl (by first | exact Or.inl rfl | exact Or.inr rfl) (pe_op op_mod (pv 0) pe_int))
    (pss_cons (ps_set (i := 6) nd rfl (by first | exact Or.inl rfl | exact Or.inr rfl) (pe_op op_mod (pe_op op_fdiv (pv 0) pe_int) (pv 3)))
    (pss_cons (ps_set (i := 7) nd rfl (by first | exact Or.inl rfl | exact Or.inr rfl) (pe_op op_sub (pe_op op_mod (pe_op op_fdiv (pv 0) pe_int) pe_int) pe_int))
    (pss_cons (ps_set (i := 8) nd rfl (by first | exact Or.inl rfl | exact Or.inr rfl) (pe_op op_mod (pe_op op_fdiv (pv 0) pe_int) (pv 4)))
    (pss_cons (ps_if (pt_cmpR op_eq (pv 5) pe_int (nomark _)) (pss_one (ps_ret (pe_lst (pa_cons (pe_tup (pa_cons pe_str (pa_cons (pv 7) pa_nil))) (pa_cons (pe_tup (pa_cons pe_str pa_nil)) pa_nil))))) pss_nil)
    (pss_cons (ps_if (pt_cmpR op_eq (pv 5) pe_int (nomark _)) (pss_one (ps_ret (pe_lst (pa_cons (pe_tup (pa_cons pe_str (pa_cons (pv 6) pa_nil))) (pa_cons (pe_tup (pa_cons pe_str pa_nil)) pa_nil))))) pss_nil)
    (pss_cons (ps_if (pt_cmpR op_eq (pv 5) pe_int (nomark _)) (pss_one (ps_ret (pe_lst (pa_cons (pe_tup (pa_cons pe_str (pa_cons (pv 6) pa_nil))) (pa_cons (pe_tup (pa_cons pe_str (pa_cons (pv 7) pa_nil))) (pa_cons (pe_tup (pa_cons (pe_ix ix_lt (pe_lst (pa_cons pe_str (pa_cons pe_str (pa_cons pe_str (pa_cons pe_str pa_nil))))) (pe_op op_mod (pe_op op_fdiv (pv 0) pe_int) pe_int) (fun _ _ => rfl)) pa_nil)) (pa_cons (pe_tup (pa_cons pe_str (pa_cons (pv 6) pa_nil))) pa_nil))))))) pss_nil)
    (pss_cons (ps_if (pt_cmpR op_eq (pv 5) pe_int (nomark _)) (pss_one (ps_ret (pe_lst (pa_cons (pe_tup (pa_cons pe_str (pa_cons (pv 6) pa_nil))) (pa_cons (pe_tup (pa_cons pe_str (pa_cons (pv 1) pa_nil))) pa_nil))))) pss_nil)
    (pss_cons (ps_if (pt_cmpR op_eq (pv 5) pe_int (nomark _)) (pss_one (ps_ret (pe_lst (pa_cons (pe_tup (pa_cons pe_str (pa_cons (pv 1) pa_nil))) pa_nil)))) pss_nil)
    (pss_cons (ps_if (pt_cmpR op_eq (pv 5) pe_int (nomark _)) (pss_one (ps_ret (pe_lst (pa_cons (pe_tup (pa_cons pe_str (pa_cons (pv 1) pa_nil))) (pa_cons (pe_tup (pa_cons pe_str (pa_cons (pe_op op_sub (pv 3) pe_int) pa_nil))) (pa_cons (pe_tup (pa_cons pe_str (pa_cons (pe_op op_sub (pv 3) pe_int) pa_nil))) pa_nil)))))) pss_nil)
    (pss_cons (ps_if (pt_cmpR op_eq (pv 5) pe_int (nomark _)) (pss_one (ps_ret (pe_lst (pa_cons (pe_tup (pa_cons pe_str pa_nil)) (pa_cons (pe_tup (pa_cons pe_str (pa_cons (pv 2) pa_nil))) pa_nil))))) pss_nil)
    (pss_cons (ps_if (pt_cmpR op_eq (pv 5) pe_int (nomark _)) (pss_one (ps_ret (pe_lst (pa_cons (pe_tup (pa_cons pe_str pa_nil)) (pa_cons (pe_tup (pa_cons pe_str (pa_cons (pv 6) pa_nil))) (pa_cons (pe_tup (pa_cons pe_str (pa_cons (pv 2) pa_nil))) pa_nil)))))) pss_nil)
    (pss_cons (ps_if (pt_cmpR op_eq (pv 5) pe_int (nomark _)) (pss_one (ps_ret (pe_lst (pa_cons (pe_tup (pa_cons pe_str (pa_cons (pv 7) pa_nil))) (pa_cons (pe_tup (pa_cons pe_str (pa_cons (pv 6) pa_nil))) (pa_cons (pe_tup (pa_cons pe_str pa_nil)) (pa_cons (pe_tup (pa_cons pe_str (pa_cons (pv 8) pa_nil))) (pa_cons (pe_tup (pa_cons pe_str (pa_cons (pe_op op_mod (pe_op op_add (pv 6) (pv 7)) (pv 3)) pa_nil))) pa_nil)))))))) pss_nil)
    (pss_cons (ps_if (pt_cmpR op_eq (pv 5) pe_int (nomark _)) (pss_one (ps_ret (pe_lst (pa_cons (pe_tup (pa_cons pe_str (pa_cons (pv 7) pa_nil))) (pa_cons (pe_tup (pa_cons pe_str (pa_cons (pv 6) pa_nil))) (pa_cons (pe_tup (pa_cons pe_str (pa_cons (pv 8) pa_nil))) (pa_cons (pe_tup (pa_cons pe_str pa_nil)) (pa_cons (pe_tup (pa_cons pe_str (pa_cons (pe_op op_mod (pe_op op_add (pv 6) (pv 7)) (pv 3)) pa_nil))) pa_nil)))))))) pss_nil)
    (pss_cons (ps_if (pt_cmpR op_eq (pv 5) pe_int (nomark _)) (pss_one (ps_ret (pe_lst (pa_cons (pe_tup (pa_cons pe_str (pa_cons (pv 6) pa_nil))) (pa_cons (pe_tup (pa_cons pe_str pa_nil)) pa_nil))))) pss_nil)
    (pss_cons (ps_if (pt_cmpR op_eq (pv 5) pe_int (nomark _)) (pss_one (ps_ret (pe_lst (pa_cons (pe_tup (pa_cons pe_str (pa_cons (pv 7) pa_nil))) (pa_cons (pe_tup (pa_cons pe_str (pa_cons (pv 6) pa_nil))) (pa_cons (pe_tup (pa_cons pe_str pa_nil)) (pa_cons (pe_tup (pa_cons pe_str pa_nil)) pa_nil))))))) pss_nil)
    (pss_one (ps_ret (pe_lst (pa_cons (pe_tup (pa_cons pe_str (pa_cons (pv 6) pa_nil))) (pa_cons (pe_tup (pa_cons pe_str (pa_cons (pv 7) pa_nil))) (pa_cons (pe_tup (pa_cons pe_str pa_nil)) (pa_cons (pe_tup (pa_cons pe_str (pa_cons (pv 1) pa_nil))) pa_nil))))))))))))))))))))))), ?_⟩
  refine U.w_start (σ' := [some _, some _, some _, some _, some _, none, none, none, none]) rfl ?_
  walk_at "st"
  walk_at "go"
  rcases kd13 c with e | e | e | e | e | e | e | e | e | e | e | e | e
  · rw [e]
    walk_at "k"
    have sm0 : Same R R := Same.refl R
    intro t1 n1
    have S1 := S.newR n1 (.tup [.str "put", .int (c / 78 % 9 - 3)])
    have sm1 := sm0.trans (same_new (S.nR n1) (.tup [.str "put", .int (c / 78 % 9 - 3)]))
    have A1 : DpAll K _ [V.ref t1] [(Rw.put (c / 78 % 9 - 3)).enc] := S.row0 n1 (.cons (.str _) (.cons (.int _) .nil))
    walk_at "go"
    intro t2 n2
    have S2 := S1.newR n2 (.tup [.str "say"])
    have sm2 := sm1.trans (same_new (S1.nR n2) (.tup [.str "say"]))
    have A2 : DpAll K _ [V.ref t1, V.ref t2] [(Rw.put (c / 78 % 9 - 3)).enc, Rw.say.enc] := S1.row n2 A1 (.cons (.str _) .nil)
    walk_at "go"
    intro p np
    exact q _ _ p _ (S2.newR np (.lst [V.ref t1, V.ref t2])) (sm2.trans (same_new (S2.nR np) _)) upd_same (by unfold grpA; rw [e]; exact S2.upR np _ A2)
  · rw [e]
    walk_at "k"
    have sm0 : Same R R := Same.refl R
    intro t1 n1
    have S1 := S.newR n1 (.tup [.str "get", .int (c / 13 % ((B : Nat) : Int))])
    have sm1 := sm0.trans (same_new (S.nR n1) (.tup [.str "get", .int (c / 13 % ((B : Nat) : Int))]))
    have A1 : DpAll K _ [V.ref t1] [(Rw.get (c / 13 % ((B : Nat) : Int))).enc] := S.row0 n1 (.cons (.str _) (.cons (.int _) .nil))
    walk_at "go"
    intro t2 n2
    have S2 := S1.newR n2 (.tup [.str "say"])
    have sm2 := sm1.trans (same_new (S1.nR n2) (.tup [.str "say"]))
    have A2 : DpAll K _ [V.ref t1, V.ref t2] [(Rw.get (c / 13 % ((B : Nat) : Int))).enc, Rw.say.enc] := S1.row n2 A1 (.cons (.str _) .nil)
    walk_at "go"
    intro p np
    exact q _ _ p _ (S2.newR np (.lst [V.ref t1, V.ref t2])) (sm2.trans (same_new (S2.nR np) _)) upd_same (by unfold grpA; rw [e]; exact S2.upR np _ A2)
  · rw [e]
    walk_at "k"
    have sm0 : Same R R := Same.refl R
    intro t1 n1
    have S1 := S.newR n1 (.tup [.str "get", .int (c / 13 % ((B : Nat) : Int))])
    have sm1 := sm0.trans (same_new (S.nR n1) (.tup [.str "get", .int (c / 13 % ((B : Nat) : Int))]))
    have A1 : DpAll K _ [V.ref t1] [(Rw.get (c / 13 % ((B : Nat) : Int))).enc] := S.row0 n1 (.cons (.str _) (.cons (.int _) .nil))
    walk_at "go"
    intro t2 n2
    have S2 := S1.newR n2 (.tup [.str "put", .int (c / 78 % 9 - 3)])
    have sm2 := sm1.trans (same_new (S1.nR n2) (.tup [.str "put", .int (c / 78 % 9 - 3)]))
    have A2 : DpAll K _ [V.ref t1, V.ref t2] [(Rw.get (c / 13 % ((B : Nat) : Int))).enc, (Rw.put (c / 78 % 9 - 3)).enc] := S1.row n2 A1 (.cons (.str _) (.cons (.int _) .nil))
    walk_at "go"
    intro t3 n3
    have S3 := S2.newX n3 (.lst [.str "add", .str "sub", .str "less", .str "share"])
    have sm3 := sm2
    have A3 := A2
    walk_at "go"
    refine w_ixLL (SqL.of upd_same) (op_at (c / 702)) ?_
    walk_at "go"
    intro t4 n4
    have S4 := S3.newR n4 (.tup [.str (opOf (c / 702)).word])
    have sm4 := sm3.trans (same_new (S3.nR n4) (.tup [.str (opOf (c / 702)).word]))
    have A4 : DpAll K _ [V.ref t1, V.ref t2, V.ref t4] [(Rw.get (c / 13 % ((B : Nat) : Int))).enc, (Rw.put (c / 78 % 9 - 3)).enc, (Rw.rek (opOf (c / 702))).enc] := S3.row n4 A3 (.cons (.str _) .nil)
    walk_at "go"
    intro t5 n5
    have S5 := S4.newR n5 (.tup [.str "set", .int (c / 13 % ((B : Nat) : Int))])
    have sm5 := sm4.trans (same_new (S4.nR n5) (.tup [.str "set", .int (c / 13 % ((B : Nat) : Int))]))
    have A5 : DpAll K _ [V.ref t1, V.ref t2, V.ref t4, V.ref t5] [(Rw.get (c / 13 % ((B : Nat) : Int))).enc, (Rw.put (c / 78 % 9 - 3)).enc, (Rw.rek (opOf (c / 702))).enc, (Rw.set (c / 13 % ((B : Nat) : Int))).enc] := S4.row n5 A4 (.cons (.str _) (.cons (.int _) .nil))
    walk_at "go"
    intro p np
    exact q _ _ p _ (S5.newR np (.lst [V.ref t1, V.ref t2, V.ref t4, V.ref t5])) (sm5.trans (same_new (S5.nR np) _)) upd_same (by unfold grpA; rw [e]; exact S5.upR np _ A5)
  · rw [e]
    walk_at "k"
    have sm0 : Same R R := Same.refl R
    intro t1 n1
    have S1 := S.newR n1 (.tup [.str "get", .int (c / 13 % ((B : Nat) : Int))])
    have sm1 := sm0.trans (same_new (S.nR n1) (.tup [.str "get", .int (c / 13 % ((B : Nat) : Int))]))
    have A1 : DpAll K _ [V.ref t1] [(Rw.get (c / 13 % ((B : Nat) : Int))).enc] := S.row0 n1 (.cons (.str _) (.cons (.int _) .nil))
    walk_at "go"
    intro t2 n2
    have S2 := S1.newR n2 (.tup [.str "nought", .int (near)])
    have sm2 := sm1.trans (same_new (S1.nR n2) (.tup [.str "nought", .int (near)]))
    have A2 : DpAll K _ [V.ref t1, V.ref t2] [(Rw.get (c / 13 % ((B : Nat) : Int))).enc, (Rw.nought (near)).enc] := S1.row n2 A1 (.cons (.str _) (.cons (.int _) .nil))
    walk_at "go"
    intro p np
    exact q _ _ p _ (S2.newR np (.lst [V.ref t1, V.ref t2])) (sm2.trans (same_new (S2.nR np) _)) upd_same (by unfold grpA; rw [e]; exact S2.upR np _ A2)
  · rw [e]
    walk_at "k"
    have sm0 : Same R R := Same.refl R
    intro t1 n1
    have S1 := S.newR n1 (.tup [.str "go", .int (near)])
    have sm1 := sm0.trans (same_new (S.nR n1) (.tup [.str "go", .int (near)]))
    have A1 : DpAll K _ [V.ref t1] [(Rw.go (near)).enc] := S.row0 n1 (.cons (.str _) (.cons (.int _) .nil))
    walk_at "go"
    intro p np
    exact q _ _ p _ (S1.newR np (.lst [V.ref t1])) (sm1.trans (same_new (S1.nR np) _)) upd_same (by unfold grpA; rw [e]; exact S1.upR np _ A1)
  · rw [e]
    walk_at "k"
    have sm0 : Same R R := Same.refl R
    intro t1 n1
    have S1 := S.newR n1 (.tup [.str "put", .int (near)])
    have sm1 := sm0.trans (same_new (S.nR n1) (.tup [.str "put", .int (near)]))
    have A1 : DpAll K _ [V.ref t1] [(Rw.put (near)).enc] := S.row0 n1 (.cons (.str _) (.cons (.int _) .nil))
    walk_at "go"
    intro t2 n2
    have S2 := S1.newR n2 (.tup [.str "set", .int (((B : Nat) : Int) - 1)])
    have sm2 := sm1.trans (same_new (S1.nR n2) (.tup [.str "set", .int (((B : Nat) : Int) - 1)]))
    have A2 : DpAll K _ [V.ref t1, V.ref t2] [(Rw.put (near)).enc, (Rw.set (((B : Nat) : Int) - 1)).enc] := S1.row n2 A1 (.cons (.str _) (.cons (.int _) .nil))
    walk_at "go"
    intro t3 n3
    have S3 := S2.newR n3 (.tup [.str "on", .int (((B : Nat) : Int) - 1)])
    have sm3 := sm2.trans (same_new (S2.nR n3) (.tup [.str "on", .int (((B : Nat) : Int) - 1)]))
    have A3 : DpAll K _ [V.ref t1, V.ref t2, V.ref t3] [(Rw.put (near)).enc, (Rw.set (((B : Nat) : Int) - 1)).enc, (Rw.on (((B : Nat) : Int) - 1)).enc] := S2.row n3 A2 (.cons (.str _) (.cons (.int _) .nil))
    walk_at "go"
    intro p np
    exact q _ _ p _ (S3.newR np (.lst [V.ref t1, V.ref t2, V.ref t3])) (sm3.trans (same_new (S3.nR np) _)) upd_same (by unfold grpA; rw [e]; exact S3.upR np _ A3)
  · rw [e]
    walk_at "k"
    have sm0 : Same R R := Same.refl R
    intro t1 n1
    have S1 := S.newR n1 (.tup [.str "turn"])
    have sm1 := sm0.trans (same_new (S.nR n1) (.tup [.str "turn"]))
    have A1 : DpAll K _ [V.ref t1] [Rw.turn.enc] := S.row0 n1 (.cons (.str _) .nil)
    walk_at "go"
    intro t2 n2
    have S2 := S1.newR n2 (.tup [.str "go", .int (far)])
    have sm2 := sm1.trans (same_new (S1.nR n2) (.tup [.str "go", .int (far)]))
    have A2 : DpAll K _ [V.ref t1, V.ref t2] [Rw.turn.enc, (Rw.go (far)).enc] := S1.row n2 A1 (.cons (.str _) (.cons (.int _) .nil))
    walk_at "go"
    intro p np
    exact q _ _ p _ (S2.newR np (.lst [V.ref t1, V.ref t2])) (sm2.trans (same_new (S2.nR np) _)) upd_same (by unfold grpA; rw [e]; exact S2.upR np _ A2)
  · rw [e]
    walk_at "k"
    have sm0 : Same R R := Same.refl R
    intro t1 n1
    have S1 := S.newR n1 (.tup [.str "turn"])
    have sm1 := sm0.trans (same_new (S.nR n1) (.tup [.str "turn"]))
    have A1 : DpAll K _ [V.ref t1] [Rw.turn.enc] := S.row0 n1 (.cons (.str _) .nil)
    walk_at "go"
    intro t2 n2
    have S2 := S1.newR n2 (.tup [.str "get", .int (c / 13 % ((B : Nat) : Int))])
    have sm2 := sm1.trans (same_new (S1.nR n2) (.tup [.str "get", .int (c / 13 % ((B : Nat) : Int))]))
    have A2 : DpAll K _ [V.ref t1, V.ref t2] [Rw.turn.enc, (Rw.get (c / 13 % ((B : Nat) : Int))).enc] := S1.row n2 A1 (.cons (.str _) (.cons (.int _) .nil))
    walk_at "go"
    intro t3 n3
    have S3 := S2.newR n3 (.tup [.str "nought", .int (far)])
    have sm3 := sm2.trans (same_new (S2.nR n3) (.tup [.str "nought", .int (far)]))
    have A3 : DpAll K _ [V.ref t1, V.ref t2, V.ref t3] [Rw.turn.enc, (Rw.get (c / 13 % ((B : Nat) : Int))).enc, (Rw.nought (far)).enc] := S2.row n3 A2 (.cons (.str _) (.cons (.int _) .nil))
    walk_at "go"
    intro p np
    exact q _ _ p _ (S3.newR np (.lst [V.ref t1, V.ref t2, V.ref t3])) (sm3.trans (same_new (S3.nR np) _)) upd_same (by unfold grpA; rw [e]; exact S3.upR np _ A3)
  · rw [e]
    walk_at "k"
    have sm0 : Same R R := Same.refl R
    intro t1 n1
    have S1 := S.newR n1 (.tup [.str "put", .int (c / 78 % 9 - 3)])
    have sm1 := sm0.trans (same_new (S.nR n1) (.tup [.str "put", .int (c / 78 % 9 - 3)]))
    have A1 : DpAll K _ [V.ref t1] [(Rw.put (c / 78 % 9 - 3)).enc] := S.row0 n1 (.cons (.str _) (.cons (.int _) .nil))
    walk_at "go"
    intro t2 n2
    have S2 := S1.newR n2 (.tup [.str "get", .int (c / 13 % ((B : Nat) : Int))])
    have sm2 := sm1.trans (same_new (S1.nR n2) (.tup [.str "get", .int (c / 13 % ((B : Nat) : Int))]))
    have A2 : DpAll K _ [V.ref t1, V.ref t2] [(Rw.put (c / 78 % 9 - 3)).enc, (Rw.get (c / 13 % ((B : Nat) : Int))).enc] := S1.row n2 A1 (.cons (.str _) (.cons (.int _) .nil))
    walk_at "go"
    intro t3 n3
    have S3 := S2.newR n3 (.tup [.str "add"])
    have sm3 := sm2.trans (same_new (S2.nR n3) (.tup [.str "add"]))
    have A3 : DpAll K _ [V.ref t1, V.ref t2, V.ref t3] [(Rw.put (c / 78 % 9 - 3)).enc, (Rw.get (c / 13 % ((B : Nat) : Int))).enc, (Rw.rek .add).enc] := S2.row n3 A2 (.cons (.str _) .nil)
    walk_at "go"
    intro t4 n4
    have S4 := S3.newR n4 (.tup [.str "call", .int (c / 702 % ((many : Nat) : Int))])
    have sm4 := sm3.trans (same_new (S3.nR n4) (.tup [.str "call", .int (c / 702 % ((many : Nat) : Int))]))
    have A4 : DpAll K _ [V.ref t1, V.ref t2, V.ref t3, V.ref t4] [(Rw.put (c / 78 % 9 - 3)).enc, (Rw.get (c / 13 % ((B : Nat) : Int))).enc, (Rw.rek .add).enc, (Rw.call (c / 702 % ((many : Nat) : Int))).enc] := S3.row n4 A3 (.cons (.str _) (.cons (.int _) .nil))
    walk_at "go"
    intro t5 n5
    have S5 := S4.newR n5 (.tup [.str "set", .int ((c / 13 % ((B : Nat) : Int) + (c / 78 % 9 - 3)) % ((B : Nat) : Int))])
    have sm5 := sm4.trans (same_new (S4.nR n5) (.tup [.str "set", .int ((c / 13 % ((B : Nat) : Int) + (c / 78 % 9 - 3)) % ((B : Nat) : Int))]))
    have A5 : DpAll K _ [V.ref t1, V.ref t2, V.ref t3, V.ref t4, V.ref t5] [(Rw.put (c / 78 % 9 - 3)).enc, (Rw.get (c / 13 % ((B : Nat) : Int))).enc, (Rw.rek .add).enc, (Rw.call (c / 702 % ((many : Nat) : Int))).enc, (Rw.set ((c / 13 % ((B : Nat) : Int) + (c / 78 % 9 - 3)) % ((B : Nat) : Int))).enc] := S4.row n5 A4 (.cons (.str _) (.cons (.int _) .nil))
    walk_at "go"
    intro p np
    exact q _ _ p _ (S5.newR np (.lst [V.ref t1, V.ref t2, V.ref t3, V.ref t4, V.ref t5])) (sm5.trans (same_new (S5.nR np) _)) upd_same (by unfold grpA; rw [e]; exact S5.upR np _ A5)
  · rw [e]
    walk_at "k"
    have sm0 : Same R R := Same.refl R
    intro t1 n1
    have S1 := S.newR n1 (.tup [.str "put", .int (c / 78 % 9 - 3)])
    have sm1 := sm0.trans (same_new (S.nR n1) (.tup [.str "put", .int (c / 78 % 9 - 3)]))
    have A1 : DpAll K _ [V.ref t1] [(Rw.put (c / 78 % 9 - 3)).enc] := S.row0 n1 (.cons (.str _) (.cons (.int _) .nil))
    walk_at "go"
    intro t2 n2
    have S2 := S1.newR n2 (.tup [.str "get", .int (c / 13 % ((B : Nat) : Int))])
    have sm2 := sm1.trans (same_new (S1.nR n2) (.tup [.str "get", .int (c / 13 % ((B : Nat) : Int))]))
    have A2 : DpAll K _ [V.ref t1, V.ref t2] [(Rw.put (c / 78 % 9 - 3)).enc, (Rw.get (c / 13 % ((B : Nat) : Int))).enc] := S1.row n2 A1 (.cons (.str _) (.cons (.int _) .nil))
    walk_at "go"
    intro t3 n3
    have S3 := S2.newR n3 (.tup [.str "call", .int (c / 702 % ((many : Nat) : Int))])
    have sm3 := sm2.trans (same_new (S2.nR n3) (.tup [.str "call", .int (c / 702 % ((many : Nat) : Int))]))
    have A3 : DpAll K _ [V.ref t1, V.ref t2, V.ref t3] [(Rw.put (c / 78 % 9 - 3)).enc, (Rw.get (c / 13 % ((B : Nat) : Int))).enc, (Rw.call (c / 702 % ((many : Nat) : Int))).enc] := S2.row n3 A2 (.cons (.str _) (.cons (.int _) .nil))
    walk_at "go"
    intro t4 n4
    have S4 := S3.newR n4 (.tup [.str "add"])
    have sm4 := sm3.trans (same_new (S3.nR n4) (.tup [.str "add"]))
    have A4 : DpAll K _ [V.ref t1, V.ref t2, V.ref t3, V.ref t4] [(Rw.put (c / 78 % 9 - 3)).enc, (Rw.get (c / 13 % ((B : Nat) : Int))).enc, (Rw.call (c / 702 % ((many : Nat) : Int))).enc, (Rw.rek .add).enc] := S3.row n4 A3 (.cons (.str _) .nil)
    walk_at "go"
    intro t5 n5
    have S5 := S4.newR n5 (.tup [.str "set", .int ((c / 13 % ((B : Nat) : Int) + (c / 78 % 9 - 3)) % ((B : Nat) : Int))])
    have sm5 := sm4.trans (same_new (S4.nR n5) (.tup [.str "set", .int ((c / 13 % ((B : Nat) : Int) + (c / 78 % 9 - 3)) % ((B : Nat) : Int))]))
    have A5 : DpAll K _ [V.ref t1, V.ref t2, V.ref t3, V.ref t4, V.ref t5] [(Rw.put (c / 78 % 9 - 3)).enc, (Rw.get (c / 13 % ((B : Nat) : Int))).enc, (Rw.call (c / 702 % ((many : Nat) : Int))).enc, (Rw.rek .add).enc, (Rw.set ((c / 13 % ((B : Nat) : Int) + (c / 78 % 9 - 3)) % ((B : Nat) : Int))).enc] := S4.row n5 A4 (.cons (.str _) (.cons (.int _) .nil))
    walk_at "go"
    intro p np
    exact q _ _ p _ (S5.newR np (.lst [V.ref t1, V.ref t2, V.ref t3, V.ref t4, V.ref t5])) (sm5.trans (same_new (S5.nR np) _)) upd_same (by unfold grpA; rw [e]; exact S5.upR np _ A5)
  · rw [e]
    walk_at "k"
    have sm0 : Same R R := Same.refl R
    intro t1 n1
    have S1 := S.newR n1 (.tup [.str "get", .int (c / 13 % ((B : Nat) : Int))])
    have sm1 := sm0.trans (same_new (S.nR n1) (.tup [.str "get", .int (c / 13 % ((B : Nat) : Int))]))
    have A1 : DpAll K _ [V.ref t1] [(Rw.get (c / 13 % ((B : Nat) : Int))).enc] := S.row0 n1 (.cons (.str _) (.cons (.int _) .nil))
    walk_at "go"
    intro t2 n2
    have S2 := S1.newR n2 (.tup [.str "raise"])
    have sm2 := sm1.trans (same_new (S1.nR n2) (.tup [.str "raise"]))
    have A2 : DpAll K _ [V.ref t1, V.ref t2] [(Rw.get (c / 13 % ((B : Nat) : Int))).enc, Rw.raise.enc] := S1.row n2 A1 (.cons (.str _) .nil)
    walk_at "go"
    intro p np
    exact q _ _ p _ (S2.newR np (.lst [V.ref t1, V.ref t2])) (sm2.trans (same_new (S2.nR np) _)) upd_same (by unfold grpA; rw [e]; exact S2.upR np _ A2)
  · rw [e]
    walk_at "k"
    have sm0 : Same R R := Same.refl R
    intro t1 n1
    have S1 := S.newR n1 (.tup [.str "put", .int (c / 78 % 9 - 3)])
    have sm1 := sm0.trans (same_new (S.nR n1) (.tup [.str "put", .int (c / 78 % 9 - 3)]))
    have A1 : DpAll K _ [V.ref t1] [(Rw.put (c / 78 % 9 - 3)).enc] := S.row0 n1 (.cons (.str _) (.cons (.int _) .nil))
    walk_at "go"
    intro t2 n2
    have S2 := S1.newR n2 (.tup [.str "get", .int (c / 13 % ((B : Nat) : Int))])
    have sm2 := sm1.trans (same_new (S1.nR n2) (.tup [.str "get", .int (c / 13 % ((B : Nat) : Int))]))
    have A2 : DpAll K _ [V.ref t1, V.ref t2] [(Rw.put (c / 78 % 9 - 3)).enc, (Rw.get (c / 13 % ((B : Nat) : Int))).enc] := S1.row n2 A1 (.cons (.str _) (.cons (.int _) .nil))
    walk_at "go"
    intro t3 n3
    have S3 := S2.newR n3 (.tup [.str "share"])
    have sm3 := sm2.trans (same_new (S2.nR n3) (.tup [.str "share"]))
    have A3 : DpAll K _ [V.ref t1, V.ref t2, V.ref t3] [(Rw.put (c / 78 % 9 - 3)).enc, (Rw.get (c / 13 % ((B : Nat) : Int))).enc, (Rw.rek .share).enc] := S2.row n3 A2 (.cons (.str _) .nil)
    walk_at "go"
    intro t4 n4
    have S4 := S3.newR n4 (.tup [.str "say"])
    have sm4 := sm3.trans (same_new (S3.nR n4) (.tup [.str "say"]))
    have A4 : DpAll K _ [V.ref t1, V.ref t2, V.ref t3, V.ref t4] [(Rw.put (c / 78 % 9 - 3)).enc, (Rw.get (c / 13 % ((B : Nat) : Int))).enc, (Rw.rek .share).enc, Rw.say.enc] := S3.row n4 A3 (.cons (.str _) .nil)
    walk_at "go"
    intro p np
    exact q _ _ p _ (S4.newR np (.lst [V.ref t1, V.ref t2, V.ref t3, V.ref t4])) (sm4.trans (same_new (S4.nR np) _)) upd_same (by unfold grpA; rw [e]; exact S4.upR np _ A4)
  · rw [e]
    walk_at "k"
    have sm0 : Same R R := Same.refl R
    intro t1 n1
    have S1 := S.newR n1 (.tup [.str "get", .int (c / 13 % ((B : Nat) : Int))])
    have sm1 := sm0.trans (same_new (S.nR n1) (.tup [.str "get", .int (c / 13 % ((B : Nat) : Int))]))
    have A1 : DpAll K _ [V.ref t1] [(Rw.get (c / 13 % ((B : Nat) : Int))).enc] := S.row0 n1 (.cons (.str _) (.cons (.int _) .nil))
    walk_at "go"
    intro t2 n2
    have S2 := S1.newR n2 (.tup [.str "put", .int (c / 78 % 9 - 3)])
    have sm2 := sm1.trans (same_new (S1.nR n2) (.tup [.str "put", .int (c / 78 % 9 - 3)]))
    have A2 : DpAll K _ [V.ref t1, V.ref t2] [(Rw.get (c / 13 % ((B : Nat) : Int))).enc, (Rw.put (c / 78 % 9 - 3)).enc] := S1.row n2 A1 (.cons (.str _) (.cons (.int _) .nil))
    walk_at "go"
    intro t3 n3
    have S3 := S2.newR n3 (.tup [.str "less"])
    have sm3 := sm2.trans (same_new (S2.nR n3) (.tup [.str "less"]))
    have A3 : DpAll K _ [V.ref t1, V.ref t2, V.ref t3] [(Rw.get (c / 13 % ((B : Nat) : Int))).enc, (Rw.put (c / 78 % 9 - 3)).enc, (Rw.rek .less).enc] := S2.row n3 A2 (.cons (.str _) .nil)
    walk_at "go"
    intro t4 n4
    have S4 := S3.newR n4 (.tup [.str "nought", .int (near)])
    have sm4 := sm3.trans (same_new (S3.nR n4) (.tup [.str "nought", .int (near)]))
    have A4 : DpAll K _ [V.ref t1, V.ref t2, V.ref t3, V.ref t4] [(Rw.get (c / 13 % ((B : Nat) : Int))).enc, (Rw.put (c / 78 % 9 - 3)).enc, (Rw.rek .less).enc, (Rw.nought (near)).enc] := S3.row n4 A3 (.cons (.str _) (.cons (.int _) .nil))
    walk_at "go"
    intro p np
    exact q _ _ p _ (S4.newR np (.lst [V.ref t1, V.ref t2, V.ref t3, V.ref t4])) (sm4.trans (same_new (S4.nR np) _)) upd_same (by unfold grpA; rw [e]; exact S4.upR np _ A4)
end
end K14

namespace K14
open PySem PySem.Spec PyProof.Rows L2 U MM M LC
open K04 (kO)
section
variable {P : Program} {w : World} {K : PySem.W.Frag} {mg : Str → Option Value} {base : Heap}
abbrev gdata (g : List Int) : PyData := .list (g.map .int)
def spPlaces (K : PySem.W.Frag) : Sp := fun vs H Q _ => ∃ (W : List Addr) (R0 B0 R : Hp) (L : List (Addr × HO)) (aG : Addr) (gs : List (List Int)) (lead rot : Nat), vs = [.ref aG, .int (lead : Nat), .int (rot : Nat)] ∧ Sta W R0 B0 R H L ∧ Dp K R (.ref aG) (.list (gs.map gdata)) ∧ 1 ≤ gs.length ∧ gs.length ≤ 4 ∧ (∀ g ∈ gs, g.length ≤ 24) ∧ lead ≤ 4 ∧
  ∀ (R' H' : Hp) (p : Addr) (as : List Addr) (pls : List (List Nat)), Sta W R0 B0 R' H' L → Same R R' → R' p = some (.lst (as.map .ref)) → as.length = gs.length → PlOk gs rot lead gs.length pls → (∀ (i : Nat) (a : Addr) (l : List Nat), as[i]? = some a → pls[i]? = some l → R' a = some (.lst (l.map fun z : Nat => .int (z : Nat)))) → Q (.ref p) H'
theorem frz_all {W : List Addr} {R0 B0 : Hp} {H : Hp} : ∀ (E : List (Addr × HO)) (R : Hp) (L : List (Addr × HO)), Sta W R0 B0 R H (E ++ L) → ∃ R', Sta W R0 B0 R' H L ∧ Same R R' ∧ ∀ q ∈ E, R' q.1 = some q.2
  | [], R, L, S => ⟨R, S, Same.refl _, fun _ h => by cases h⟩
  | q :: E, R, L, S => by
    have S1 : Sta W R0 B0 (upd R q.1 q.2) H (E ++ L) := Sta.frz (a := q.1) (o := q.2) S
    have s1 : Same R (upd R q.1 q.2) := same_new (S.noR 0 rfl) _
    obtain ⟨R', S2, s2, h⟩ := frz_all E _ L S1
    refine ⟨R', S2, s1.trans s2, fun x hx => ?_⟩
    rcases List.mem_cons.mp hx with rfl | hx
    · exact s2 _ _ upd_same
    · exact h x hx
theorem ca_places (B : Bi mg) (D : Df K mg "_law_places" (top 30)) (c__law_size : Ca P w K mg base CX0 1 "_law_size" spSize) : Ca P w K mg base CX0 2 "_law_places" (spPlaces K) := by
  have sc : FnScope ["_law_groups", "_law_lead", "_law_turn_here", "_law_many", "_law_places_here", "_law_k", "_law_at", "_law_place", "_law_cell"] ["_law_groups", "_law_lead", "_law_turn_here"] (defScope (top 30)) := ⟨rfl, rfl, rfl, by decide +kernel, rfl, by decide +kernel, by decide +kernel⟩
  have nd := sc.nd
  refine D.ca0 sc (fun _ _ _ _ _ _ us hl => match us, hl with | [_, _, _], _ => rfl) (fun vs H Q E h => by obtain ⟨_, _, _, _, _, _, _, _, _, rfl, _⟩ := h; rfl) (fun f cdv A outer s H vs Q E hr h => ?_)
  obtain ⟨W, R0, B0, R, L, aG, gs, lead, rot, rfl, S, hG, hm1, hm4, hg24, hlead, q⟩ := h
  refine ⟨_, (pss_cons (ps_set (i := 3) nd rfl (by first | exact Or.inl rfl | exact Or.inr rfl) (pe_callB call_lenA rfl B.len PySem.boot_len (pa_cons (pv 0) pa_nil)))
    (pss_cons (ps_setLc (i := 4) (own := [("_law_k", 5)]) rfl nd rfl rfl (sw_true rfl rfl rfl (by decide +kernel)) (pi_range1 rfl B.range (pa_cons (pv 3) pa_nil)) (blkOk_by (N := ["_law_groups", "_law_lead", "_law_turn_here", "_law_many", "_law_places_here", "_law_k", "_law_at", "_law_place", "_law_cell"]) (sc := defScope (top 30)) (by decide +kernel)) (fun _ _ _ _ _ => (pg_name (i := 5) nd rfl (by first | exact Or.inl rfl | exact Or.inr rfl))) (fun _ _ _ _ _ => pts_nil) (fun _ _ _ _ _ => (pe_lst pa_nil)))
    (pss_cons (ps_set (i := 6) nd rfl (by first | exact Or.inl rfl | exact Or.inr rfl) (pv 1))
    (pss_cons (ps_for PassesOwn.never rfl (pi_range1 rfl B.range (pa_cons (pv 3) pa_nil)) (pg_name (i := 7) nd rfl (by first | exact Or.inl rfl | exact Or.inr rfl)) (pss_cons (ps_set (i := 5) nd rfl (by first | exact Or.inl rfl | exact Or.inr rfl) (pe_op op_mod (pe_op op_add (pv 7) (pv 2)) (pv 3)))
    (pss_cons (ps_for PassesOwn.never rfl (pi_list (pe_ix ix_lt (pv 0) (pv 5) (fun _ _ => rfl))) (pg_name (i := 8) nd rfl (by first | exact Or.inl rfl | exact Or.inr rfl)) (pss_cons (ps_expr (pe_bm PySem.F.plainAttrs_list PySem.F.slot_list_append PySem.F.type_list_append mt_append (pe_ix ix_lt (pv 4) (pv 5) (fun _ _ => rfl)) (pa_cons (pv 6) pa_nil)))
    (pss_one (ps_set (i := 6) nd rfl (by first | exact Or.inl rfl | exact Or.inr rfl) (pe_op op_add (pv 6) (pe_ca c__law_size hr (by omega) rfl pass0 (pa_cons (pe_op op_mod (pv 8) pe_int) pa_nil)))))))
    (pss_cons (ps_expr (pe_bm PySem.F.plainAttrs_list PySem.F.slot_list_append PySem.F.type_list_append mt_append (pe_ix ix_lt (pv 4) (pv 5) (fun _ _ => rfl)) (pa_cons (pv 6) pa_nil)))
    (pss_one (ps_set (i := 6) nd rfl (by first | exact Or.inl rfl | exact Or.inr rfl) (pe_op op_add (pv 6) pe_int)))))))
    (pss_one (ps_ret (pv 4))))))), ?_⟩
  refine U.w_start (σ' := [some _, some _, some _, none, none, none, none, none, none]) rfl ?_
  walk_at "st"
  obtain ⟨ag, vsG, eag, hGs, hGd⟩ := dp_lst hG
  cases eag
  have hlG : vsG.length = gs.length := by rw [hGd.len, List.length_map]
  walk_at "go"
  rw [hlG]
  walk_at "go"
  refine lc_R1 (fun D i H1 => ∃ as : List Addr, as.length = i ∧ Sta W R0 B0 R H1 ((D, .lst (as.map V.ref)) :: ((as.map fun a => (a, HO.lst [])) ++ L))) (by omega) (by omega) (fun D n => ⟨[], rfl, S.new n _⟩) (fun D i H1 n hi p => ?_) (fun D H1 n p => ?_)
  · obtain ⟨as, hal, S1⟩ := p
    rw [Int.toNat_natCast] at hi
    walk_at "go"
    intro p np
    have S2 := S1.new np (.lst [])
    refine w_lcE (S2.get 1 rfl) (szlt (by rw [List.length_map]; omega)) ?_
    have S3 := S2.set 1 rfl (.lst (as.map V.ref ++ [.ref p]))
    refine ⟨as ++ [p], by rw [List.length_append, hal]; rfl, ?_⟩
    rw [List.map_append, List.map_append, List.append_assoc]
    refine S3.perm (List.Perm.trans (.swap _ _ _) (.cons _ ?_))
    exact List.perm_middle.symm
  obtain ⟨as, hal, S1⟩ := p
  rw [Int.toNat_natCast] at hal
  have S2 := S1.frz
  have sR2 := same_new (S1.noR 0 rfl) (.lst (as.map V.ref))
  have hD := L2.upd_same (H := R) (a := D) (o := .lst (as.map V.ref))
  rw [← ent_nil] at S2
  clear S1
  generalize upd R D (.lst (as.map V.ref)) = R2 at *
  have hG2 : SqL K R2 aG vsG := Same.seqL sR2 hGs
  have hGd2 := hGd.up sR2
  walk_at "go"
  refine w_lpJ (by walk_at "set") (fun σ' H' => ∃ (pls : List (List Nat)) (v5 v6 v7 v8 : Option V), σ' = [some (.ref aG), some (.int (lead : Nat)), some (.int (rot : Nat)), some (.int (gs.length : Nat)), some (.ref D), v5, v6, v7, v8] ∧ PlOk gs rot lead gs.length pls ∧ Sta W R0 B0 R2 H' (ent as pls ++ L)) (fun nx' kj => ?_) (fun σ' H' hj => ?_)
  · walk_at "go"
    refine for_R1 (fun n σ' H' => ∃ (pls : List (List Nat)) (v5 v7 v8 : Option V), σ' = [some (.ref aG), some (.int (lead : Nat)), some (.int (rot : Nat)), some (.int (gs.length : Nat)), some (.ref D), v5, some (.int (stp gs rot lead n : Nat)), v7, v8] ∧ PlOk gs rot lead n pls ∧ Sta W R0 B0 R2 H' (ent as pls ++ L)) (by omega) (by omega)
      ⟨List.replicate as.length [], none, none, none, rfl, ⟨by rw [List.length_replicate, hal], fun p hp => by
        rw [List.getElem?_replicate, if_pos (by rw [hal]; exact K04.kO_lt (by omega) _ _), if_neg (Nat.not_lt_zero p)]⟩, S2⟩ (fun n σ' H' hn p => ?_) (fun σ' H' p => ?_)
    · obtain ⟨pls, v5, v7, v8, rfl, hpl, S3⟩ := p
      rw [Int.toNat_natCast] at hn
      have hk := K04.kO_lt (show 0 < gs.length by omega) rot n
      have ek : (0 + (n : Int) + (rot : Int)) % ((gs.length : Nat) : Int) = ((kO gs.length rot n : Nat) : Int) := by
        rw [show (0 + (n : Int) + (rot : Int)) = ((n + rot : Nat) : Int) by omega]
        rfl
      have eg : gs[kO gs.length rot n]? = some (gat gs rot n) := by
        unfold gat
        rw [List.getD_eq_getElem?_getD, List.getElem?_eq_getElem hk]
        rfl
      have hcs24 := hg24 _ (List.mem_of_getElem? eg)
      have hpk := hpl.2 n hn
      rw [if_neg (Nat.lt_irrefl n)] at hpk
      have hst := stp_le (gs := gs) (rot := rot) hg24 hlead n (by omega)
      generalize hkk : kO gs.length rot n = k at *
      obtain ⟨ak, hak⟩ : ∃ a, as[k]? = some a := ⟨as[k]'(by omega), List.getElem?_eq_getElem (by omega)⟩
      obtain ⟨vg, hvg, hdg⟩ := hGd2.getD (i := k) (d := gdata (gat gs rot n)) (by rw [List.getElem?_map, eg]; rfl)
      obtain ⟨pg, vsg, rfl, hsg, hdg2⟩ := dp_lst hdg
      have evg := dpAll_ints hdg2
      subst evg
      generalize hst2 : stp gs rot lead n = st at *
      generalize hcs2 : gat gs rot n = cs at *
      have hG3 : SqL K H' aG vsG := Same.seqL S3.sub' hG2
      walk_at "go"
      rw [ek]
      refine w_lpJ (by walk_at "set") (fun σ' H' => ∃ v8, σ' = [some (.ref aG), some (.int (lead : Nat)), some (.int (rot : Nat)), some (.int (gs.length : Nat)), some (.ref D), some (.int (k : Nat)), some (.int (pAt st cs cs.length : Nat)), some (.int (0 + (n : Nat))), v8] ∧ Sta W R0 B0 R2 H' (ent as (pls.set k (row st cs cs.length)) ++ L)) (fun nx2 kj2 => ?_) (fun σ2 H2 hj2 => ?_)
      · walk_at "go"
        refine w_ixLL hG3 (v := .ref pg) (atI_nat hvg) ?_
        refine for_L (xs := cs.map .int) (fun i σ' H' => ∃ v8, σ' = [some (.ref aG), some (.int (lead : Nat)), some (.int (rot : Nat)), some (.int (gs.length : Nat)), some (.ref D), some (.int (k : Nat)), some (.int (pAt st cs i : Nat)), some (.int (0 + (n : Nat))), v8] ∧ Sta W R0 B0 R2 H' (ent as (pls.set k (row st cs i)) ++ L)) (Same.seqL S3.sub' hsg) ⟨v8, by rw [pAt_zero], by
          have e0 : pls.set k (row st cs 0) = pls := by
            refine List.ext_getElem? fun j => ?_
            rw [List.getElem?_set]
            split
            · rename_i h
              subst h
              rw [if_pos (List.getElem?_eq_some_iff.mp hpk).1, hpk]
              rfl
            · rfl
          rw [e0]
          exact S3⟩ (fun i σ' H' _ p => by
            obtain ⟨v8, _, S4⟩ := p
            exact Same.seqL S4.sub' hsg) (fun i x σ' H' hx p => ?_) (fun σ' H' p => ?_)
        · obtain ⟨v8, rfl, S4⟩ := p
          rw [List.getElem?_map] at hx
          obtain ⟨c, hc, rfl⟩ := Option.map_eq_some_iff.mp hx
          have hi := (List.getElem?_eq_some_iff.mp hc).1
          have e4 : (ent as (pls.set k (row st cs i)) ++ L)[k]? = some (ak, .lst ((row st cs i).map fun z : Nat => V.int (z : Nat))) := by
            have z := ent_at hak (show (pls.set k (row st cs i))[k]? = some (row st cs i) from List.getElem?_set_self (List.getElem?_eq_some_iff.mp hpk).1)
            rw [List.getElem?_append_left (List.getElem?_eq_some_iff.mp z).1]
            exact z
          have e5 : (ent as (pls.set k (row st cs i)) ++ L).set k (ak, .lst ((row st cs (i + 1)).map fun z : Nat => V.int (z : Nat))) = ent as (pls.set k (row st cs (i + 1))) ++ L := by
            have z := ent_at hak (show (pls.set k (row st cs i))[k]? = some (row st cs i) from List.getElem?_set_self (List.getElem?_eq_some_iff.mp hpk).1)
            rw [List.set_append_left _ _ (List.getElem?_eq_some_iff.mp z).1, ent_set (k := k) k hak, List.set_set]
          have hDD : SqL K H' D (as.map V.ref) := SqL.of (S4.sub' _ _ hD)
          walk_at "go"
          refine w_ixLL hDD (v := .ref ak) (atI_nat (by rw [List.getElem?_map, hak]; rfl)) ?_
          refine w_tyL (S4.get k e4) ?_
          walk_at "go"
          refine w_append (S4.get k e4) (szlt (by rw [List.length_map, row_len]; omega)) ?_
          have S5 := S4.set k e4 (.lst ((row st cs (i + 1)).map fun z : Nat => V.int (z : Nat)))
          rw [e5] at S5
          have er : (row st cs i).map (fun z : Nat => V.int (z : Nat)) ++ [V.int (pAt st cs i : Nat)] = (row st cs (i + 1)).map fun z : Nat => V.int (z : Nat) := by rw [row_succ, List.map_append]; rfl
          rw [er]
          walk_at "go"
          refine ⟨c, rfl, fun H3 s3 => ?_⟩
          have S6 := S5.sm s3
          walk_at "go"
          have ep : V.int ((pAt st cs i : Nat) + (szA c : Nat)) = .int (pAt st cs (i + 1) : Nat) := by rw [pAt_succ hc]; rfl
          rw [ep]
          exact ⟨_, rfl, S6⟩
        · rw [List.length_map] at p
          exact kj2 _ _ p
      obtain ⟨v8, rfl, S4⟩ := hj2
      have e4 : (ent as (pls.set k (row st cs cs.length)) ++ L)[k]? = some (ak, .lst ((row st cs cs.length).map fun z : Nat => V.int (z : Nat))) := by
        have z := ent_at hak (show (pls.set k (row st cs cs.length))[k]? = some (row st cs cs.length) from List.getElem?_set_self (List.getElem?_eq_some_iff.mp hpk).1)
        rw [List.getElem?_append_left (List.getElem?_eq_some_iff.mp z).1]
        exact z
      have e5 : (ent as (pls.set k (row st cs cs.length)) ++ L).set k (ak, .lst ((row st cs (cs.length + 1)).map fun z : Nat => V.int (z : Nat))) = ent as (pls.set k (row st cs (cs.length + 1))) ++ L := by
        have z := ent_at hak (show (pls.set k (row st cs cs.length))[k]? = some (row st cs cs.length) from List.getElem?_set_self (List.getElem?_eq_some_iff.mp hpk).1)
        rw [List.set_append_left _ _ (List.getElem?_eq_some_iff.mp z).1, ent_set (k := k) k hak, List.set_set]
      have hDD : SqL K H2 D (as.map V.ref) := SqL.of (S4.sub' _ _ hD)
      walk_at "go"
      refine w_ixLL hDD (v := .ref ak) (atI_nat (by rw [List.getElem?_map, hak]; rfl)) ?_
      refine w_tyL (S4.get k e4) ?_
      walk_at "go"
      refine w_append (S4.get k e4) (szlt (by rw [List.length_map, row_len]; omega)) ?_
      have S5 := S4.set k e4 (.lst ((row st cs (cs.length + 1)).map fun z : Nat => V.int (z : Nat)))
      rw [e5] at S5
      have er : (row st cs cs.length).map (fun z : Nat => V.int (z : Nat)) ++ [V.int (pAt st cs cs.length : Nat)] = (row st cs (cs.length + 1)).map fun z : Nat => V.int (z : Nat) := by rw [row_succ, List.map_append]; rfl
      rw [er]
      walk_at "go"
      have ep : V.int ((pAt st cs cs.length : Nat) + 2) = .int (stp gs rot lead (n + 1) : Nat) := by rw [stp_succ, hst2, hcs2]; rfl
      rw [ep]
      refine ⟨_, _, _, _, rfl, ⟨by rw [List.length_set]; exact hpl.1, fun p hp => ?_⟩, S5⟩
      · by_cases e : p = n
        · subst e
          rw [hkk, List.getElem?_set_self (List.getElem?_eq_some_iff.mp hpk).1, if_pos (Nat.lt_succ_self p), hst2, hcs2]
        · have hne : kO gs.length rot p ≠ k := by
            rw [← hkk]
            rcases Nat.lt_or_gt_of_ne e with h | h
            · exact K04.kO_ne h hn
            · exact (K04.kO_ne h hp).symm
          rw [List.getElem?_set_ne hne.symm, hpl.2 p hp]
          by_cases h : p < n
          · rw [if_pos h, if_pos (by omega)]
          · rw [if_neg h, if_neg (by omega)]
    · rw [Int.toNat_natCast] at p
      obtain ⟨pls, v5, v7, v8, rfl, h⟩ := p
      exact kj _ _ ⟨pls, _, _, _, _, rfl, h⟩
  obtain ⟨pls, v5, v6, v7, v8, rfl, hpl, S3⟩ := hj
  obtain ⟨R3, S4, s4, h4⟩ := frz_all (ent as pls) R2 L S3
  walk_at "go"
  refine q R3 _ D as pls S4 (sR2.trans s4) (s4 _ _ hD) hal hpl fun i a l h1 h2 => ?_
  exact h4 _ (List.mem_of_getElem? (ent_at h1 h2))
end
end K14

namespace K14
open PySem PySem.Spec PyProof.Rows L2 U MM M LC
open K04 (kO)
local macro_rules | `(tactic| walk_at "own1") => `(tactic| first
  | (with_reducible refine U.w_iE ?_)
  | walk_at "own2")
section
variable {P : Program} {w : World} {K : PySem.W.Frag} {mg : Str → Option Value} {base : Heap}
abbrev nV (l : List Nat) : List V := l.map fun z : Nat => V.int (z : Nat)
abbrev rxE (A : List Rx) : List PyData := A.map fun q => q.1.enc
def spCode (K : PySem.W.Frag) : Sp := fun vs H Q _ => ∃ (W : List Addr) (R0 B0 R : Hp) (L : List (Addr × HO)) (aG aP : Addr) (gs : List (List Int)) (lead rot B x : Nat) (as : List Addr) (pls : List (List Nat)), vs = [.ref aG, .ref aP, .int (lead : Nat), .int (rot : Nat), .int (B : Nat)] ∧ Sta W R0 B0 R H L ∧ Dp K R (.ref aG) (.list (gs.map gdata)) ∧ 1 ≤ gs.length ∧ gs.length ≤ 4 ∧ (∀ g ∈ gs, g.length ≤ 24) ∧
  x ≤ 2 ∧ lead = 2 * x ∧ 1 ≤ B ∧ R aP = some (.lst (as.map .ref)) ∧ as.length = gs.length ∧ PlOk gs rot lead gs.length pls ∧ (∀ (i : Nat) (a : Addr) (l : List Nat), as[i]? = some a → pls[i]? = some l → R a = some (.lst (nV l))) ∧
  ∀ (R' H' : Hp) (pt pc pe : Addr) (ys : List V) (A : List Rx), Sta W R0 B0 R' H' L → Same R R' → R' pt = some (.tup [.ref pc, .ref pe]) → R' pc = some (.lst ys) → DpAll K R' ys (rxE A) → R' pe = some (.lst (nV pls.flatten)) → CodeFin pls.flatten B gs.length A → Q (.ref pt) H'
theorem ca_code (B' : Bi mg) (D : Df K mg "_law_code" (top 31)) (c__law_group : Ca P w K mg base CX0 1 "_law_group" (spGrp K)) : Ca P w K mg base CX0 2 "_law_code" (spCode K) := by
  have B := B'
  have sc : FnScope ["_law_groups", "_law_places_here", "_law_lead", "_law_turn_here", "_law_boxes", "_law_many", "_law_every", "_law_row", "_law_code_here", "_law_place", "_law_k", "_law_at", "_law_cell", "_law_near"] ["_law_groups", "_law_places_here", "_law_lead", "_law_turn_here", "_law_boxes"] (defScope (top 31)) := ⟨rfl, rfl, rfl, by decide +kernel, rfl, by decide +kernel, by decide +kernel⟩
  have nd := sc.nd
  refine D.ca0 sc (fun _ _ _ _ _ _ us hl => match us, hl with | [_, _, _, _, _], _ => rfl) (fun vs H Q E h => by obtain ⟨_, _, _, _, _, _, _, _, _, _, _, _, _, _, rfl, _⟩ := h; rfl) (fun f cdv A outer s H vs Q E hr h => ?_)
  obtain ⟨W, R0, B0, R, L, aG, aP, gs, lead, rot, Bx, x, as, pls, rfl, S, hG, hm1, hm4, hg24, hx, hlead, hB1, hP, hal, hpl, hrows, q⟩ := h
  refine ⟨_, (pss_cons (ps_set (i := 5) nd rfl (by first | exact Or.inl rfl | exact Or.inr rfl) (pe_callB call_lenA rfl B.len PySem.boot_len (pa_cons (pv 0) pa_nil)))
    (pss_cons (ps_set (i := 6) nd rfl (by first | exact Or.inl rfl | exact Or.inr rfl) (pe_lst pa_nil))
    (pss_cons (ps_for PassesOwn.never rfl (pi_list (pv 1)) (pg_name (i := 7) nd rfl (by first | exact Or.inl rfl | exact Or.inr rfl)) (pss_one (ps_set (i := 6) nd rfl (by first | exact Or.inl rfl | exact Or.inr rfl) (pe_op op_cat (pv 6) (pv 7)))))
    (pss_cons (ps_set (i := 8) nd rfl (by first | exact Or.inl rfl | exact Or.inr rfl) (pe_slice sl_list (pe_lst (pa_cons (pe_tup (pa_cons pe_str (pa_cons pe_int pa_nil))) (pa_cons (pe_tup (pa_cons pe_str pa_nil)) (pa_cons (pe_tup (pa_cons pe_str (pa_cons pe_int pa_nil))) (pa_cons (pe_tup (pa_cons pe_str pa_nil)) pa_nil))))) po_none (po_some (pv 2))))
    (pss_cons (ps_for PassesOwn.never rfl (pi_range1 rfl B.range (pa_cons (pv 5) pa_nil)) (pg_name (i := 9) nd rfl (by first | exact Or.inl rfl | exact Or.inr rfl)) (pss_cons (ps_set (i := 10) nd rfl (by first | exact Or.inl rfl | exact Or.inr rfl) (pe_op op_mod (pe_op op_add (pv 9) (pv 3)) (pv 5)))
    (pss_cons (ps_for PassesOwn.never rfl (pi_enum (by rfl) B.enumerate (pa_cons (pe_ix ix_lt (pv 0) (pv 10) (fun _ _ => rfl)) pa_nil)) (pg_tup rfl (pgs_cons (pg_name (i := 11) nd rfl (by first | exact Or.inl rfl | exact Or.inr rfl)) (pgs_cons (pg_name (i := 12) nd rfl (by first | exact Or.inl rfl | exact Or.inr rfl)) pgs_nil))) (pss_cons (ps_set (i := 13) nd rfl (by first | exact Or.inl rfl | exact Or.inr rfl) (pe_ix ix_lt (pe_ix ix_lt (pv 1) (pv 10) (fun _ _ => rfl)) (pe_op op_add (pe_op op_add (pv 11) pe_int) (pe_op op_mod (pe_op op_fdiv (pv 12) pe_int) (pe_op op_sub (pe_callB call_lenA rfl B.len PySem.boot_len (pa_cons (pe_ix ix_lt (pv 0) (pv 10) (fun _ _ => rfl)) pa_nil)) (pv 11)))) (fun _ _ => rfl)))
    (pss_one (ps_set (i := 8) nd rfl (by first | exact Or.inl rfl | exact Or.inr rfl) (pe_op op_cat (pv 8) (pe_ca c__law_group hr (by omega) rfl pass0 (pa_cons (pv 12) (pa_cons (pv 13) (pa_cons (pe_ix ix_lt (pv 6) (pe_op op_mod (pe_op op_fdiv (pv 12) pe_int) (pe_callB call_lenA rfl B.len PySem.boot_len (pa_cons (pv 6) pa_nil))) (fun _ _ => rfl)) (pa_cons (pv 4) (pa_cons (pv 5) pa_nil)))))))))))
    (pss_one (ps_set (i := 8) nd rfl (by first | exact Or.inl rfl | exact Or.inr rfl) (pe_op op_cat (pv 8) (pe_lst (pa_cons (pe_tup (pa_cons pe_str (pa_cons (pe_op op_mod (pe_op op_add (pv 10) (pv 3)) (pv 4)) pa_nil))) (pa_cons (pe_tup (pa_cons pe_str pa_nil)) pa_nil)))))))))
    (pss_one (ps_ret (pe_tup (pa_cons (pv 8) (pa_cons (pv 6) pa_nil)))))))))), ?_⟩
  refine U.w_start (σ' := [some _, some _, some _, some _, some _, none, none, none, none, none, none, none, none, none]) rfl ?_
  walk_at "st"
  obtain ⟨ag, vsG, eag, hGs, hGd⟩ := dp_lst hG
  cases eag
  have hlG : vsG.length = gs.length := by rw [hGd.len, List.length_map]
  have hPs : SqL K R aP (as.map V.ref) := SqL.of hP
  have hevl : pls.flatten.length ≤ 200 := by
    have h1 : ∀ l ∈ pls, l.length ≤ 25 := fun l hl => by
      obtain ⟨k, hk⟩ := List.mem_iff_getElem?.mp hl
      have hk1 : k < gs.length := by rw [← hpl.1]; exact (List.getElem?_eq_some_iff.mp hk).1
      have h1 := hpl.2 (K04.inv gs.length rot k) (K04.inv_lt (by omega) _ _)
      rw [K04.kO_inv hk1, hk, if_pos (K04.inv_lt (by omega) _ _)] at h1
      cases h1
      rw [row_len]
      have : (gat gs rot (K04.inv gs.length rot k)).length ≤ 24 := by
        unfold gat
        rw [List.getD_eq_getElem?_getD]
        cases h : gs[kO gs.length rot (K04.inv gs.length rot k)]? with
        | none => exact Nat.zero_le _
        | some g => exact hg24 g (List.mem_of_getElem? h)
      omega
    have h2 : ∀ ls : List (List Nat), (∀ l ∈ ls, l.length ≤ 25) → ls.flatten.length ≤ 25 * ls.length := by
      intro ls
      induction ls with
      | nil => simp
      | cons a r ih => intro h; rw [List.flatten_cons, List.length_append, List.length_cons]; have := h a List.mem_cons_self; have := ih fun l hl => h l (List.mem_cons_of_mem _ hl); omega
    have := h2 pls h1
    rw [hpl.1] at this
    omega
  walk_at "go"
  intro p0 np0
  have S1 := S.newR np0 (.lst [])
  have s1 := same_new (S.nR np0) (.lst [])
  rw [hlG]
  walk_at "go"
  refine w_lpJ (by walk_at "set") (fun σ' H' => ∃ (R1 : Hp) (pe : Addr) (v7 : Option V), σ' = [some (.ref aG), some (.ref aP), some (.int (lead : Nat)), some (.int (rot : Nat)), some (.int (Bx : Nat)), some (.int (gs.length : Nat)), some (.ref pe), v7, none, none, none, none, none, none] ∧ Sta W R0 B0 R1 H' L ∧ Same R R1 ∧ R1 pe = some (.lst (nV pls.flatten))) (fun nx' kj => ?_) (fun σ' H' hj => ?_)
  · walk_at "go"
    refine for_L (xs := as.map V.ref) (fun i σ' H' => ∃ (R1 : Hp) (pe : Addr) (v7 : Option V), σ' = [some (.ref aG), some (.ref aP), some (.int (lead : Nat)), some (.int (rot : Nat)), some (.int (Bx : Nat)), some (.int (gs.length : Nat)), some (.ref pe), v7, none, none, none, none, none, none] ∧ Sta W R0 B0 R1 H' L ∧ Same R R1 ∧ R1 pe = some (.lst (nV (pls.take i).flatten))) (by walk_at "sq") ⟨_, p0, _, rfl, S1, s1, by rw [List.take_zero]; exact upd_same⟩ (fun i σ' H' _ p => by
      obtain ⟨R1, pe, v7, _, S2, s2, _⟩ := p
      exact Same.seqL (s2.trans S2.sub') hPs) (fun i x σ' H' hx p => ?_) (fun σ' H' p => ?_)
    · obtain ⟨R1, pe, v7, rfl, S2, s2, hpe⟩ := p
      rw [List.getElem?_map] at hx
      obtain ⟨a, ha, rfl⟩ := Option.map_eq_some_iff.mp hx
      have hi : i < pls.length := by rw [hpl.1, ← hal]; exact (List.getElem?_eq_some_iff.mp ha).1
      have hli : pls[i]? = some pls[i] := List.getElem?_eq_getElem hi
      generalize pls[i] = l at hli
      have hra := s2 _ _ (hrows i a l ha hli)
      have hfl : (pls.take i).flatten.length + l.length ≤ pls.flatten.length := by
        have e : (pls.take (i + 1)).flatten.length = (pls.take i).flatten.length + l.length := by rw [take_succ hli, List.flatten_append, List.length_append]; simp
        have e2 : pls.flatten = (pls.take (i + 1)).flatten ++ (pls.drop (i + 1)).flatten := by rw [← List.flatten_append, List.take_append_drop]
        rw [e2, List.length_append]
        omega
      walk_at "go"
      refine w_cat (S2.sub' _ _ hpe) (S2.sub' _ _ hra) (by rw [List.length_map, List.length_map]; omega) fun p1 np1 => ?_
      have S3 := S2.newR np1 (.lst (nV (pls.take i).flatten ++ nV l))
      walk_at "go"
      refine ⟨_, p1, _, rfl, S3, s2.trans (same_new (S2.nR np1) _), ?_⟩
      rw [take_succ hli, List.flatten_append]
      have e : nV ((pls.take i).flatten ++ [l].flatten) = nV (pls.take i).flatten ++ nV l := by simp [List.map_append]
      rw [e]
      exact upd_same
    · have e : pls.take gs.length = pls := by rw [← hpl.1, List.take_length]
      rw [List.length_map, hal, e] at p
      exact kj _ _ p
  obtain ⟨R1, pe, v7, rfl, S2, s2, hpe⟩ := hj
  clear S1 s1
  walk_at "go"
  intro t1 n1
  have S3 := S2.newR n1 (.tup [.str "put", .int 5])
  have A3 : DpAll K _ [V.ref t1] [(Rw.put 5).enc] := S2.row0 n1 (.cons (.str _) (.cons (.int _) .nil))
  have s3 := same_new (S2.nR n1) (.tup [.str "put", .int 5])
  walk_at "go"
  intro t2 n2
  have S4 := S3.newR n2 (.tup [.str "back"])
  have A4 : DpAll K _ [V.ref t1, V.ref t2] [(Rw.put 5).enc, Rw.back.enc] := S3.row n2 A3 (.cons (.str _) .nil)
  have s4 := s3.trans (same_new (S3.nR n2) (.tup [.str "back"]))
  walk_at "go"
  intro t3 n3
  have S5 := S4.newR n3 (.tup [.str "put", .int 6])
  have A5 : DpAll K _ [V.ref t1, V.ref t2, V.ref t3] [(Rw.put 5).enc, Rw.back.enc, (Rw.put 6).enc] := S4.row n3 A4 (.cons (.str _) (.cons (.int _) .nil))
  have s5 := s4.trans (same_new (S4.nR n3) (.tup [.str "put", .int 6]))
  walk_at "go"
  intro t4 n4
  have S6 := S5.newR n4 (.tup [.str "raise"])
  have A6 : DpAll K _ [V.ref t1, V.ref t2, V.ref t3, V.ref t4] [(Rw.put 5).enc, Rw.back.enc, (Rw.put 6).enc, Rw.raise.enc] := S5.row n4 A5 (.cons (.str _) .nil)
  have s6 := s5.trans (same_new (S5.nR n4) (.tup [.str "raise"]))
  walk_at "go"
  intro t5 n5
  have S7 := S6.newX n5 (.lst [.ref t1, .ref t2, .ref t3, .ref t4])
  walk_at "go"
  intro t6 n6
  rw [cut_hi] at *
  have S8 := S7.newR n6 (.lst ([V.ref t1, .ref t2, .ref t3, .ref t4].take lead))
  have A8 : DpAll K _ ([V.ref t1, .ref t2, .ref t3, .ref t4].take lead) (rxE (headA lead)) := S7.upR n6 (.lst ([V.ref t1, .ref t2, .ref t3, .ref t4].take lead)) (by
    have z := A6.take lead
    rw [show rxE (headA lead) = ([(Rw.put 5).enc, Rw.back.enc, (Rw.put 6).enc, Rw.raise.enc] : List PyData).take lead from by unfold headA rxE; rw [List.map_take]; rfl]
    exact z)
  have s8 := s6.trans (same_new (S7.nR n6) (.lst ([V.ref t1, .ref t2, .ref t3, .ref t4].take lead)))
  have hc8 := L2.upd_same (H := upd (upd (upd (upd R1 t1 (.tup [.str "put", .int 5])) t2 (.tup [.str "back"])) t3 (.tup [.str "put", .int 6])) t4 (.tup [.str "raise"])) (a := t6) (o := .lst ([V.ref t1, .ref t2, .ref t3, .ref t4].take lead))
  generalize upd (upd (upd (upd (upd R1 t1 (.tup [.str "put", .int 5])) t2 (.tup [.str "back"])) t3 (.tup [.str "put", .int 6])) t4 (.tup [.str "raise"])) t6 (.lst ([V.ref t1, .ref t2, .ref t3, .ref t4].take lead)) = R8 at *
  generalize [V.ref t1, .ref t2, .ref t3, .ref t4].take lead = ys8 at *
  have sR8 := s2.trans s8
  have hpe8 := s8 _ _ hpe
  clear S3 S4 S5 S6 S7 A3 A4 A5 A6 s3 s4 s5 s6
  have hG8 : SqL K R8 aG vsG := Same.seqL sR8 hGs
  have hGd8 := hGd.up sR8
  have hP8 := sR8 _ _ hP
  walk_at "go"
  refine w_lpJ (by walk_at "set") (fun σ' H' => ∃ (R1 : Hp) (pc : Addr) (ys : List V) (A : List Rx) (v7 v9 v10 v11 v12 v13 : Option V), σ' = [some (.ref aG), some (.ref aP), some (.int (lead : Nat)), some (.int (rot : Nat)), some (.int (Bx : Nat)), some (.int (gs.length : Nat)), some (.ref pe), v7, some (.ref pc), v9, v10, v11, v12, v13] ∧
    Sta W R0 B0 R1 H' L ∧ Same R8 R1 ∧ R1 pc = some (.lst ys) ∧ DpAll K R1 ys (rxE A) ∧ CI gs rot lead Bx pls.flatten gs.length A) (fun nx' kj => ?_) (fun σ' H' hj => ?_)
  · walk_at "go"
    refine for_R1 (fun n σ' H' => ∃ (R1 : Hp) (pc : Addr) (ys : List V) (A : List Rx) (v7 v9 v10 v11 v12 v13 : Option V), σ' = [some (.ref aG), some (.ref aP), some (.int (lead : Nat)), some (.int (rot : Nat)), some (.int (Bx : Nat)), some (.int (gs.length : Nat)), some (.ref pe), v7, some (.ref pc), v9, v10, v11, v12, v13] ∧
      Sta W R0 B0 R1 H' L ∧ Same R8 R1 ∧ R1 pc = some (.lst ys) ∧ DpAll K R1 ys (rxE A) ∧ CI gs rot lead Bx pls.flatten n A) (by omega) (by omega) ⟨R8, t6, ys8, headA lead, _, _, _, _, _, _, rfl, S8, Same.refl _, hc8, A8, CI.init x hx hlead⟩ (fun n σ' H' hn p => ?_) (fun σ' H' p => ?_)
    · obtain ⟨R9, pc, ys, A, v7, v9, v10, v11, v12, v13, rfl, S9, s9, hpc, hys, hci⟩ := p
      rw [Int.toNat_natCast] at hn
      have hk := K04.kO_lt (show 0 < gs.length by omega) rot n
      have ek : (0 + (n : Int) + (rot : Int)) % ((gs.length : Nat) : Int) = ((kO gs.length rot n : Nat) : Int) := by
        rw [show (0 + (n : Int) + (rot : Int)) = ((n + rot : Nat) : Int) by omega]
        rfl
      have eg : gs[kO gs.length rot n]? = some (gat gs rot n) := by
        unfold gat
        rw [List.getD_eq_getElem?_getD, List.getElem?_eq_getElem hk]
        rfl
      have hcs24 := hg24 _ (List.mem_of_getElem? eg)
      have hst := stp_le (gs := gs) (rot := rot) hg24 (show lead ≤ 4 by omega) n (by omega)
      have hpk := hpl.2 n hn
      rw [if_pos hn] at hpk
      have hkk2 := hk
      obtain ⟨ak, hak⟩ : ∃ a, as[kO gs.length rot n]? = some a := ⟨as[kO gs.length rot n]'(by omega), List.getElem?_eq_getElem (by omega)⟩
      have hrk := hrows _ _ _ hak hpk
      obtain ⟨vg, hvg, hdg⟩ := hGd8.getD (i := kO gs.length rot n) (d := gdata (gat gs rot n)) (by rw [List.getElem?_map, eg]; rfl)
      obtain ⟨pg, vsg, rfl, hsg, hdg2⟩ := dp_lst hdg
      have evg := dpAll_ints hdg2
      subst evg
      have hfl := fun i (hi : i ≤ (gat gs rot n).length) => row_flat hpl hn hi
      have hcl : ∀ {i A}, CJ gs rot lead Bx pls.flatten n i A → i ≤ (gat gs rot n).length → A.length ≤ 700 := fun {i A} h hi => by
        rw [h.len]
        have := pAt_mono (st := stp gs rot lead n) hi (Nat.le_refl _)
        have := pAt_le (stp gs rot lead n) (gat gs rot n) (gat gs rot n).length
        omega
      have hsl := row_len (stp gs rot lead n) (gat gs rot n) ((gat gs rot n).length + 1)
      have hra : ∀ j, j ≤ (gat gs rot n).length → (nV (row (stp gs rot lead n) (gat gs rot n) ((gat gs rot n).length + 1)))[j]? = some (.int (pAt (stp gs rot lead n) (gat gs rot n) j : Nat)) := fun j hj => by
        unfold nV row
        rw [List.getElem?_map, List.getElem?_map, List.getElem?_range (by omega)]
        rfl
      generalize kO gs.length rot n = k at *
      have hG9 : SqL K H' aG vsG := Same.seqL (s9.trans S9.sub') hG8
      walk_at "go"
      rw [ek]
      refine w_lpJ (by walk_at "set") (fun σ' H' => ∃ (R1 : Hp) (pc : Addr) (ys : List V) (A : List Rx) (v11 v12 v13 : Option V), σ' = [some (.ref aG), some (.ref aP), some (.int (lead : Nat)), some (.int (rot : Nat)), some (.int (Bx : Nat)), some (.int (gs.length : Nat)), some (.ref pe), v7, some (.ref pc), some (.int (0 + (n : Nat))), some (.int (k : Nat)), v11, v12, v13] ∧
        Sta W R0 B0 R1 H' L ∧ Same R8 R1 ∧ R1 pc = some (.lst ys) ∧ DpAll K R1 ys (rxE A) ∧ CJ gs rot lead Bx pls.flatten n (gat gs rot n).length A) (fun nx2 kj2 => ?_) (fun σ2 H2 hj2 => ?_)
      · walk_at "go"
        refine w_ixLL hG9 (v := .ref pg) (atI_nat hvg) ?_
        walk_at "go"
        refine for_E (xs := (gat gs rot n).map .int) (fun i σ' H' => ∃ (R1 : Hp) (pc : Addr) (ys : List V) (A : List Rx) (v11 v12 v13 : Option V), σ' = [some (.ref aG), some (.ref aP), some (.int (lead : Nat)), some (.int (rot : Nat)), some (.int (Bx : Nat)), some (.int (gs.length : Nat)), some (.ref pe), v7, some (.ref pc), some (.int (0 + (n : Nat))), some (.int (k : Nat)), v11, v12, v13] ∧
          Sta W R0 B0 R1 H' L ∧ Same R8 R1 ∧ R1 pc = some (.lst ys) ∧ DpAll K R1 ys (rxE A) ∧ CJ gs rot lead Bx pls.flatten n i A) (Same.seqL (s9.trans S9.sub') hsg) ⟨R9, pc, ys, A, _, _, _, rfl, S9, s9, hpc, hys, hci.start⟩ (fun i σ' H' _ p => by
            obtain ⟨R1, pc, ys, A, v11, v12, v13, _, S1, s1, _⟩ := p
            exact Same.seqL (s1.trans S1.sub') hsg) (fun i x σ' H' T hx p nT => ?_) (fun σ' H' p => ?_)
        · obtain ⟨R10, pc, ys, A, v11, v12, v13, rfl, S10, s10, hpc, hys, hcj⟩ := p
          rw [List.getElem?_map] at hx
          obtain ⟨c, hc, rfl⟩ := Option.map_eq_some_iff.mp hx
          have hi := (List.getElem?_eq_some_iff.mp hc).1
          have S11 := S10.newX nT (.tup [.int (i : Nat), .int c])
          have hG11 : SqL K _ aG vsG := Same.seqL (s10.trans S11.sub') hG8
          have hP11 : SqL K _ aP (as.map V.ref) := SqL.of ((s10.trans S11.sub') _ _ hP8)
          have hg11 : SqL K _ pg ((gat gs rot n).map V.int) := Same.seqL (s10.trans S11.sub') hsg
          have hr11 : SqL K _ ak (nV (row (stp gs rot lead n) (gat gs rot n) ((gat gs rot n).length + 1))) := SqL.of ((sR8.trans (s10.trans S11.sub')) _ _ hrk)
          have he11 : SqL K _ pe (nV pls.flatten) := SqL.of ((s10.trans S11.sub') _ _ hpe8)
          have hlcs : ((gat gs rot n).map V.int).length = (gat gs rot n).length := List.length_map _
          have hlev : (nV pls.flatten).length = pls.flatten.length := List.length_map _
          have hev1 : 1 ≤ pls.flatten.length := by
            cases h : pls.flatten with
            | nil => have := hfl 0 (Nat.zero_le _); rw [h] at this; cases this
            | cons a l => simp
          walk_at "go"
          refine w_ixLL hP11 (v := .ref ak) (atI_nat (by rw [List.getElem?_map, hak]; rfl)) ?_
          walk_at "go"
          refine w_ixLL hG11 (v := .ref pg) (atI_nat hvg) ?_
          walk_at "go"
          obtain ⟨j, hj1, hj2, hj3⟩ : ∃ j : Nat, i < j ∧ j ≤ (gat gs rot n).length ∧ ((i : Nat) : Int) + 1 + c / 5000 % (((((gat gs rot n).map V.int).length : Nat) : Int) - ((i : Nat) : Int)) = (j : Int) := by
            rw [hlcs]
            have b1 := Int.emod_nonneg (c / 5000) (b := ((gat gs rot n).length : Int) - i) (by omega)
            have b2 := Int.emod_lt_of_pos (c / 5000) (b := ((gat gs rot n).length : Int) - i) (by omega)
            exact ⟨(i + 1 + (c / 5000 % (((gat gs rot n).length : Int) - i)).toNat), by omega, by omega, by omega⟩
          rw [hj3]
          refine w_ixLL hr11 (v := .int (pAt (stp gs rot lead n) (gat gs rot n) j : Nat)) (atI_nat (hra j hj2)) ?_
          walk_at "go"
          obtain ⟨z, hz1, hz2⟩ : ∃ z, z ∈ pls.flatten ∧ atI (nV pls.flatten) (c / 3000 % (((nV pls.flatten).length : Nat) : Int)) = some (.int (z : Nat)) := by
            rw [hlev]
            have b1 := Int.emod_nonneg (c / 3000) (b := (pls.flatten.length : Int)) (by omega)
            have b2 := Int.emod_lt_of_pos (c / 3000) (b := (pls.flatten.length : Int)) (by omega)
            obtain ⟨m, hm⟩ : ∃ m : Nat, c / 3000 % (pls.flatten.length : Int) = (m : Int) := ⟨(c / 3000 % (pls.flatten.length : Int)).toNat, by omega⟩
            rw [hm] at b2 ⊢
            refine ⟨pls.flatten[m]'(by omega), List.getElem_mem _, atI_nat ?_⟩
            rw [List.getElem?_map, List.getElem?_eq_getElem (by omega)]
            rfl
          refine w_ixLL he11 hz2 ?_
          walk_at "go"
          refine ⟨W, R0, B0, R10, L, c, _, _, Bx, gs.length, rfl, hB1, hm1, S11, fun R12 H12 p12 ys12 S12 s12 h12 a12 => ?_⟩
          have hcj2 := hcj.grp hB1 hm1 hc hj1 hj2 (hfl j hj2) hz1
          have l1 : ys.length ≤ 700 := by rw [hys.len, List.length_map]; exact hcl hcj (by omega)
          have l2 : ys12.length ≤ 5 := by rw [a12.len, List.length_map, grpA_len]; exact szA_le c
          walk_at "go"
          refine w_cat (S12.sub' _ _ (s12 _ _ hpc)) (S12.sub' _ _ h12) (by omega) fun p13 np13 => ?_
          have S13 := S12.newR np13 (.lst (ys ++ ys12))
          walk_at "go"
          refine ⟨_, p13, _, _, _, _, _, rfl, S13, s10.trans (s12.trans (same_new (S12.nR np13) _)), upd_same, ?_, hcj2⟩
          unfold rxE
          rw [List.map_append]
          exact S12.upR np13 _ ((hys.up s12).app a12)
        · rw [List.length_map] at p
          exact kj2 _ _ p
      obtain ⟨R10, pc, ys, A, v11, v12, v13, rfl, S10, s10, hpc, hys, hcj⟩ := hj2
      have l1 : ys.length ≤ 700 := by rw [hys.len, List.length_map]; exact hcl hcj (Nat.le_refl _)
      walk_at "go"
      intro u1 nu1
      have b1 := Int.emod_nonneg (((k : Nat) : Int) + (rot : Int)) (b := ((Bx : Nat) : Int)) (by omega)
      have b2 := Int.emod_lt_of_pos (((k : Nat) : Int) + (rot : Int)) (b := ((Bx : Nat) : Int)) (by omega)
      have S11 := S10.newR nu1 (.tup [.str "get", .int ((((k : Nat) : Int) + (rot : Int)) % ((Bx : Nat) : Int))])
      have A11 : DpAll K _ [V.ref u1] [(Rw.get ((((k : Nat) : Int) + (rot : Int)) % ((Bx : Nat) : Int))).enc] := S10.row0 nu1 (.cons (.str _) (.cons (.int _) .nil))
      have s11 := same_new (S10.nR nu1) (.tup [.str "get", .int ((((k : Nat) : Int) + (rot : Int)) % ((Bx : Nat) : Int))])
      walk_at "go"
      intro u2 nu2
      have S12 := S11.newR nu2 (.tup [.str "back"])
      have A12 : DpAll K _ [V.ref u1, V.ref u2] [(Rw.get ((((k : Nat) : Int) + (rot : Int)) % ((Bx : Nat) : Int))).enc, Rw.back.enc] := S11.row nu2 A11 (.cons (.str _) .nil)
      have s12 := s11.trans (same_new (S11.nR nu2) (.tup [.str "back"]))
      walk_at "go"
      intro u3 nu3
      have S13 := S12.newR nu3 (.lst [.ref u1, .ref u2])
      have A13 := S12.upR nu3 (.lst [.ref u1, .ref u2]) A12
      have s13 := s12.trans (same_new (S12.nR nu3) (.lst [.ref u1, .ref u2]))
      walk_at "go"
      refine w_cat (S13.sub' _ _ (s13 _ _ hpc)) (S13.sub' _ _ upd_same) (by show ys.length + 2 ≤ _; omega) fun u4 nu4 => ?_
      have S14 := S13.newR nu4 (.lst (ys ++ [.ref u1, .ref u2]))
      walk_at "go"
      refine ⟨_, u4, _, _, _, _, _, _, _, _, rfl, S14, s10.trans (s13.trans (same_new (S13.nR nu4) _)), upd_same, ?_, hcj.end_ b1 b2⟩
      unfold rxE
      rw [List.map_append]
      exact S13.upR nu4 _ ((hys.up s13).app A13)
    · rw [Int.toNat_natCast] at p
      exact kj _ _ p
  obtain ⟨R9, pc, ys, A, v7, v9, v10, v11, v12, v13, rfl, S9, s9, hpc, hys, hci⟩ := hj
  walk_at "go"
  intro u nu
  have S10 := S9.newR nu (.tup [.ref pc, .ref pe])
  have s10 := same_new (S9.nR nu) (.tup [.ref pc, .ref pe])
  exact q _ _ u pc pe ys A S10 (sR8.trans (s9.trans s10)) upd_same (s10 _ _ hpc) (hys.up s10) ((s9.trans s10) _ _ hpe8) (hci.fin hpl hg24 (by omega) hm1 hm4)
end
end K14

namespace K14
open PySem PySem.Spec PyProof.Rows L2 U MM M LC
local macro_rules | `(tactic| walk_at "own1") => `(tactic| first
  | (with_reducible refine U.w_iE ?_)
  | walk_at "own2")
section
variable {P : Program} {w : World} {K : PySem.W.Frag} {mg : Str → Option Value} {base : Heap}
def spGoals (K : PySem.W.Frag) : Sp := fun vs H Q _ => ∃ (W : List Addr) (R0 B0 R : Hp) (L : List (Addr × HO)) (aC aE : Addr) (cells : List Int) (total B many : Nat) (ev : List Nat), vs = [.ref aC, .int (total : Nat), .ref aE, .int (B : Nat)] ∧ Sta W R0 B0 R H L ∧ SqL K R aC (cells.map .int) ∧ SqL K R aE (nV ev) ∧ cells.length ≤ 10 ∧ 1 ≤ B ∧ 1 ≤ ev.length ∧
  ∀ (R' H' : Hp) (pt pr pf : Addr) (ys : List V) (GA : List Rx) (fs : List Nat), Sta W R0 B0 R' H' L → Same R R' → R' pt = some (.tup [.ref pr, .ref pf]) → R' pr = some (.lst ys) → DpAll K R' ys (rxE GA) → R' pf = some (.lst (nV fs)) → GOk ev B many total GA fs → fs.length = cells.length → Q (.ref pt) H'
theorem ca_goals (B' : Bi mg) (D : Df K mg "_law_goals" (top 32)) : Ca P w K mg base CX0 1 "_law_goals" (spGoals K) := by
  have B := B'
  have sc : FnScope ["_law_cells", "_law_total", "_law_every", "_law_boxes", "_law_rows", "_law_found", "_law_cell"] ["_law_cells", "_law_total", "_law_every", "_law_boxes"] (defScope (top 32)) := ⟨rfl, rfl, rfl, by decide +kernel, rfl, by decide +kernel, by decide +kernel⟩
  have nd := sc.nd
  refine D.ca0 sc (fun _ _ _ _ _ _ us hl => match us, hl with | [_, _, _, _], _ => rfl) (fun vs H Q E h => by obtain ⟨_, _, _, _, _, _, _, _, _, _, _, _, rfl, _⟩ := h; rfl) (fun f cdv A outer s H vs Q E hr h => ?_)
  obtain ⟨W, R0, B0, R, L, aC, aE, cells, total, Bx, many, ev, rfl, S, hC, hE, hc10, hB1, hev, q⟩ := h
  refine ⟨_, (pss_cons (ps_set (i := 4) nd rfl (by first | exact Or.inl rfl | exact Or.inr rfl) (pe_lst pa_nil))
    (pss_cons (ps_set (i := 5) nd rfl (by first | exact Or.inl rfl | exact Or.inr rfl) (pe_lst pa_nil))
    (pss_cons (ps_for PassesOwn.never rfl (pi_list (pv 0)) (pg_name (i := 6) nd rfl (by first | exact Or.inl rfl | exact Or.inr rfl)) (pss_cons (ps_expr (pe_bm PySem.F.plainAttrs_list PySem.F.slot_list_append PySem.F.type_list_append mt_append (pv 5) (pa_cons (pe_op op_add (pv 1) (pe_callB call_lenA rfl B.len PySem.boot_len (pa_cons (pv 4) pa_nil))) pa_nil)))
    (pss_one (ps_if (pt_cmpR op_eq (pe_op op_mod (pv 6) pe_int) pe_int (nomark _)) (pss_one (ps_set (i := 4) nd rfl (by first | exact Or.inl rfl | exact Or.inr rfl) (pe_op op_cat (pv 4) (pe_lst (pa_cons (pe_tup (pa_cons pe_str pa_nil)) (pa_cons (pe_tup (pa_cons pe_str (pa_cons (pe_op op_add pe_int (pe_op op_mod (pe_op op_fdiv (pv 6) pe_int) pe_int)) pa_nil))) (pa_cons (pe_tup (pa_cons pe_str pa_nil)) pa_nil))))))) (pss_one (ps_if (pt_cmpR op_eq (pe_op op_mod (pv 6) pe_int) pe_int (nomark _)) (pss_one (ps_set (i := 4) nd rfl (by first | exact Or.inl rfl | exact Or.inr rfl) (pe_op op_cat (pv 4) (pe_lst (pa_cons (pe_tup (pa_cons pe_str (pa_cons (pe_op op_mod (pe_op op_fdiv (pv 6) pe_int) (pv 3)) pa_nil))) (pa_cons (pe_tup (pa_cons pe_str pa_nil)) (pa_cons (pe_tup (pa_cons pe_str (pa_cons (pe_ix ix_lt (pv 2) (pe_op op_mod (pe_op op_fdiv (pv 6) pe_int) (pe_callB call_lenA rfl B.len PySem.boot_len (pa_cons (pv 2) pa_nil))) (fun _ _ => rfl)) pa_nil))) pa_nil))))))) (pss_one (ps_set (i := 4) nd rfl (by first | exact Or.inl rfl | exact Or.inr rfl) (pe_op op_cat (pv 4) (pe_lst (pa_cons (pe_tup (pa_cons pe_str pa_nil)) pa_nil)))))))))))
    (pss_one (ps_ret (pe_tup (pa_cons (pv 4) (pa_cons (pv 5) pa_nil)))))))), ?_⟩
  refine U.w_start (σ' := [some _, some _, some _, some _, none, none, none]) rfl ?_
  walk_at "st"
  intro p1 np1
  have S1 := S.newR np1 (.lst [])
  walk_at "go"
  intro p2 np2
  have S2 := S1.new np2 (.lst (nV []))
  have s2 := same_new (S.nR np1) (.lst [])
  walk_at "go"
  have hlev : (nV ev).length = ev.length := List.length_map _
  refine w_lpJ (by walk_at "set") (fun σ' H' => ∃ (R1 : Hp) (pr : Addr) (ys : List V) (GA : List Rx) (fs : List Nat) (v6 : Option V), σ' = [some (.ref aC), some (.int (total : Nat)), some (.ref aE), some (.int (Bx : Nat)), some (.ref pr), some (.ref p2), v6] ∧ Sta W R0 B0 R1 H' ((p2, .lst (nV fs)) :: L) ∧ Same R R1 ∧ R1 pr = some (.lst ys) ∧ DpAll K R1 ys (rxE GA) ∧ GOk ev Bx many total GA fs ∧ fs.length = cells.length) (fun nx' kj => ?_) (fun σ' H' hj => ?_)
  · walk_at "go"
    refine for_L (xs := cells.map .int) (fun i σ' H' => ∃ (R1 : Hp) (pr : Addr) (ys : List V) (GA : List Rx) (fs : List Nat) (v6 : Option V), σ' = [some (.ref aC), some (.int (total : Nat)), some (.ref aE), some (.int (Bx : Nat)), some (.ref pr), some (.ref p2), v6] ∧ Sta W R0 B0 R1 H' ((p2, .lst (nV fs)) :: L) ∧ Same R R1 ∧ R1 pr = some (.lst ys) ∧ DpAll K R1 ys (rxE GA) ∧ GOk ev Bx many total GA fs ∧ fs.length = i) (Same.seqL (s2.trans S2.sub') hC) ⟨_, p1, [], [], [], none, rfl, S2, s2, upd_same, .nil, GOk.nil, rfl⟩ (fun i σ' H' _ p => by
      obtain ⟨R1, pr, ys, GA, fs, v6, _, S1, s1, _⟩ := p
      exact Same.seqL (s1.trans S1.sub') hC) (fun i x σ' H' hx p => ?_) (fun σ' H' p => ?_)
    · obtain ⟨R1, pr, ys, GA, fs, v6, rfl, S3, s3, hpr, hys, hG, hfl⟩ := p
      rw [List.getElem?_map] at hx
      obtain ⟨c, hc, rfl⟩ := Option.map_eq_some_iff.mp hx
      have hi := (List.getElem?_eq_some_iff.mp hc).1
      have hyl : ys.length = GA.length := by rw [hys.len, List.length_map]
      have hgl := hG.len
      have hpr' : SqL K H' pr ys := SqL.of (S3.sub' _ _ hpr)
      walk_at "go"
      refine w_append (S3.get 0 rfl) (szlt (by rw [List.length_map]; omega)) ?_
      have S4 := S3.set 0 rfl (.lst (nV (fs ++ [total + GA.length])))
      have e4 : nV fs ++ [V.int ((total : Nat) + (ys.length : Nat))] = nV (fs ++ [total + GA.length]) := by
        unfold nV
        rw [List.map_append, hyl]
        rfl
      rw [e4]
      generalize upd H' p2 (.lst (nV (fs ++ [total + GA.length]))) = H4 at *
      have hE4 : SqL K H4 aE (nV ev) := Same.seqL (s3.trans S4.sub') hE
      walk_at "go"
      have e3 : c % 3 = 0 ∨ c % 3 = 1 ∨ c % 3 = 2 := by omega
      have fin : ∀ (z : Nat) (R5 H5 : Hp) (pr' : Addr) (ys' : List V), z ∈ ev → Sta W R0 B0 R5 H5 ((p2, .lst (nV (fs ++ [total + GA.length]))) :: L) → Same R1 R5 → R5 pr' = some (.lst (ys ++ ys')) → DpAll K R5 ys' (rxE (goalA c Bx (z : Nat))) →
          ∃ (R1 : Hp) (pr : Addr) (ys : List V) (GA : List Rx) (fs : List Nat) (v6 : Option V), [some (V.ref aC), some (.int (total : Nat)), some (.ref aE), some (.int (Bx : Nat)), some (.ref pr'), some (.ref p2), some (.int c)] = [some (V.ref aC), some (.int (total : Nat)), some (.ref aE), some (.int (Bx : Nat)), some (.ref pr), some (.ref p2), v6] ∧ Sta W R0 B0 R1 H5 ((p2, .lst (nV fs)) :: L) ∧ Same R R1 ∧ R1 pr = some (.lst ys) ∧ DpAll K R1 ys (rxE GA) ∧ GOk ev Bx many total GA fs ∧ fs.length = i + 1 := by
        intro z R5 H5 pr' ys' hz S5 s5 hp5 a5
        refine ⟨R5, pr', ys ++ ys', GA ++ goalA c Bx (z : Nat), _, _, rfl, S5, s3.trans s5, hp5, ?_, hG.more hB1 hz, by rw [List.length_append, hfl]; rfl⟩
        unfold rxE
        rw [List.map_append]
        exact (hys.up s5).app a5
      obtain ⟨z0, hz0⟩ : ∃ z, z ∈ ev := by
        cases ev with
        | nil => simp at hev
        | cons a l => exact ⟨a, List.mem_cons_self⟩
      rcases e3 with e | e | e
      · rw [e]
        refine it_pos (by omega) ?_
        walk_at "go"
        intro t1 n1
        have T1 := S4.newR n1 (.tup [.str "say"])
        have A1 : DpAll K _ [V.ref t1] [Rw.say.enc] := S4.row0 n1 (.cons (.str _) .nil)
        have s1 := same_new (S4.nR n1) (.tup [.str "say"])
        walk_at "go"
        intro t2 n2
        have T2 := T1.newR n2 (.tup [.str "put", .int (50 + c / 3 % 9)])
        have A2 : DpAll K _ [V.ref t1, V.ref t2] [Rw.say.enc, (Rw.put (50 + c / 3 % 9)).enc] := T1.row n2 A1 (.cons (.str _) (.cons (.int _) .nil))
        have s2 := s1.trans (same_new (T1.nR n2) (.tup [.str "put", .int (50 + c / 3 % 9)]))
        walk_at "go"
        intro t3 n3
        have T3 := T2.newR n3 (.tup [.str "back"])
        have A3 : DpAll K _ [V.ref t1, V.ref t2, V.ref t3] [Rw.say.enc, (Rw.put (50 + c / 3 % 9)).enc, Rw.back.enc] := T2.row n3 A2 (.cons (.str _) .nil)
        have s3' := s2.trans (same_new (T2.nR n3) (.tup [.str "back"]))
        walk_at "go"
        intro t4 n4
        have T4 := T3.newR n4 (.lst [.ref t1, .ref t2, .ref t3])
        have A4 := T3.upR n4 (.lst [.ref t1, .ref t2, .ref t3]) A3
        have s4 := s3'.trans (same_new (T3.nR n4) (.lst [.ref t1, .ref t2, .ref t3]))
        walk_at "go"
        refine w_cat (T4.sub' _ _ (s4 _ _ hpr)) (T4.sub' _ _ upd_same) (by show ys.length + 3 ≤ _; omega) fun t5 n5 => ?_
        have T5 := T4.newR n5 (.lst (ys ++ [.ref t1, .ref t2, .ref t3]))
        walk_at "go"
        refine fin z0 _ _ t5 _ hz0 T5 (s4.trans (same_new (T4.nR n5) _)) upd_same ?_
        have eg : rxE (goalA c Bx (z0 : Nat)) = [Rw.say.enc, (Rw.put (50 + c / 3 % 9)).enc, Rw.back.enc] := by unfold goalA; rw [e]; rfl
        rw [eg]
        exact T4.upR n5 _ A4
      · rw [e]
        refine it_neg (by omega) ?_
        walk_at "go"
        refine it_pos (by omega) ?_
        walk_at "go"
        intro t1 n1
        have T1 := S4.newR n1 (.tup [.str "set", .int (c / 3 % ((Bx : Nat) : Int))])
        have A1 : DpAll K _ [V.ref t1] [(Rw.set (c / 3 % ((Bx : Nat) : Int))).enc] := S4.row0 n1 (.cons (.str _) (.cons (.int _) .nil))
        have s1 := same_new (S4.nR n1) (.tup [.str "set", .int (c / 3 % ((Bx : Nat) : Int))])
        walk_at "go"
        intro t2 n2
        have T2 := T1.newR n2 (.tup [.str "turn"])
        have A2 : DpAll K _ [V.ref t1, V.ref t2] [(Rw.set (c / 3 % ((Bx : Nat) : Int))).enc, Rw.turn.enc] := T1.row n2 A1 (.cons (.str _) .nil)
        have s2 := s1.trans (same_new (T1.nR n2) (.tup [.str "turn"]))
        obtain ⟨z, hz1, hz2⟩ : ∃ z, z ∈ ev ∧ atI (nV ev) (c / 18 % (((nV ev).length : Nat) : Int)) = some (.int (z : Nat)) := by
          rw [hlev]
          have b1 := Int.emod_nonneg (c / 18) (b := (ev.length : Int)) (by omega)
          have b2 := Int.emod_lt_of_pos (c / 18) (b := (ev.length : Int)) (by omega)
          obtain ⟨m, hm⟩ : ∃ m : Nat, c / 18 % (ev.length : Int) = (m : Int) := ⟨(c / 18 % (ev.length : Int)).toNat, by omega⟩
          rw [hm] at b2 ⊢
          refine ⟨ev[m]'(by omega), List.getElem_mem _, atI_nat ?_⟩
          rw [List.getElem?_map, List.getElem?_eq_getElem (by omega)]
          rfl
        have hE6 : SqL K _ aE (nV ev) := Same.seqL ((s3.trans s2).trans T2.sub') hE
        walk_at "go"
        refine w_ixLL hE6 hz2 ?_
        walk_at "go"
        intro t3 n3
        have T3 := T2.newR n3 (.tup [.str "go", .int (z : Nat)])
        have A3 : DpAll K _ [V.ref t1, V.ref t2, V.ref t3] [(Rw.set (c / 3 % ((Bx : Nat) : Int))).enc, Rw.turn.enc, (Rw.go (z : Nat)).enc] := T2.row n3 A2 (.cons (.str _) (.cons (.int _) .nil))
        have s3' := s2.trans (same_new (T2.nR n3) (.tup [.str "go", .int (z : Nat)]))
        walk_at "go"
        intro t4 n4
        have T4 := T3.newR n4 (.lst [.ref t1, .ref t2, .ref t3])
        have A4 := T3.upR n4 (.lst [.ref t1, .ref t2, .ref t3]) A3
        have s4 := s3'.trans (same_new (T3.nR n4) (.lst [.ref t1, .ref t2, .ref t3]))
        walk_at "go"
        refine w_cat (T4.sub' _ _ (s4 _ _ hpr)) (T4.sub' _ _ upd_same) (by show ys.length + 3 ≤ _; omega) fun t5 n5 => ?_
        have T5 := T4.newR n5 (.lst (ys ++ [.ref t1, .ref t2, .ref t3]))
        walk_at "go"
        refine fin z _ _ t5 _ hz1 T5 (s4.trans (same_new (T4.nR n5) _)) upd_same ?_
        have eg : rxE (goalA c Bx (z : Nat)) = [(Rw.set (c / 3 % ((Bx : Nat) : Int))).enc, Rw.turn.enc, (Rw.go (z : Nat)).enc] := by unfold goalA; rw [e]; rfl
        rw [eg]
        exact T4.upR n5 _ A4
      · rw [e]
        refine it_neg (by omega) ?_
        walk_at "go"
        refine it_neg (by omega) ?_
        walk_at "go"
        intro t1 n1
        have T1 := S4.newR n1 (.tup [.str "raise"])
        have A1 : DpAll K _ [V.ref t1] [Rw.raise.enc] := S4.row0 n1 (.cons (.str _) .nil)
        have s1 := same_new (S4.nR n1) (.tup [.str "raise"])
        walk_at "go"
        intro t4 n4
        have T4 := T1.newR n4 (.lst [.ref t1])
        have A4 := T1.upR n4 (.lst [.ref t1]) A1
        have s4 := s1.trans (same_new (T1.nR n4) (.lst [.ref t1]))
        walk_at "go"
        refine w_cat (T4.sub' _ _ (s4 _ _ hpr)) (T4.sub' _ _ upd_same) (by show ys.length + 1 ≤ _; omega) fun t5 n5 => ?_
        have T5 := T4.newR n5 (.lst (ys ++ [.ref t1]))
        walk_at "go"
        refine fin z0 _ _ t5 _ hz0 T5 (s4.trans (same_new (T4.nR n5) _)) upd_same ?_
        have eg : rxE (goalA c Bx (z0 : Nat)) = [Rw.raise.enc] := by unfold goalA; rw [e]; rfl
        rw [eg]
        exact T4.upR n5 _ A4
    · rw [List.length_map] at p
      exact kj _ _ p
  obtain ⟨R1, pr, ys, GA, fs, v6, rfl, S3, s3, hpr, hys, hG, hfl⟩ := hj
  walk_at "go"
  intro u nu
  have S4 := S3.frz.newR nu (.tup [.ref pr, .ref p2])
  have s4 := same_new (S3.noR 0 rfl) (.lst (nV fs))
  have s5 := same_new (S3.frz.nR nu) (.tup [.ref pr, .ref p2])
  exact q _ _ u pr p2 ys GA fs S4 (s3.trans (s4.trans s5)) upd_same ((s4.trans s5) _ _ hpr) ((hys.up s4).up s5) (s5 _ _ upd_same) hG hfl
end
end K14

namespace K14
open PySem PySem.Spec PyProof.Rows L2 U MM M LC
local macro_rules | `(tactic| walk_at "own1") => `(tactic| first
  | (with_reducible refine U.w_iE ?_)
  | walk_at "own2")
section
variable {P : Program} {w : World} {K : PySem.W.Frag} {mg : Str → Option Value} {base : Heap}
theorem nV_eq (l : List Nat) : nV l = (l.map fun z : Nat => ((z : Nat) : Int)).map V.int := by
  unfold nV
  rw [List.map_map]
  rfl
theorem dp_nV {K : PySem.W.Frag} {H : Hp} (l : List Nat) : DpAll K H (nV l) ((l.map fun z : Nat => ((z : Nat) : Int)).map PyData.int) := by
  rw [nV_eq]
  exact .ints _
def spStr (K : PySem.W.Frag) : Sp := fun vs H Q _ => ∃ (W : List Addr) (R0 B0 R : Hp) (L : List (Addr × HO)) (aC aK aF : Addr) (cells : List Int) (ys : List V) (A : List Rx) (fs : List Nat), vs = [.ref aC, .ref aK, .ref aF] ∧ Sta W R0 B0 R H L ∧ SqL K R aC (cells.map .int) ∧ SqL K R aK ys ∧ DpAll K R ys (rxE A) ∧ 1 ≤ A.length ∧ A.length ≤ 1000 ∧ SqL K R aF (nV fs) ∧ fs.length = cells.length ∧ cells.length ≤ 10 ∧
  ∀ (R' H' : Hp) (p : Addr) (ts : List V) (l : List St3), Sta W R0 B0 R' H' L → Same R R' → R' p = some (.lst ts) → DpAll K R' ts (l.map enc3) → (∀ t ∈ l, (∃ z ∈ fs, t.2.2 = ((z : Nat) : Int)) ∧ t.2.1 ≤ (A.length : Int)) → l.length ≤ 10 → Q (.ref p) H'
theorem ca_str (B' : Bi mg) (D : Df K mg "_law_stretches" (top 33)) : Ca P w K mg base CX0 1 "_law_stretches" (spStr K) := by
  have B := B'
  have sc : FnScope ["_law_cells", "_law_code_here", "_law_goals_here", "_law_spots", "_law_k", "_law_row", "_law_found", "_law_at", "_law_cell", "_law_first", "_law_behind"] ["_law_cells", "_law_code_here", "_law_goals_here"] (defScope (top 33)) := ⟨rfl, rfl, rfl, by decide +kernel, rfl, by decide +kernel, by decide +kernel⟩
  have nd := sc.nd
  refine D.ca0 sc (fun _ _ _ _ _ _ us hl => match us, hl with | [_, _, _], _ => rfl) (fun vs H Q E h => by obtain ⟨_, _, _, _, _, _, _, _, _, _, _, _, rfl, _⟩ := h; rfl) (fun f cdv A outer s H vs Q E hr h => ?_)
  obtain ⟨W, R0, B0, R, L, aC, aK, aF, cells, ys, A, fs, rfl, S, hC, hK, hys, hA1, hA2, hF, hfl, hc10, q⟩ := h
  refine ⟨_, (pss_cons (ps_setLc (i := 3) (own := [("_law_k", 4), ("_law_row", 5)]) rfl nd rfl rfl (sw_true rfl rfl rfl (by decide +kernel)) (pi_enum (by rfl) B.enumerate (pa_cons (pv 1) pa_nil)) (blkOk_by (N := ["_law_cells", "_law_code_here", "_law_goals_here", "_law_spots", "_law_k", "_law_row", "_law_found", "_law_at", "_law_cell", "_law_first", "_law_behind"]) (sc := defScope (top 33)) (by decide +kernel)) (fun _ _ _ _ _ => (pg_tupK (K := K) (n := 2) rfl rfl (pgs_cons (pg_name (i := 4) nd rfl (by first | exact Or.inl rfl | exact Or.inr rfl)) (pgs_cons (pg_name (i := 5) nd rfl (by first | exact Or.inl rfl | exact Or.inr rfl)) pgs_nil)))) (fun _ _ _ _ _ => (pts_one (pt_cmpR (op_inK (K := K) rfl) (pe_ix (ix_ltK (K := K) rfl) (pv 5) pe_int (fun _ _ => rfl)) (pe_tup (pa_cons pe_str (pa_cons pe_str (pa_cons pe_str pa_nil)))) rfl))) (fun _ _ _ _ _ => (pv 4)))
    (pss_cons (ps_set (i := 6) nd rfl (by first | exact Or.inl rfl | exact Or.inr rfl) (pe_lst pa_nil))
    (pss_cons (ps_for PassesOwn.never rfl (pi_enum (by rfl) B.enumerate (pa_cons (pv 0) pa_nil)) (pg_tup rfl (pgs_cons (pg_name (i := 7) nd rfl (by first | exact Or.inl rfl | exact Or.inr rfl)) (pgs_cons (pg_name (i := 8) nd rfl (by first | exact Or.inl rfl | exact Or.inr rfl)) pgs_nil))) (pss_cons (ps_set (i := 9) nd rfl (by first | exact Or.inl rfl | exact Or.inr rfl) (pe_op op_mod (pe_op op_fdiv (pv 8) pe_int) (pe_callB call_lenA rfl B.len PySem.boot_len (pa_cons (pv 1) pa_nil))))
    (pss_cons (ps_set (i := 10) nd rfl (by first | exact Or.inl rfl | exact Or.inr rfl) (pe_op op_add (pv 9) (pe_op op_mod (pe_op op_fdiv (pv 8) pe_int) (pe_op op_add (pe_op op_sub (pe_callB call_lenA rfl B.len PySem.boot_len (pa_cons (pv 1) pa_nil)) (pv 9)) pe_int))))
    (pss_cons (ps_if (PW.pt (pw_and (pt_cmpR op_eq (pe_op op_mod (pv 8) pe_int) pe_int (nomark _)) (pw_and1 (pt_cmpR (op_neD hr.units) (pv 3) (pe_lst pa_nil) (nomark _))))) (pss_cons (ps_set (i := 9) nd rfl (by first | exact Or.inl rfl | exact Or.inr rfl) (pe_callB (call_maxA rfl) rfl B.max (by decide +kernel) (pa_cons pe_int (pa_cons (pe_op op_sub (pe_ix ix_lt (pv 3) (pe_op op_mod (pe_op op_fdiv (pv 8) pe_int) (pe_callB call_lenA rfl B.len PySem.boot_len (pa_cons (pv 3) pa_nil))) (fun _ _ => rfl)) (pe_op op_mod (pe_op op_fdiv (pv 8) pe_int) pe_int)) pa_nil))))
    (pss_one (ps_set (i := 10) nd rfl (by first | exact Or.inl rfl | exact Or.inr rfl) (pe_callB (call_minA rfl) rfl B.min (by decide +kernel) (pa_cons (pe_callB call_lenA rfl B.len PySem.boot_len (pa_cons (pv 1) pa_nil)) (pa_cons (pe_op op_add (pv 9) (pe_op op_mod (pe_op op_fdiv (pv 8) pe_int) pe_int)) pa_nil)))))) pss_nil)
    (pss_one (ps_expr (pe_bm PySem.F.plainAttrs_list PySem.F.slot_list_append PySem.F.type_list_append mt_append (pv 6) (pa_cons (pe_tup (pa_cons (pv 9) (pa_cons (pv 10) (pa_cons (pe_ix ix_lt (pv 2) (pv 7) (fun _ _ => rfl)) pa_nil)))) pa_nil))))))))
    (pss_one (ps_ret (pv 6)))))), ?_⟩
  refine U.w_start (σ' := [some _, some _, some _, none, none, none, none, none, none, none, none]) rfl ?_
  walk_at "st"
  have hyl : ys.length = A.length := by rw [hys.len, List.length_map]
  have hKH : SqL K H aK ys := Same.seqL S.sub' hK
  refine lc_E (xs := ys) (fun D i H1 => ∃ sp : List Nat, Sta W R0 B0 R H1 ((D, .lst (nV sp)) :: L) ∧ sp.length ≤ i) hKH (fun D n => ⟨[], S.new n _, Nat.le_refl 0⟩) (fun D i H1 n hi p => by
    obtain ⟨sp, S1, _⟩ := p
    exact Same.seqL S1.sub' hK) (fun D i x H1 T n hx p nT => ?_) (fun D H1 n p => ?_)
  · obtain ⟨sp, S1, hsp⟩ := p
    have hi := (List.getElem?_eq_some_iff.mp hx).1
    obtain ⟨d, hd, hdx⟩ := hys.get hx
    unfold rxE at hd
    rw [List.getElem?_map] at hd
    obtain ⟨rx, hrx, rfl⟩ := Option.map_eq_some_iff.mp hd
    obtain ⟨p0, vs0, rfl, hT⟩ := enc_head hdx
    have S2 := S1.newX nT (.tup [.int (i : Nat), .ref p0])
    walk_at "go"
    have hT2 := Same.seqT S2.sub' hT
    walk_at "go"
    intro t nt
    have S3 := S2.newX nt (.tup [.str "share", .str "call", .str "raise"])
    walk_at "go"
    refine w_inT (b := inV (.str (Rw.word rx.1)) [.str "share", .str "call", .str "raise"]) (SqT.of upd_same) rfl rfl rfl ?_
    cases inV (.str (Rw.word rx.1)) [.str "share", .str "call", .str "raise"] with
    | true =>
      walk_at "go"
      refine w_lcE (S3.get 0 rfl) (szlt (by rw [List.length_map]; omega)) ?_
      have S4 := S3.set 0 rfl (.lst (nV sp ++ [.int (i : Nat)]))
      refine ⟨sp ++ [i], ?_, by rw [List.length_append]; show _ + 1 ≤ _; omega⟩
      have e : nV (sp ++ [i]) = nV sp ++ [.int (i : Nat)] := by unfold nV; rw [List.map_append]; rfl
      rw [e]
      exact S4
    | false =>
      walk_at "go"
      exact ⟨sp, S3, by omega⟩
  obtain ⟨sp, S1, hsp⟩ := p
  have S2 := S1.frz
  have s2 := same_new (S1.noR 0 rfl) (.lst (nV sp))
  have hsp2 : SqL K (upd R D (.lst (nV sp))) D (nV sp) := SqL.of upd_same
  generalize upd R D (.lst (nV sp)) = R2 at *
  walk_at "go"
  intro p1 np1
  have S3 := S2.new np1 (.lst [])
  walk_at "go"
  have hKS : SqL K R2 aK ys := Same.seqL s2 hK
  have hFS : SqL K R2 aF (nV fs) := Same.seqL s2 hF
  have hCS : SqL K R2 aC (cells.map .int) := Same.seqL s2 hC
  have hlsp : (nV sp).length = sp.length := List.length_map _
  refine w_lpJ (by walk_at "set") (fun σ' H' => ∃ (R1 : Hp) (ts : List V) (l : List St3) (v7 v8 v9 v10 : Option V), σ' = [some (.ref aC), some (.ref aK), some (.ref aF), some (.ref D), none, none, some (.ref p1), v7, v8, v9, v10] ∧ Sta W R0 B0 R1 H' ((p1, .lst ts) :: L) ∧ Same R2 R1 ∧ DpAll K R1 ts (l.map enc3) ∧ (∀ t ∈ l, (∃ z ∈ fs, t.2.2 = ((z : Nat) : Int)) ∧ t.2.1 ≤ (A.length : Int)) ∧ l.length = cells.length) (fun nx' kj => ?_) (fun σ' H' hj => ?_)
  · walk_at "go"
    refine for_E (xs := cells.map .int) (fun i σ' H' => ∃ (R1 : Hp) (ts : List V) (l : List St3) (v7 v8 v9 v10 : Option V), σ' = [some (.ref aC), some (.ref aK), some (.ref aF), some (.ref D), none, none, some (.ref p1), v7, v8, v9, v10] ∧ Sta W R0 B0 R1 H' ((p1, .lst ts) :: L) ∧ Same R2 R1 ∧ DpAll K R1 ts (l.map enc3) ∧ (∀ t ∈ l, (∃ z ∈ fs, t.2.2 = ((z : Nat) : Int)) ∧ t.2.1 ≤ (A.length : Int)) ∧ l.length = i) (Same.seqL S3.sub' hCS) ⟨R2, [], [], none, none, none, none, rfl, S3, Same.refl _, .nil, fun t h => (by cases h), rfl⟩ (fun i σ' H' _ p => by
      obtain ⟨R1, ts, l, v7, v8, v9, v10, _, S4, s4, _⟩ := p
      exact Same.seqL (s4.trans S4.sub') hCS) (fun i x σ' H' T hx p nT => ?_) (fun σ' H' p => ?_)
    · obtain ⟨R1, ts, l, v7, v8, v9, v10, rfl, S4, s4, hts, hl, hll⟩ := p
      rw [List.getElem?_map] at hx
      obtain ⟨c, hc, rfl⟩ := Option.map_eq_some_iff.mp hx
      have hi := (List.getElem?_eq_some_iff.mp hc).1
      have S5 := S4.newX nT (.tup [.int (i : Nat), .int c])
      have hK5 : SqL K _ aK ys := Same.seqL (s4.trans S5.sub') hKS
      have f0 := Int.emod_nonneg (c / 2) (b := (ys.length : Int)) (by omega)
      have f1 := Int.emod_lt_of_pos (c / 2) (b := (ys.length : Int)) (by omega)
      walk_at "go"
      generalize c / 2 % (ys.length : Int) = first at *
      walk_at "go"
      have g0 := Int.emod_nonneg (c / 300) (b := (ys.length : Int) - first + 1) (by omega)
      have g2 := Int.emod_lt_of_pos (c / 300) (b := (ys.length : Int) - first + 1) (by omega)
      generalize c / 300 % ((ys.length : Int) - first + 1) = dd at *
      refine w_ifJ (by walk_at "set") (fun σ' H' => ∃ (f b : Int), σ' = [some (.ref aC), some (.ref aK), some (.ref aF), some (.ref D), none, none, some (.ref p1), some (.int (i : Nat)), some (.int c), some (.int f), some (.int b)] ∧ b ≤ (A.length : Int) ∧ Sta W R0 B0 R1 H' ((p1, .lst ts) :: L)) (fun nx2 kj2 => ?_) (fun σ2 H2 hj2 => ?_)
      · walk_at "go"
        refine it_cases (fun c1 => ?_) fun c1 => ?_
        · walk_at "go"
          intro z nz
          have S6 := S5.newX nz (.lst [])
          have hsp6 : SqL K _ D (nV sp) := Same.seqL (s4.trans S6.sub') hsp2
          refine w_neNil hsp6 (dp_nV sp) (dp_newL upd_same .nil) (ints_shaped _) ?_
          cases hspe : sp with
          | nil =>
            walk_at "go"
            exact kj2 _ _ ⟨_, _, rfl, by omega, S6⟩
          | cons a0 sp0 =>
            rw [show (!(nV (a0 :: sp0)).isEmpty) = true from rfl]
            have hsl : 1 ≤ sp.length := by rw [hspe]; simp
            have hK6 : SqL K _ aK ys := Same.seqL (s4.trans S6.sub') hKS
            walk_at "go"
            obtain ⟨y, hy⟩ : ∃ y : Nat, atI (nV sp) (c / 2 % (((nV sp).length : Nat) : Int)) = some (.int (y : Nat)) := by
              rw [hlsp]
              have b1 := Int.emod_nonneg (c / 2) (b := (sp.length : Int)) (by omega)
              have b2 := Int.emod_lt_of_pos (c / 2) (b := (sp.length : Int)) (by omega)
              obtain ⟨m, hm⟩ : ∃ m : Nat, c / 2 % (sp.length : Int) = (m : Int) := ⟨(c / 2 % (sp.length : Int)).toNat, by omega⟩
              rw [hm] at b2 ⊢
              refine ⟨sp[m]'(by omega), atI_nat ?_⟩
              rw [List.getElem?_map, List.getElem?_eq_getElem (by omega)]
              rfl
            refine w_ixLL hsp6 hy ?_
            walk_at "go"
            exact kj2 _ _ ⟨_, _, rfl, by split <;> omega, S6⟩
        · walk_at "go"
          exact kj2 _ _ ⟨_, _, rfl, by omega, S5⟩
      · obtain ⟨f, b, rfl, hb, S6⟩ := hj2
        have hF6 : SqL K H2 aF (nV fs) := Same.seqL (s4.trans S6.sub') hFS
        walk_at "go"
        refine w_ixLL hF6 (v := .int ((fs[i]'(by omega) : Nat) : Int)) (atI_nat (by rw [List.getElem?_map, List.getElem?_eq_getElem (by omega)]; rfl)) ?_
        walk_at "go"
        intro u nu
        have S7 := S6.newR nu (.tup [.int f, .int b, .int ((fs[i]'(by omega) : Nat) : Int)])
        walk_at "go"
        refine w_append (S7.get 0 rfl) (szlt (by rw [hts.len, List.length_map]; omega)) ?_
        refine ⟨_, _, l ++ [(f, b, ((fs[i]'(by omega) : Nat) : Int))], _, _, _, _, rfl, S7.set 0 rfl (.lst (ts ++ [.ref u])), s4.trans (same_new (S6.nR nu) _), ?_, fun t ht => ?_, by rw [List.length_append, hll]; rfl⟩
        · rw [List.map_append]
          exact S6.row nu hts (.cons (.int _) (.cons (.int _) (.cons (.int _) .nil)))
        · rcases List.mem_append.mp ht with ht | ht
          · exact hl t ht
          · rw [List.mem_singleton.mp ht]
            exact ⟨⟨_, List.getElem_mem _, rfl⟩, hb⟩
    · rw [List.length_map] at p
      exact kj _ _ p
  obtain ⟨R1, ts, l, v7, v8, v9, v10, rfl, S4, s4, hts, hl, hll⟩ := hj
  walk_at "go"
  have s5 := same_new (S4.noR 0 rfl) (.lst ts)
  exact q _ _ p1 ts l S4.frz (s2.trans (s4.trans s5)) upd_same (hts.up s5) hl (by omega)
end
end K14

namespace K14
open PySem PySem.Spec PyProof.Rows L2 U MM M LC
open K04 (kO)
local macro_rules | `(tactic| walk_at "own1") => `(tactic| first
  | ((with_reducible refine w_cell (ns := ?wcn) ?wcs ?wck ?_); (case wcs => walk_at "sq"); (case wck => first | decide | omega))
  | (with_reducible refine w_numb ?_)
  | (with_reducible refine w_whole ?_)
  | (with_reducible refine U.w_iE ?_)
  | (with_reducible refine U.w_sl3 ?_)
  | walk_at "own2")
section
variable {P : Program} {w : World} {K : PySem.W.Frag} {mg : Str → Option Value} {base : Heap}
theorem cutN (ns : List Int) (a b : Nat) : ∃ l : List Int, cutV (ns.map V.int) (some (a : Int)) (some (b : Int)) = l.map V.int ∧ l.length ≤ b - a := by
  refine ⟨(ns.drop (min a ns.length)).take (min b ns.length - min a ns.length), ?_, by rw [List.length_take]; omega⟩
  unfold cutV
  rw [HT.sIx_nat, HT.sIx_nat, List.length_map, List.map_take, List.map_drop]
theorem ints_of : ∀ (ys : List V) (xs : List Int), (∀ y ∈ ys, y ∈ xs.map V.int) → ∃ l : List Int, ys = l.map V.int
  | [], _, _ => ⟨[], rfl⟩
  | y :: ys, xs, h => by
    obtain ⟨n, _, e⟩ := List.mem_map.mp (h y List.mem_cons_self)
    obtain ⟨l, hl⟩ := ints_of ys xs fun z hz => h z (List.mem_cons_of_mem _ hz)
    exact ⟨n :: l, by rw [hl, ← e]; rfl⟩
/-- what is drawn: code of which the machine's end is known -/
def spDrawn (K : PySem.W.Frag) : Sp := fun vs H Q _ => ∃ (a : Addr) (ns : List Int), vs = [.ref a] ∧ SqL K H a (ns.map V.int) ∧ ns.length ≤ 63 ∧
  ∀ (H' : Hp) (p : Addr) (C : Cd) (A : List Rx) (Bx many total : Nat), Same H H' → Good A Bx many total C → 1 ≤ many → A.length ≤ 1000 → Bx ≤ 6 → C.str.length ≤ 10 → C.begins.length ≤ 10 → Dp K H' (.ref p) C.enc → Q (.ref p) H'
theorem ca_drawn (B' : Bi mg) (D : Df K mg "_law_drawn" (top 34)) (c__law_cell_at : Ca P w K mg base CX0 1 "_law_cell_at" (spCel K)) (c__law_places : Ca P w K mg base CX0 2 "_law_places" (spPlaces K)) (c__law_code : Ca P w K mg base CX0 2 "_law_code" (spCode K))
    (c__law_goals : Ca P w K mg base CX0 1 "_law_goals" (spGoals K)) (c__law_stretches : Ca P w K mg base CX0 1 "_law_stretches" (spStr K)) : Ca P w K mg base CX0 3 "_law_drawn" (spDrawn K) := by
  have B := B'
  have sc : FnScope ["_law_script", "_law_first", "_law_many", "_law_boxes", "_law_lead", "_law_turn_here", "_law_cells", "_law_k", "_law_cell", "_law_groups", "_law_places_here", "_law_code_here", "_law_every", "_law_more", "_law_rows", "_law_goals_here", "_law_row"] ["_law_script"] (defScope (top 34)) := ⟨rfl, rfl, rfl, by decide +kernel, rfl, by decide +kernel, by decide +kernel⟩
  have nd := sc.nd
  refine D.ca0 sc (fun _ _ _ _ _ _ us hl => match us, hl with | [_], _ => rfl) (fun vs H Q E h => by obtain ⟨_, _, rfl, _⟩ := h; rfl) (fun f cdv A outer s H vs Q E hr h => ?_)
  obtain ⟨a, ns, rfl, hS, h63, q⟩ := h
  refine ⟨_, (pss_cons (ps_set (i := 1) nd rfl (by first | exact Or.inl rfl | exact Or.inr rfl) (pe_op op_mod (pe_op op_mul (pe_ca c__law_cell_at hr (by omega) rfl pass0 (pa_cons (pv 0) (pa_cons pe_int pa_nil))) pe_int) pe_int))
    (pss_cons (ps_set (i := 2) nd rfl (by first | exact Or.inl rfl | exact Or.inr rfl) (pe_op op_add pe_int (pe_op op_mod (pv 1) pe_int)))
    (pss_cons (ps_set (i := 3) nd rfl (by first | exact Or.inl rfl | exact Or.inr rfl) (pe_op op_add pe_int (pe_op op_mod (pe_op op_fdiv (pv 1) pe_int) pe_int)))
    (pss_cons (ps_set (i := 4) nd rfl (by first | exact Or.inl rfl | exact Or.inr rfl) (pe_op op_mul pe_int (pe_op op_mod (pe_op op_fdiv (pv 1) pe_int) pe_int)))
    (pss_cons (ps_set (i := 5) nd rfl (by first | exact Or.inl rfl | exact Or.inr rfl) (pe_op op_mod (pe_op op_fdiv (pv 1) pe_int) (pv 2)))
    (pss_cons (ps_set (i := 6) nd rfl (by first | exact Or.inl rfl | exact Or.inr rfl) (pe_lc (own := [("_law_k", 7), ("_law_cell", 8)]) rfl nd (pi_enum (by rfl) B.enumerate (pa_cons (pe_slice sl_list (pv 0) (po_some pe_int) (po_some pe_int)) pa_nil)) (blkOk_by (N := ["_law_script", "_law_first", "_law_many", "_law_boxes", "_law_lead", "_law_turn_here", "_law_cells", "_law_k", "_law_cell", "_law_groups", "_law_places_here", "_law_code_here", "_law_every", "_law_more", "_law_rows", "_law_goals_here", "_law_row"]) (sc := defScope (top 34)) (by decide +kernel)) (fun _ _ _ _ _ => (pg_tupK (K := K) (n := 2) rfl rfl (pgs_cons (pg_name (i := 7) nd rfl (by first | exact Or.inl rfl | exact Or.inr rfl)) (pgs_cons (pg_name (i := 8) nd rfl (by first | exact Or.inl rfl | exact Or.inr rfl)) pgs_nil)))) (fun _ _ _ _ _ => pts_nil) (fun _ _ _ _ _ => (pe_op op_mod (pe_op op_mul (pe_op op_add (pv 8) (pe_op op_mul pe_int (pv 7))) pe_int) pe_int))))
    (pss_cons (ps_setLc (i := 9) (own := [("_law_k", 7)]) rfl nd rfl rfl (sw_true rfl rfl rfl (by decide +kernel)) (pi_range1 rfl B.range (pa_cons (pv 2) pa_nil)) (blkOk_by (N := ["_law_script", "_law_first", "_law_many", "_law_boxes", "_law_lead", "_law_turn_here", "_law_cells", "_law_k", "_law_cell", "_law_groups", "_law_places_here", "_law_code_here", "_law_every", "_law_more", "_law_rows", "_law_goals_here", "_law_row"]) (sc := defScope (top 34)) (by decide +kernel)) (fun _ _ _ _ _ => (pg_name (i := 7) nd rfl (by first | exact Or.inl rfl | exact Or.inr rfl))) (fun _ _ _ _ _ => pts_nil) (fun _ _ _ _ _ => (pe_slice3K (K := K) rfl (pv 6) (po_some (pv 7)) po_none (po_some (pv 2)))))
    (pss_cons (ps_set (i := 10) nd rfl (by first | exact Or.inl rfl | exact Or.inr rfl) (pe_ca c__law_places hr (by omega) rfl pass0 (pa_cons (pv 9) (pa_cons (pv 4) (pa_cons (pv 5) pa_nil)))))
    (pss_cons (ps_asg (pe_ca c__law_code hr (by omega) rfl pass0 (pa_cons (pv 9) (pa_cons (pv 10) (pa_cons (pv 4) (pa_cons (pv 5) (pa_cons (pv 3) pa_nil)))))) (pg_tup rfl (pgs_cons (pg_name (i := 11) nd rfl (by first | exact Or.inl rfl | exact Or.inr rfl)) (pgs_cons (pg_name (i := 12) nd rfl (by first | exact Or.inl rfl | exact Or.inr rfl)) pgs_nil))))
    (pss_cons (ps_setLc (i := 13) (own := [("_law_k", 7)]) rfl nd rfl rfl (sw_true rfl rfl rfl (by decide +kernel)) (pi_range2 rfl B.range (pa_cons pe_int (pa_cons (pe_op op_add pe_int (pe_op op_mod (pe_op op_fdiv (pv 1) pe_int) pe_int)) pa_nil))) (blkOk_by (N := ["_law_script", "_law_first", "_law_many", "_law_boxes", "_law_lead", "_law_turn_here", "_law_cells", "_law_k", "_law_cell", "_law_groups", "_law_places_here", "_law_code_here", "_law_every", "_law_more", "_law_rows", "_law_goals_here", "_law_row"]) (sc := defScope (top 34)) (by decide +kernel)) (fun _ _ _ _ _ => (pg_name (i := 7) nd rfl (by first | exact Or.inl rfl | exact Or.inr rfl))) (fun _ _ _ _ _ => pts_nil) (fun _ _ _ _ _ => (pe_op op_mod (pe_op op_mul (pe_op op_add (pv 1) (pe_op op_mul pe_int (pv 7))) pe_int) pe_int)))
    (pss_cons (ps_asg (pe_ca c__law_goals hr (by omega) rfl pass0 (pa_cons (pe_lc (own := [("_law_cell", 8)]) rfl nd (pi_list (pv 13)) (blkOk_by (N := ["_law_script", "_law_first", "_law_many", "_law_boxes", "_law_lead", "_law_turn_here", "_law_cells", "_law_k", "_law_cell", "_law_groups", "_law_places_here", "_law_code_here", "_law_every", "_law_more", "_law_rows", "_law_goals_here", "_law_row"]) (sc := defScope (top 34)) (by decide +kernel)) (fun _ _ _ _ _ => (pg_name (i := 8) nd rfl (by first | exact Or.inl rfl | exact Or.inr rfl))) (fun _ _ _ _ _ => pts_nil) (fun _ _ _ _ _ => (pe_op op_fdiv (pv 8) pe_int))) (pa_cons (pe_callB call_lenA rfl B.len PySem.boot_len (pa_cons (pv 11) pa_nil)) (pa_cons (pv 12) (pa_cons (pv 3) pa_nil))))) (pg_tup rfl (pgs_cons (pg_name (i := 14) nd rfl (by first | exact Or.inl rfl | exact Or.inr rfl)) (pgs_cons (pg_name (i := 15) nd rfl (by first | exact Or.inl rfl | exact Or.inr rfl)) pgs_nil))))
    (pss_one (ps_ret (pe_tup (pa_cons (pe_op op_cat (pv 11) (pv 14)) (pa_cons (pe_ca c__law_stretches hr (by omega) rfl pass0 (pa_cons (pv 13) (pa_cons (pv 11) (pa_cons (pv 15) pa_nil)))) (pa_cons (pe_lc (own := [("_law_row", 16)]) rfl nd (pi_list (pv 10)) (blkOk_by (N := ["_law_script", "_law_first", "_law_many", "_law_boxes", "_law_lead", "_law_turn_here", "_law_cells", "_law_k", "_law_cell", "_law_groups", "_law_places_here", "_law_code_here", "_law_every", "_law_more", "_law_rows", "_law_goals_here", "_law_row"]) (sc := defScope (top 34)) (by decide +kernel)) (fun _ _ _ _ _ => (pg_name (i := 16) nd rfl (by first | exact Or.inl rfl | exact Or.inr rfl))) (fun _ _ _ _ _ => pts_nil) (fun _ _ _ _ _ => (pe_ix (ix_ltK (K := K) rfl) (pv 16) pe_int (fun _ _ => rfl)))) (pa_cons (pv 3) pa_nil)))))))))))))))))), ?_⟩
  refine U.w_start (σ' := [some _, none, none, none, none, none, none, none, none, none, none, none, none, none, none, none, none]) rfl ?_
  walk_at "st"
  have S := Sta.start (W := []) (Same.refl H)
  obtain ⟨first, hfi⟩ : ∃ first, first = cellAt ns 0 * 48271 % 1000003 := ⟨_, rfl⟩
  rw [← hfi] at *
  obtain ⟨many, hmany⟩ : ∃ many : Nat, 1 + first % 4 = (many : Int) := ⟨(1 + first % 4).toNat, by omega⟩
  have hm1 : 1 ≤ many := by omega
  have hm4 : many ≤ 4 := by omega
  rw [hmany] at *
  walk_at "go"
  obtain ⟨Bx, hBx⟩ : ∃ b : Nat, 2 + first / 4 % 5 = (b : Int) := ⟨(2 + first / 4 % 5).toNat, by omega⟩
  have hB1 : 1 ≤ Bx := by omega
  have hB6 : Bx ≤ 6 := by omega
  rw [hBx] at *
  obtain ⟨x, hx⟩ : ∃ x : Nat, first / 20 % 3 = (x : Int) := ⟨(first / 20 % 3).toNat, by omega⟩
  have hx2 : x ≤ 2 := by omega
  rw [hx] at *
  have hr0 := Int.emod_nonneg (first / 60) (b := ((many : Nat) : Int)) (by omega)
  obtain ⟨rot, hrot⟩ : ∃ r : Nat, first / 60 % ((many : Nat) : Int) = (r : Int) := ⟨(first / 60 % ((many : Nat) : Int)).toNat, by omega⟩
  rw [hrot] at *
  have hl2 : V.int (2 * ((x : Nat) : Int)) = .int ((2 * x : Nat) : Int) := by congr 1
  walk_at "go"
  rw [hl2] at *
  intro p1 np1
  obtain ⟨l0, hl0, hl24⟩ := cutN ns 3 27
  rw [show cutV (ns.map V.int) (some 3) (some 27) = l0.map V.int from hl0] at *
  have S1 := S.newR np1 (.lst (l0.map V.int))
  have s1 := same_new np1 (.lst (l0.map V.int))
  have hS1 : SqL K _ a (ns.map V.int) := Same.seqL s1 hS
  generalize hH1 : upd H p1 (.lst (l0.map V.int)) = H1 at *
  have hl0S : SqL K H1 p1 (l0.map V.int) := by rw [← hH1]; exact SqL.of upd_same
  walk_at "go"
  refine lc_E (xs := l0.map V.int) (fun D i H2 => ∃ cs : List Int, Sta [] H H H1 H2 ((D, .lst (cs.map V.int)) :: []) ∧ cs.length ≤ i) hl0S (fun D n => ⟨[], S1.new n _, Nat.le_refl 0⟩) (fun D i H2 n hi p => by
    obtain ⟨cs, S2, _⟩ := p
    exact Same.seqL S2.sub' hl0S) (fun D i x H2 T n hx p nT => ?_) (fun D H2 n p => ?_)
  · obtain ⟨cs, S2, hcs⟩ := p
    have hi := (List.getElem?_eq_some_iff.mp hx).1
    rw [List.length_map] at hi
    rw [List.getElem?_map] at hx
    obtain ⟨c, hc, rfl⟩ := Option.map_eq_some_iff.mp hx
    have S3 := S2.newX nT (.tup [.int (i : Nat), .int c])
    walk_at "go"
    refine w_lcE (S3.get 0 rfl) (szlt (by rw [List.length_map]; omega)) ?_
    refine ⟨cs ++ [(c + 7919 * (i : Nat)) * 48271 % 1000003], ?_, by rw [List.length_append]; show _ + 1 ≤ _; omega⟩
    rw [List.map_append]
    exact S3.set 0 rfl (.lst (cs.map V.int ++ [.int ((c + 7919 * (i : Nat)) * 48271 % 1000003)]))
  obtain ⟨cs, S2, hcs⟩ := p
  rw [List.length_map] at hcs
  have S3 := S2.frz
  have s3 := same_new (S2.noR 0 rfl) (.lst (cs.map V.int))
  have hcsR : SqL K (upd H1 D (.lst (cs.map V.int))) D (cs.map V.int) := SqL.of upd_same
  generalize upd H1 D (.lst (cs.map V.int)) = R3 at *
  have sH3 : Same H R3 := s1.trans s3
  clear S S1 S2 s1 s3 hS1 hl0S
  walk_at "go"
  refine lc_R1 (fun D2 i H4 => ∃ (R4 : Hp) (vs : List V) (gs : List (List Int)), Sta [] H H R4 H4 ((D2, .lst vs) :: []) ∧ Same R3 R4 ∧ DpAll K R4 vs (gs.map gdata) ∧ gs.length = i ∧ ∀ g ∈ gs, g.length ≤ 24) (by omega) (by omega) (fun D2 n => ⟨R3, [], [], S3.new n _, Same.refl _, .nil, rfl, fun g h => (by cases h)⟩) (fun D2 i H4 n hi p => ?_) (fun D2 H4 n p => ?_)
  · obtain ⟨R4, vs, gs, S4, s4, hvs, hgl, hg24⟩ := p
    rw [Int.toNat_natCast] at hi
    have hcs4 : SqL K H4 D (cs.map V.int) := Same.seqL (s4.trans S4.sub') hcsR
    walk_at "go"
    refine w_sl3E hcs4 (by omega) fun ys p hyl hym np => ?_
    obtain ⟨l, rfl⟩ := ints_of ys cs hym
    rw [List.length_map, List.length_map] at hyl
    have S5 := S4.newR np (.lst (l.map V.int))
    refine w_lcE (S5.get 0 rfl) (szlt (by rw [hvs.len, List.length_map]; omega)) ?_
    refine ⟨_, _, gs ++ [l], S5.set 0 rfl (.lst (vs ++ [.ref p])), s4.trans (same_new (S4.nR np) _), ?_, by rw [List.length_append, hgl]; rfl, fun g hg => ?_⟩
    · rw [List.map_append]
      exact (S4.upR np _ hvs).snoc (dp_newL upd_same (.ints l))
    · rcases List.mem_append.mp hg with hg | hg
      · exact hg24 g hg
      · rw [List.mem_singleton.mp hg]; omega
  obtain ⟨R4, vs, gs, S4, s4, hvs, hgl, hg24⟩ := p
  rw [Int.toNat_natCast] at hgl
  have S5 := S4.frz
  have s5 := same_new (S4.noR 0 rfl) (.lst vs)
  have hG : Dp K (upd R4 D2 (.lst vs)) (.ref D2) (.list (gs.map gdata)) := dp_newL upd_same (hvs.up s5)
  generalize upd R4 D2 (.lst vs) = R5 at *
  have sH5 := sH3.trans (s4.trans s5)
  clear S3 S4 s4 s5 hvs hcsR
  subst hgl
  walk_at "go"
  refine ⟨[], H, H, R5, [], D2, gs, 2 * x, rot, rfl, S5, hG, hm1, hm4, hg24, by omega, fun R6 H6 aP as pls S6 s6 hP hal hpl hrows => ?_⟩
  have hG6 := hG.up s6
  walk_at "go"
  refine ⟨[], H, H, R6, [], D2, aP, gs, 2 * x, rot, Bx, x, as, pls, rfl, S6, hG6, hm1, hm4, hg24, hx2, rfl, hB1, hP, hal, hpl, hrows, fun R7 H7 pt pc pe ys A S7 s7 hpt hpc hys hpe hfin => ?_⟩
  have hev1 : 1 ≤ pls.flatten.length := by
    have h := row_flat hpl (show 0 < gs.length by omega) (Nat.zero_le _)
    cases h2 : pls.flatten with
    | nil => rw [h2] at h; cases h
    | cons a l => simp
  have hPT : SqT K H7 pt [.ref pc, .ref pe] := SqT.of (S7.sub' _ _ hpt)
  have hyl : ys.length = A.length := by rw [hys.len, List.length_map]
  have hP7 := s7 _ _ hP
  have hrows7 : ∀ (i : Nat) (a : Addr) (l : List Nat), as[i]? = some a → pls[i]? = some l → R7 a = some (.lst (nV l)) := fun i a l h1 h2 => s7 _ _ (hrows i a l h1 h2)
  have sH7 := sH5.trans (s6.trans s7)
  clear S5 S6 hG hG6 hP hrows
  walk_at "go"
  refine lc_R2 (fun D3 i H8 => ∃ ms : List Int, Sta [] H H R7 H8 ((D3, .lst (ms.map V.int)) :: []) ∧ ms.length = i) (by omega) (by omega) (by omega) (by omega) (fun D3 n => ⟨[], S7.new n _, rfl⟩) (fun D3 i H8 n hi p => ?_) (fun D3 H8 n p => ?_)
  · obtain ⟨ms, S8, hms⟩ := p
    walk_at "go"
    refine w_lcE (S8.get 0 rfl) (szlt (by rw [List.length_map]; omega)) ?_
    refine ⟨ms ++ [(first + 104729 * (1 + (i : Nat))) * 48271 % 1000003], ?_, by rw [List.length_append, hms]; rfl⟩
    rw [List.map_append]
    exact S8.set 0 rfl (.lst (ms.map V.int ++ [.int ((first + 104729 * (1 + (i : Nat))) * 48271 % 1000003)]))
  obtain ⟨ms, S8, hms⟩ := p
  have hms5 : ms.length ≤ 5 := by omega
  have S9 := S8.frz
  have s9 := same_new (S8.noR 0 rfl) (.lst (ms.map V.int))
  have hM9 : SqL K (upd R7 D3 (.lst (ms.map V.int))) D3 (ms.map V.int) := SqL.of upd_same
  have hpc9 := s9 _ _ hpc
  have hpe9 := s9 _ _ hpe
  have hys9 := hys.up s9
  generalize upd R7 D3 (.lst (ms.map V.int)) = R9 at *
  clear S7 S8
  walk_at "go"
  refine lc_data (K := K) (W := []) (R := R9) ((ms.map fun c => c / 7).map PyData.int) S9.sub' (fun _ _ => by simp) hM9 (by simp) (by simp; omega) (fun i x d R1 H1 N hx hd g1 k => ?_) (mono_gName _) mono_yes (fun D4 R10 H10 ys4 g10 nD4 hD4 rD4 aD4 => ?_)
  · rw [List.getElem?_map] at hx
    obtain ⟨c, hc, rfl⟩ := Option.map_eq_some_iff.mp hx
    rw [List.map_map, List.getElem?_map, hc] at hd
    cases hd
    walk_at "go"
    exact k _ _ _ (Gw.refl g1.sub) (.int _)
  have S10 := (S9.take g10 nD4 hD4 rD4).frz
  have e10 := dpAll_ints aD4
  subst e10
  have s10 : Same R9 (upd R10 D4 (.lst ((ms.map fun c => c / 7).map .int))) := fun a o h => by
    have h1 := g10.ext a o h
    rw [upd_ne (ne_of_none h1 rD4)]
    exact h1
  have hC10 : SqL K (upd R10 D4 (.lst ((ms.map fun c => c / 7).map .int))) D4 ((ms.map fun c => c / 7).map .int) := SqL.of upd_same
  generalize upd R10 D4 (.lst ((ms.map fun c => c / 7).map .int)) = R11 at *
  have hpc11 := s10 _ _ hpc9
  have hpe11 := s10 _ _ hpe9
  have hys11 := hys9.up s10
  have hM11 := Same.seqL s10 hM9
  have hPC : SqL K H10 pc ys := SqL.of (S10.sub' _ _ hpc11)
  clear g10 S9
  walk_at "go"
  rw [hyl]
  refine ⟨[], H, H, R11, [], D4, pe, ms.map fun c => c / 7, A.length, Bx, gs.length, pls.flatten, rfl, S10, hC10, SqL.of hpe11, by rw [List.length_map]; omega, hB1, hev1, fun R12 H12 pt2 pr pf ysG GA fs S12 s12 hpt2 hpr hysG hpf hgok hfsl => ?_⟩
  rw [List.length_map] at hfsl
  have hPT2 : SqT K H12 pt2 [.ref pr, .ref pf] := SqT.of (S12.sub' _ _ hpt2)
  have hA600 := hfin.len
  have hgl := hgok.len
  have hgy : ysG.length = GA.length := by rw [hysG.len, List.length_map]
  clear hPT
  walk_at "go"
  refine w_cat (S12.sub' _ _ (s12 _ _ hpc11)) (S12.sub' _ _ hpr) (by omega) fun t1 nt1 => ?_
  have S13 := S12.newR nt1 (.lst (ys ++ ysG))
  have s13 := same_new (S12.nR nt1) (.lst (ys ++ ysG))
  have aRows : DpAll K (upd R12 t1 (.lst (ys ++ ysG))) (ys ++ ysG) (rxE (A ++ GA)) := by
    have z := S12.upR nt1 (.lst (ys ++ ysG)) ((hys11.up s12).app hysG)
    rw [show rxE (A ++ GA) = rxE A ++ rxE GA from List.map_append]
    exact z
  walk_at "go"
  refine ⟨[], H, H, _, [], D3, pc, pf, ms, ys, A, fs, rfl, S13, Same.seqL (s12.trans s13) hM11, SqL.of ((s12.trans s13) _ _ hpc11), (hys11.up s12).up s13, hfin.one, by omega, SqL.of (s13 _ _ hpf), hfsl, by omega, fun R14 H14 pS ts st S14 s14 hpS hts hst hstl => ?_⟩
  have hR14 : R14 t1 = some (.lst (ys ++ ysG)) := s14 _ _ upd_same
  have s7e := (s9.trans s10).trans (s12.trans (s13.trans s14))
  have hPL : SqL K H14 aP (as.map V.ref) := SqL.of (S14.sub' _ _ (s7e _ _ hP7))
  walk_at "go"
  refine lc_data (K := K) (W := []) (R := R14) (((List.range gs.length).map fun k => ((((pls.getD k []).headD 0) : Nat) : Int)).map PyData.int) S14.sub' (fun _ _ => by simp) (SqL.of (s7e _ _ hP7)) (by simp [hal]) (by simp; omega) (fun i x d R1 H1 N hx hd g1 k => ?_) (mono_gName _) mono_yes (fun D5 R15 H15 ys5 g15 nD5 hD5 rD5 aD5 => ?_)
  · rw [List.getElem?_map] at hx
    obtain ⟨ai, hai, rfl⟩ := Option.map_eq_some_iff.mp hx
    rw [List.map_map, List.getElem?_map] at hd
    obtain ⟨j, hj, rfl⟩ := Option.map_eq_some_iff.mp hd
    obtain ⟨hj1, eji⟩ := range_get hj
    subst eji
    have hpi : pls[j]? = some (pls[j]'(by rw [hpl.1]; exact hj1)) := List.getElem?_eq_getElem _
    have hrow := hrows7 j ai _ hai hpi
    have hsz : ∃ z l, pls[j]'(by rw [hpl.1]; exact hj1) = z :: l := by
      have h1 := hpl.2 (K04.inv gs.length rot j) (K04.inv_lt (by omega) _ _)
      rw [K04.kO_inv hj1, hpi, if_pos (K04.inv_lt (by omega) _ _)] at h1
      have h2 := Option.some.inj h1
      rw [h2]
      unfold row
      rw [List.range_succ_eq_map]
      exact ⟨_, _, rfl⟩
    obtain ⟨z, l, hzl⟩ := hsz
    have hgd : pls.getD j [] = z :: l := by rw [List.getD_eq_getElem?_getD, hpi, hzl]; rfl
    rw [hzl] at hrow
    have hrs : SqL K H1 ai (nV (z :: l)) := SqL.of ((g1.ext.trans g1.sub) _ _ (s7e _ _ hrow))
    walk_at "go"
    refine w_ixLL hrs (v := .int (z : Nat)) (atI_nat (j := 0) rfl) ?_
    refine k _ _ _ (Gw.refl g1.sub) ?_
    show Dp K R1 (.int (z : Nat)) (.int ((((pls.getD j []).headD 0) : Nat) : Int))
    rw [hgd]
    exact .int _
  have S15 := (S14.take g15 nD5 hD5 rD5).frz
  have s15 : Same R14 (upd R15 D5 (.lst ys5)) := fun a o h => by
    have h1 := g15.ext a o h
    rw [upd_ne (ne_of_none h1 rD5)]
    exact h1
  walk_at "go"
  intro u nu
  have S16 := S15.newR nu (.tup [.ref t1, .ref pS, .ref D5, .int (Bx : Nat)])
  have s16 := same_new (S15.nR nu) (.tup [.ref t1, .ref pS, .ref D5, .int (Bx : Nat)])
  obtain ⟨C, hC⟩ : ∃ C : Cd, C = ⟨(A ++ GA).map (·.1), st, (List.range gs.length).map fun k => ((((pls.getD k []).headD 0) : Nat) : Int), (Bx : Nat)⟩ := ⟨_, rfl⟩
  have hgood : Good (A ++ GA) Bx gs.length A.length C := by
    refine good hfin hgok (by rw [hC]) (fun f h0 h1 => ?_) (by rw [hC]; exact hst) (by rw [hC]) hB1
    obtain ⟨i, rfl⟩ : ∃ i : Nat, f = (i : Int) := ⟨f.toNat, by omega⟩
    have hi : i < gs.length := by omega
    have hpi : pls[i]? = some (pls[i]'(by rw [hpl.1]; exact hi)) := List.getElem?_eq_getElem _
    have h1 := hpl.2 (K04.inv gs.length rot i) (K04.inv_lt (by omega) _ _)
    rw [K04.kO_inv hi, if_pos (K04.inv_lt (by omega) _ _)] at h1
    refine ⟨stp gs rot (2 * x) (K04.inv gs.length rot i), ?_, ?_⟩
    · have := row_flat hpl (K04.inv_lt (show 0 < gs.length by omega) rot i) (Nat.zero_le _)
      rw [pAt_zero] at this
      exact this
    · rw [hC]
      refine atI_nat ?_
      rw [List.getElem?_map, List.getElem?_range hi]
      show some ((((pls.getD i []).headD 0) : Nat) : Int) = _
      rw [List.getD_eq_getElem?_getD, h1]
      unfold row
      rw [List.range_succ_eq_map]
      show some ((pAt _ _ 0 : Nat) : Int) = _
      rw [pAt_zero]
  refine q _ u C (A ++ GA) Bx gs.length A.length S16.old hgood hm1 (by rw [List.length_append]; omega) hB6 (by rw [hC]; exact hstl) (by rw [hC]; simp; omega) ?_
  rw [hC]
  have dr : Dp K _ (.ref t1) (.list (((A ++ GA).map (·.1)).map Rw.enc)) := dp_newL (s15 _ _ hR14) (by
    have z := (aRows.up s14).up s15
    rw [show ((A ++ GA).map (·.1)).map Rw.enc = rxE (A ++ GA) from List.map_map]
    exact z)
  have ds := dp_newL (K := K) (s15 _ _ hpS) (hts.up s15)
  have db : Dp K (upd R15 D5 (.lst ys5)) (.ref D5) (.list (((List.range gs.length).map fun k => ((((pls.getD k []).headD 0) : Nat) : Int)).map PyData.int)) := dp_newL upd_same (aD5.up (fun a o h => by rw [upd_ne (ne_of_none h rD5)]; exact h : Same R15 (upd R15 D5 (.lst ys5))))
  exact (dp_tupN (S15.nR nu) (.cons dr (.cons ds (.cons db (.cons (.int _) .nil))))).up S16.sub'
end
end K14

namespace K14
open PySem PySem.Spec PyProof.Rows L2 U MM M LC LM
local macro_rules | `(tactic| walk_at "own1") => `(tactic| first
  | ((with_reducible refine w_cell (ns := ?wcn) ?wcs ?wck ?_); (case wcs => walk_at "sq"); (case wck => first | decide | omega))
  | (with_reducible refine w_numb ?_)
  | (with_reducible refine w_whole ?_)
  | walk_at "own2")
section
variable {P : Program} {w : World} {K : PySem.W.Frag} {mg : Str → Option Value} {base : Heap}
def spIs (K : PySem.W.Frag) : Sp := fun vs H Q _ => ∃ (v : V) (said : List Int) (o : Ou), vs = [v] ∧ Dp K H v (outEnc said o) ∧ ∀ H', Same H H' → Q (.bl true) H'
theorem ca_is (B' : Bi mg) (D : Df K mg "_law_is" (top 35)) (c__law_whole : Ca P w K mg base CX0 1 "_law_whole" spWhole) : Ca P w K mg base CX0 2 "_law_is" (spIs K) := by
  have B := B'
  have sc : FnScope ["_law_found", "_law_x"] ["_law_found"] (defScope (top 35)) := ⟨rfl, rfl, rfl, by decide +kernel, rfl, by decide +kernel, by decide +kernel⟩
  have nd := sc.nd
  refine D.ca0 sc (fun _ _ _ _ _ _ us hl => match us, hl with | [_], _ => rfl) (fun vs H Q E h => by obtain ⟨_, _, _, rfl, _⟩ := h; rfl) (fun f cdv A outer s H vs Q E hr h => ?_)
  obtain ⟨v, said, o, rfl, hv, q⟩ := h
  refine ⟨_, (pss_cons (ps_if (PW.pt (pw_or (pt_not (pt_val (pe_callB call_isiN rfl B.isinstance (by decide +kernel) (pa_cons (pv 0) (pa_cons (pe_bltn (v := .ty "tuple") rfl B.tuple (by decide +kernel) rfl) pa_nil))))) (pw_or (pt_cmpR op_ne (pe_callB call_lenA rfl B.len PySem.boot_len (pa_cons (pv 0) pa_nil)) pe_int (nomark _)) (pw_or1 (pt_not (pt_val (pe_callB call_isiN rfl B.isinstance (by decide +kernel) (pa_cons (pe_ix ix_lt (pv 0) pe_int (fun _ _ => rfl)) (pa_cons (pe_bltn (v := .ty "list") rfl B.list (by decide +kernel) rfl) pa_nil))))))))) (pss_one (ps_ret pe_bl)) pss_nil)
    (pss_cons (ps_if (PW.pt (pw_or (pt_cmpR op_gt (pe_callB call_lenA rfl B.len PySem.boot_len (pa_cons (pe_lc (own := [("_law_x", 1)]) rfl nd (pi_list (pe_ix ix_lt (pv 0) pe_int (fun _ _ => rfl))) (blkOk_by (N := ["_law_found", "_law_x"]) (sc := defScope (top 35)) (by decide +kernel)) (fun _ _ _ _ _ => (pg_name (i := 1) nd rfl (by first | exact Or.inl rfl | exact Or.inr rfl))) (fun _ _ _ _ _ => (pts_one (pt_not (pt_val (pe_ca c__law_whole hr (by omega) rfl pass0 (pa_cons (pv 1) pa_nil)))))) (fun _ _ _ _ _ => (pv 1))) pa_nil)) pe_int (nomark _)) (pw_or1 (pt_not (pt_val (pe_ca c__law_whole hr (by omega) rfl pass0 (pa_cons (pe_ix ix_lt (pv 0) pe_int (fun _ _ => rfl)) pa_nil))))))) (pss_one (ps_ret pe_bl)) pss_nil)
    (pss_one (ps_ret (pe_and (pe_callB call_isiN rfl B.isinstance (by decide +kernel) (pa_cons (pe_ix ix_lt (pv 0) pe_int (fun _ _ => rfl)) (pa_cons (pe_bltn (v := .ty "str") rfl B.str (by decide +kernel) rfl) pa_nil))) (pe_one (pe_or (pe_cmpR op_in_seq (pe_ix ix_lt (pv 0) pe_int (fun _ _ => rfl)) (pe_tup (pa_cons pe_str (pa_cons pe_str pa_nil))) rfl) (pe_one (pe_and (pe_cmpR op_eq (pe_ix ix_lt (pv 0) pe_int (fun _ _ => rfl)) pe_str (nomark _)) (pe_one (pe_cmpR op_eq (pe_ix ix_lt (pv 0) pe_int (fun _ _ => rfl)) pe_int (nomark _)))))))))))), ?_⟩
  refine U.w_start (σ' := [some _, none]) rfl ?_
  walk_at "st"
  obtain ⟨pv, ws, ww, wn, rfl, hV, hw1, hw2, hw3⟩ := dp_tup3 hv
  cases dp_str hw2
  cases dp_int hw3
  obtain ⟨pS, xS, rfl, hS1, hS2⟩ := dp_lst hw1
  have eS := dpAll_ints hS2
  subst eS
  walk_at "go"
  walk_at "if"
  refine itn_pos rfl ?_
  walk_at "go"
  walk_at "if"
  refine lc_none hS1 (fun i x D hx nD => ?_) (fun D nD => ?_)
  · rw [List.getElem?_map] at hx
    obtain ⟨z, _, rfl⟩ := Option.map_eq_some_iff.mp hx
    walk_at "go"
    rfl
  · walk_at "go"
    refine it_neg (by decide) ?_
    have sz := same_new nD (.lst [])
    have hVK := Same.seqT sz hV
    walk_at "go"
    intro t nt
    have sz2 := sz.trans (same_new nt (.tup [.str "answer", .str "fault"]))
    have hVK2 := Same.seqT sz2 hV
    walk_at "go"
    cases o with
    | answer n =>
      refine w_inT (b := true) (SqT.of upd_same) rfl rfl (by show inV (V.str "answer") [.str "answer", .str "fault"] = true; decide +kernel) ?_
      walk_at "go"
      exact q _ sz2
    | fault n =>
      refine w_inT (b := true) (SqT.of upd_same) rfl rfl (by show inV (V.str "fault") [.str "answer", .str "fault"] = true; decide +kernel) ?_
      walk_at "go"
      exact q _ sz2
    | tired =>
      refine w_inT (b := false) (SqT.of upd_same) rfl rfl (by decide +kernel) ?_
      walk_at "go"
      exact q _ sz2
theorem cd_shaped (C : Cd) : SeqAt.shaped C.enc = true := by
  have h1 := rows_shaped C.rows
  have h2 := str_shaped C.str
  have h3 := ints_shaped C.begins
  refine shaped_of ?_ ?_
  · show ((PyData.list (C.rows.map Rw.enc)).canLay0 && ((PyData.list (C.str.map enc3)).canLay0 && ((PyData.list (C.begins.map .int)).canLay0 && (true && true)))) = true
    rw [canLay_of h1, canLay_of h2, canLay_of h3]
    rfl
  · have e1 : (PyData.list (C.rows.map Rw.enc)).depth ≤ 2 := Nat.succ_le_succ (depthAll_of fun d hd => by obtain ⟨r, _, rfl⟩ := List.mem_map.mp hd; exact r.enc_ok.2)
    have e2 : (PyData.list (C.str.map enc3)).depth ≤ 2 := Nat.succ_le_succ (depthAll_of fun d hd => by obtain ⟨r, _, rfl⟩ := List.mem_map.mp hd; exact Nat.le_refl 1)
    have e3 : (PyData.list (C.begins.map .int)).depth ≤ 2 := Nat.succ_le_succ (depthAll_of fun d hd => by obtain ⟨r, _, rfl⟩ := List.mem_map.mp hd; exact Nat.zero_le _)
    show max _ (max _ (max _ (max _ 0))) + 1 ≤ 64
    have e4 : (PyData.int C.boxes).depth = 0 := rfl
    omega
theorem out_shaped (said : List Int) (o : Ou) : SeqAt.shaped (outEnc said o) = true := by
  refine shaped_of ?_ ?_
  · show ((PyData.list (said.map .int)).canLay0 && ((PyData.str o.word).canLay0 && (true && true))) = true
    rw [canLay_of (ints_shaped said)]
    have hw : ∀ x : Str, x = "answer" ∨ x = "fault" ∨ x = "tired" → (true && ((PyData.str x).canLay0 && (true && true))) = true := by
      intro x h
      rcases h with rfl | rfl | rfl <;> decide +kernel
    cases o with
    | answer n => exact hw _ (.inl rfl)
    | fault n => exact hw _ (.inr (.inl rfl))
    | tired => exact hw _ (.inr (.inr rfl))
  · have e1 : (PyData.list (said.map .int)).depth ≤ 2 := Nat.succ_le_succ (depthAll_of fun d hd => by obtain ⟨r, _, rfl⟩ := List.mem_map.mp hd; exact Nat.zero_le _)
    show max _ (max _ (max _ 0)) + 1 ≤ 64
    have e4 : (PyData.int o.num).depth = 0 := rfl
    have e5 : (PyData.str o.word).depth = 0 := rfl
    omega
theorem ok_law (B : Bi mg) (c__law_cell_at : Ca P w K mg base CX0 1 "_law_cell_at" (spCel K)) (c__law_number : Ca P w K mg base CX0 1 "_law_number" spNumb) (c__law_drawn : Ca P w K mg base CX0 3 "_law_drawn" (spDrawn K)) (c__law_is : Ca P w K mg base CX0 2 "_law_is" (spIs K)) (c__law_gone : Ca P w K mg base CX0 42 "_law_gone" (spLGone K)) (c_run : Ca P w K mg base CX0 43 "run" (spRun K)) :
    ∀ f fd, LawF K (top 45) f fd → FnOk P w K mg base CX0 44 f fd ["_law_script"] (spTrue K) := by
  have sc : FnScope ["_law_script", "_law_parts", "_law_given_here", "_law_turns", "_law_handed", "_law_found"] ["_law_script"] (defScope (top 45)) := ⟨rfl, rfl, rfl, by decide +kernel, rfl, by decide +kernel, by decide +kernel⟩
  have nd := sc.nd
  refine law0 sc (fun vs H Q E h => by obtain ⟨_, _, rfl, _⟩ := h; rfl) (fun f cdv A outer s H vs Q E hr h => ?_)
  obtain ⟨a, ns, rfl, hS, h63, q⟩ := h
  refine ⟨_, (pss_cons (ps_set (i := 1) nd rfl (by first | exact Or.inl rfl | exact Or.inr rfl) (pe_ca c__law_drawn hr (by omega) rfl pass0 (pa_cons (pv 0) pa_nil)))
    (pss_cons (ps_set (i := 2) nd rfl (by first | exact Or.inl rfl | exact Or.inr rfl) (pe_ca c__law_number hr (by omega) rfl pass0 (pa_cons (pe_ca c__law_cell_at hr (by omega) rfl pass0 (pa_cons (pv 0) (pa_cons pe_int pa_nil))) pa_nil)))
    (pss_cons (ps_set (i := 3) nd rfl (by first | exact Or.inl rfl | exact Or.inr rfl) (pe_op op_mod (pe_ca c__law_cell_at hr (by omega) rfl pass0 (pa_cons (pv 0) (pa_cons pe_int pa_nil))) pe_int))
    (pss_cons (ps_set (i := 4) nd rfl (by first | exact Or.inl rfl | exact Or.inr rfl) (pe_tup (pa_cons (pe_callTy call_listA rfl B.list (by decide +kernel) (pa_cons (pe_ix ix_lt (pv 1) pe_int (fun _ _ => rfl)) pa_nil)) (pa_cons (pe_callTy call_listA rfl B.list (by decide +kernel) (pa_cons (pe_ix ix_lt (pv 1) pe_int (fun _ _ => rfl)) pa_nil)) (pa_cons (pe_callTy call_listA rfl B.list (by decide +kernel) (pa_cons (pe_ix ix_lt (pv 1) pe_int (fun _ _ => rfl)) pa_nil)) (pa_cons (pe_ix ix_lt (pv 1) pe_int (fun _ _ => rfl)) pa_nil))))))
    (pss_cons (ps_set (i := 5) nd rfl (by first | exact Or.inl rfl | exact Or.inr rfl) (pe_ca c_run hr (by omega) rfl pass0 (pa_cons (pv 4) (pa_cons (pv 2) (pa_cons (pv 3) pa_nil)))))
    (pss_cons (ps_if (PW.pt (pw_or (pt_cmpR (op_neD hr.units) (pv 4) (pv 1) (nomark _)) (pw_or1 (pt_not (pt_val (pe_ca c__law_is hr (by omega) rfl pass0 (pa_cons (pv 5) pa_nil))))))) (pss_one (ps_ret pe_bl)) pss_nil)
    (pss_one (ps_ret (pe_cmpR (op_eqD hr.units) (pv 5) (pe_ca c__law_gone hr (by omega) rfl pass0 (pa_cons (pv 1) (pa_cons (pv 2) (pa_cons (pv 3) pa_nil)))) (nomark _)))))))))), ?_⟩
  refine U.w_start (σ' := [some _, none, none, none, none, none]) rfl ?_
  walk_at "st"
  refine ⟨a, ns, rfl, hS, h63, fun H1 p C A Bx many total s1 hg hm1 hA hB6 hst hbg hC => ?_⟩
  have hS1 := Same.seqL s1 hS
  walk_at "go"
  obtain ⟨turns, htn⟩ : ∃ turns : Nat, cellAt ns 2 % 26 = (turns : Int) := ⟨(cellAt ns 2 % 26).toNat, by omega⟩
  have ht26 : turns < 26 := by omega
  rw [htn] at *
  obtain ⟨pp, v1, v2, v3, v4, epp, hT, d1, d2, d3, d4⟩ := dp_tup4 hC
  cases epp
  obtain ⟨q1, x1, rfl, l1, k1⟩ := dp_lst d1
  obtain ⟨q2, x2, rfl, l2, k2⟩ := dp_lst d2
  obtain ⟨q3, x3, rfl, l3, k3⟩ := dp_lst d3
  cases dp_int d4
  have hl1 : x1.length ≤ 1000 := by rw [k1.len, List.length_map, hg.rows, List.length_map]; exact hA
  have hl2 : x2.length ≤ 10 := by rw [k2.len, List.length_map]; exact hst
  have hl3 : x3.length ≤ 10 := by rw [k3.len, List.length_map]; exact hbg
  have S1 := Sta.start (W := []) (Same.refl H1)
  walk_at "go"
  intro n1 nn1
  have e1 := dp_lstN nn1 k1
  have t1 := same_new nn1 (.lst x1)
  have hT1 := Same.seqT t1 hT
  have l21 := Same.seqL t1 l2
  walk_at "go"
  intro n2 nn2
  have e2 := dp_lstN nn2 (k2.up t1)
  have t2 := t1.trans (same_new nn2 (.lst x2))
  have hT2 := Same.seqT t2 hT
  have l32 := Same.seqL t2 l3
  walk_at "go"
  intro n3 nn3
  have e3 := dp_lstN nn3 (k3.up t2)
  have t3 := t2.trans (same_new nn3 (.lst x3))
  have hT3 := Same.seqT t3 hT
  walk_at "go"
  intro n4 nn4
  have hH : Dp K _ (.ref n4) C.enc := dp_tupN nn4 (.cons ((e1.up (same_new nn2 (.lst x2))).up (same_new nn3 (.lst x3))) (.cons (e2.up (same_new nn3 (.lst x3))) (.cons e3 (.cons (.int C.boxes) .nil))))
  have t4 := t3.trans (same_new nn4 (.tup [.ref n1, .ref n2, .ref n3, .int C.boxes]))
  have hC4 := hC.up t4
  clear e1 e2 e3 hT hT1 hT2 hT3 t1 t2 t3 S1
  generalize upd (upd (upd (upd H1 n1 (.lst x1)) n2 (.lst x2)) n3 (.lst x3)) n4 (.tup [.ref n1, .ref n2, .ref n3, .int C.boxes]) = H4 at *
  walk_at "go"
  obtain ⟨z, hz, hzf⟩ := hg.beg 0 (Int.le_refl 0) (by omega)
  have hinit : MM.init C (numb (cellAt ns 1)) turns = some ⟨turns, [newFr C z (numb (cellAt ns 1))], [], none⟩ := by
    unfold MM.init MM.enter
    rw [if_neg (show ¬ ([] : List MM.Fr).length = 8 by decide), hz]
  have hb0 : C.boxes = (Bx : Int) := hg.boxes
  have hb1 := hg.b1
  have hfs : FsOk A Bx [newFr C z (numb (cellAt ns 1))] := by
    refine ⟨fresh_G hzf ?_ rfl, fun g h => by cases h⟩
    show (numb (cellAt ns 1) :: List.replicate (C.boxes - 1).toNat 0).length = Bx
    rw [List.length_cons, List.length_replicate, hb0]
    omega
  obtain ⟨n, se, ou, hn1, hn2, hn3⟩ := ends hg _ ⟨turns, [newFr C z (numb (cellAt ns 1))], [], none⟩ rfl hfs (by show (0 : Int) ≤ (turns : Int); omega) (Nat.le_refl _)
  have hn15 : n ≤ 15000000 := by
    have h1 : sumW A [newFr C z (numb (cellAt ns 1))] ≤ 2 * A.length + 1 := by
      rw [sumW_cons]
      have := w_le (A := A) (newFr C z (numb (cellAt ns 1))).place
      show _ + 0 ≤ _
      omega
    have h2 : ((turns : Nat) : Int).toNat * (2 * A.length + 2) ≤ 26 * 2002 := Nat.mul_le_mul (by omega) (by omega)
    have h3 : (MS.mk (turns : Int) [newFr C z (numb (cellAt ns 1))] [] none).turns.toNat * (2 * A.length + 2) ≤ 26 * 2002 := h2
    have h4 : sumW A (MS.mk (turns : Int) [newFr C z (numb (cellAt ns 1))] [] none).fs ≤ 2 * A.length + 1 := h1
    omega
  refine ⟨C, n4, numb (cellAt ns 1), turns, n, _, se, ou, rfl, hH, by omega, by omega, hinit, hn2, hn3, hn15, fun R5 H5 v g5 hv => ?_⟩
  have t5 : Same H4 H5 := fun a o h => g5.kee a o h (by simp)
  have hv5 := hv.up g5.sub
  have hH5 := hH.up t5
  have hC5 := hC4.up t5
  walk_at "go"
  walk_at "if"
  refine w_neD hH5 hC5 (cd_shaped C) ?_
  walk_at "go"
  refine ⟨v, se.said, ou, rfl, hv5, fun H6 s6 => ?_⟩
  walk_at "go"
  refine ⟨C, p, numb (cellAt ns 1), turns, n, _, se, ou, rfl, hC5.up s6, by omega, by omega, by omega, by omega, hinit, hn2, hn3, hn15, fun R7 H7 v7 g7 hv7 => ?_⟩
  have t7 : Same H6 H7 := fun a o h => g7.kee a o h (by simp)
  exact w_eqD ((hv5.up s6).up t7) (hv7.up g7.sub) (out_shaped _ _) (q _)
end
end K14

namespace K14
open PySem PySem.Spec PyProof.Rows L2 U MM M LC
def lW : List Wd := [.df "_law_whole" (top 25), .df "_law_cell_at" (top 26), .df "_law_number" (top 27), .df "_law_size" (top 28), .df "_law_group" (top 29), .df "_law_places" (top 30), .df "_law_code" (top 31), .df "_law_goals" (top 32), .df "_law_stretches" (top 33), .df "_law_drawn" (top 34), .df "_law_is" (top 35), .df "_law_goal" (top 36), .df "_law_fault" (top 37), .df "_law_turn" (top 38), .df "_law_two" (top 39), .df "_law_called" (top 40), .df "_law_given" (top 41), .df "_law_plain" (top 42), .df "_law_step" (top 43), .df "_law_gone" (top 44), .df "law" (top 45)]
abbrev ws : List Wd := mW ++ lW
abbrev R : PySem.W.OpenRow := PySem.W.OpenLaw.row PySem.Challenge.rw_unwind_k14_whole_code_by_hand
abbrev hk : PySem.W.Hook := U.hookU 4 (faU ws) (fnU ws) [actT] mX
def ob (s : PySem.W.SharedT) : AlU := U.obsUG 4 (faU ws) (fnU ws) [actT] mX (HandSHeadRun.getT s)
theorem ob_eq (s : PySem.W.SharedT) : ob s = hk.obs s.abs := U.obsU_eq (HandSHeadRun.getT_eq s)
def loose : List Str := (["DEEPEST", "NOUGHT", "DEEP", "reckoned", "Entered", "Machine", "goal_of", "run", "_step", "_put", "_get", "_set", "_say", "_reckon", "_go", "_nought", "_on", "_turn", "_call", "_back", "_raise", "ACTS"] : List Str) ++ (["_law_whole", "_law_cell_at", "_law_number", "_law_size", "_law_group", "_law_places", "_law_code", "_law_goals", "_law_stretches", "_law_drawn", "_law_is", "_law_goal", "_law_fault", "_law_turn", "_law_two", "_law_called", "_law_given", "_law_plain", "_law_step", "_law_gone"] : List Str)
def rP (w : World) : Prop := HandSHeadRun.RunEq R (PySem.W.view R.prog [45]) hk ob 4000 loose w
theorem run_f (w : World) : rP (w.withFollow "special-get-raises" false) := by
  intro os
  kernel_rfl
theorem run_t (w : World) : rP (w.withFollow "special-get-raises" true) := by
  intro os
  kernel_rfl
theorem run (w : World) : HandSHeadRun.RunEq R (PySem.W.view R.prog [45]) hk ob 4000 loose w := PySem.W.byRow2 "special-get-raises" (P := rP) run_f run_t w
end K14
open PySem PySem.W PySem.Calls PyProof.Rows
theorem PySem.Challenge.cw_unwind_k14_whole_code_by_hand_holds : PySem.Challenge.rw_unwind_k14_whole_code_by_hand.Holds := by
  w_on; o_law
  refine HandSHeadRun.head_any (r := OpenLaw.row PySem.Challenge.rw_unwind_k14_whole_code_by_hand) (q := view (OpenLaw.row PySem.Challenge.rw_unwind_k14_whole_code_by_hand).prog [45]) (H := K14.hk) (ob := K14.ob) (M := 4000) (loose := K14.loose) (d := HandSHeadRun.topDef (OpenLaw.row PySem.Challenge.rw_unwind_k14_whole_code_by_hand).prog 45) (kwd := []) K14.ob_eq
    (by kernel_rfl) (fun s => by kernel_rfl) K14.run (by kernel_rfl) (by kernel_rfl) (by kernel_rfl) (by rfl) (by first | assumption | decide +kernel) (by decide +kernel) ⟨rfl, rfl, rfl, rfl, rfl, by decide +kernel⟩ ?hw ?hc
  case hw => w_witness2
  case hc =>
    refine U.walk_u (l := PySem.Challenge.rw_unwind_k14_whole_code_by_hand) (k := 44) (j := 47) (x := "_law_script") (ws := K14.ws) (ts := [M.actT]) (ex := M.mX) (st := M.top 45) rfl (by kernel_rfl) ⟨rfl, by decide, by decide⟩ (by kernel_rfl) rfl (fun _ _ _ _ _ _ us hl => match us, hl with | [_], _ => rfl) ?F
    intro w K mg h base X G c
    have B := U.bi_u X G c
    have hS := (He.ba c.more).1
    have cr := M.run_of X G c c.more (P := (PySem.Challenge.rw_unwind_k14_whole_code_by_hand).prog) (base := base) rfl
    have c0 := LC.ca_cell (P := (PySem.Challenge.rw_unwind_k14_whole_code_by_hand).prog) (w := w) (base := base) B (U.df_u X G c 28)
    have cw := LC.ca_whole (P := (PySem.Challenge.rw_unwind_k14_whole_code_by_hand).prog) (w := w) (base := base) B (U.df_u X G c 27)
    have c1 := K14.ca_size (P := (PySem.Challenge.rw_unwind_k14_whole_code_by_hand).prog) (w := w) (base := base) (U.df_u X G c 30)
    have c2 := K14.ca_group (P := (PySem.Challenge.rw_unwind_k14_whole_code_by_hand).prog) (w := w) (base := base) (U.df_u X G c 31)
    have c3 := K14.ca_places B (U.df_u X G c 32) c1
    have c4 := K14.ca_code B (U.df_u X G c 33) c2
    have c5 := K14.ca_drawn B (U.df_u X G c 36) c0 c3 c4 (K14.ca_goals B (U.df_u X G c 34)) (K14.ca_str B (U.df_u X G c 35))
    have g1 := LM.ca_lgoal (P := (PySem.Challenge.rw_unwind_k14_whole_code_by_hand).prog) (w := w) (base := base) (U.df_u X G c 38)
    have g2 := LM.ca_lfault (U.df_u X G c 39) g1
    have g3 := LM.ca_lturn (P := (PySem.Challenge.rw_unwind_k14_whole_code_by_hand).prog) (w := w) (base := base) (U.df_u X G c 40)
    have g4 := LM.ca_ltwo B hS rfl (U.df_u X G c 41) g2
    have g5 := LM.ca_lcalled B (U.df_u X G c 42) g2 g3
    have g6 := LM.ca_lgiven (P := (PySem.Challenge.rw_unwind_k14_whole_code_by_hand).prog) (w := w) (base := base) (U.df_u X G c 43)
    have g7 := LM.ca_lplain (U.df_u X G c 44) g3
    have g8 := LM.ca_lstep (U.df_u X G c 45) g4 g5 g6 g2 g7
    have g9 := LM.ca_lgone B (U.df_u X G c 46) g8
    exact K14.ok_law B c0 (LC.ca_numb (U.df_u X G c 29)) c5 (K14.ca_is B (U.df_u X G c 37) cw) g9 cr
