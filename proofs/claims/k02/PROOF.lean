import PyProof.Rows.All
import Wide.All
import OpenK.AllK
import Wide.FinOn
import PyProof.EqAt
import PyProof.EqKinds
import PyProof.TupleCall
import HandS.ForMost
import HandS.ForExc
import HandS.IsInst
import HandS.Defaults
import HandS.HeadHook4
import HandS.HeadEnd
import HandS.Head4
import PySem.Challenge.RW_unwind_k02_the_first_stretch
set_option Elab.async false
set_option linter.all false
set_option maxRecDepth 100000
set_option maxHeartbeats 4000000
/-! U0: short steps for readings (own work). -/
namespace U
open PySem L2

/-! ### sizes -/
theorem sz {n : Nat} (h : n ≤ 100000) : n ≤ sizeLine := Nat.le_trans h (by decide)
theorem szlt {n : Nat} (h : n < 100000) : n < sizeLine := Nat.lt_of_lt_of_le h (by decide)
theorem ble {n m : Nat} (h : Nat.ble n m = true) : n ≤ m := Nat.le_of_ble_eq_true h

/-! ### statements -/
section
variable {t u : TS} {nx bk ct : L2.St → Hp → Prop} {rt : VK} {σ : L2.St} {H : Hp} {te ta tb tc : TE} {tt tt2 : TT} {tas : TA} {Q : VK} {QB : Bool → Hp → Prop} {QA : List V → Hp → Prop} {g : TG} {gs : TGs} {i : Nat} {v x y : V} {r : R2} {K : PySem.W.Frag}
theorem w_seq (h : t ⟨u ⟨nx, rt, bk, ct⟩, rt, bk, ct⟩ σ H) : tSeq t u ⟨nx, rt, bk, ct⟩ σ H := h
theorem w_seqN {σ' : L2.St} (e : σ = σ') (h : t ⟨u ⟨nx, rt, bk, ct⟩, rt, bk, ct⟩ σ' H) : tSeq t u ⟨nx, rt, bk, ct⟩ σ H := by subst e; exact h
/-- a choice that is followed by something: it is entered by name ("if"), or by what holds behind it (w_ifJ) -/
def tSeqIf (tt : TT) (t u v : TS) : TS := tSeq (tIfS tt t u) v
theorem w_seqStop {v : TS} {D : Ends} (h : tSeqIf tt t u v D σ H) : tSeq (tIfS tt t u) v D σ H := h
theorem w_seqIf {v : TS} {σ' : L2.St} (e : σ = σ') (h : tt σ' H fun b H1 => if b = true then t ⟨v ⟨nx, rt, bk, ct⟩, rt, bk, ct⟩ σ' H1 else u ⟨v ⟨nx, rt, bk, ct⟩, rt, bk, ct⟩ σ' H1) : tSeqIf tt t u v ⟨nx, rt, bk, ct⟩ σ H := by subst e; exact h
theorem w_ifJ {v : TS} {σ1 : L2.St} (e : σ = σ1) (J : L2.St → Hp → Prop) (h2 : ∀ nx' : L2.St → Hp → Prop, (∀ σ' H', J σ' H' → nx' σ' H') → tt σ1 H fun b H1 => if b = true then t ⟨nx', rt, bk, ct⟩ σ1 H1 else u ⟨nx', rt, bk, ct⟩ σ1 H1)
    (h1 : ∀ σ' H', J σ' H' → v ⟨nx, rt, bk, ct⟩ σ' H') : tSeqIf tt t u v ⟨nx, rt, bk, ct⟩ σ H := by subst e; exact h2 _ h1
theorem w_seqJ {J : L2.St → Hp → Prop} (h2 : ∀ nx' : L2.St → Hp → Prop, (∀ σ' H', J σ' H' → nx' σ' H') → t ⟨nx', rt, bk, ct⟩ σ H) (h1 : ∀ σ' H', J σ' H' → u ⟨nx, rt, bk, ct⟩ σ' H') : tSeq t u ⟨nx, rt, bk, ct⟩ σ H := h2 _ h1
theorem w_start {D : Ends} {σ' : L2.St} (e : σ = σ') (h : t D σ' H) : t D σ H := by subst e; exact h
theorem w_next (h : nx σ H) : tNext ⟨nx, rt, bk, ct⟩ σ H := h
theorem w_break (h : bk σ H) : tBreak ⟨nx, rt, bk, ct⟩ σ H := h
theorem w_cont (h : ct σ H) : tCont ⟨nx, rt, bk, ct⟩ σ H := h
theorem w_drop (h : te σ H fun _ H1 => nx σ H1) : tDrop te ⟨nx, rt, bk, ct⟩ σ H := h
theorem w_ret (h : te σ H rt) : tRet te ⟨nx, rt, bk, ct⟩ σ H := h
theorem w_retN (h : rt .non H) : tRetN ⟨nx, rt, bk, ct⟩ σ H := h
theorem w_ifS (h : tt σ H fun b H1 => if b = true then t ⟨nx, rt, bk, ct⟩ σ H1 else u ⟨nx, rt, bk, ct⟩ σ H1) : tIfS tt t u ⟨nx, rt, bk, ct⟩ σ H := h
theorem w_asgN (h : te σ H fun x H1 => nx (σ.set i (some x)) H1) : tAsg te (gName i) ⟨nx, rt, bk, ct⟩ σ H := h
theorem w_asg (h : te σ H fun x H1 => g x σ H1 nx) : tAsg te g ⟨nx, rt, bk, ct⟩ σ H := h
theorem w_gName {QG : L2.St → Hp → Prop} (h : QG (σ.set i (some v)) H) : gName i v σ H QG := h
theorem w_gNil {QG : L2.St → Hp → Prop} (h : QG σ H) : gNil [] σ H QG := ⟨rfl, h⟩
theorem w_gCons {QG : L2.St → Hp → Prop} {vs : List V} (h : g v σ H fun σ' H' => gs vs σ' H' QG) : gCons g gs (v :: vs) σ H QG := ⟨v, vs, rfl, h⟩
theorem w_gTup {QG : L2.St → Hp → Prop} {n : Nat} {a : Addr} {xs : List V} (ha : SqT K H a xs) (hn : xs.length = n) (h : gs xs σ H QG) : gTup K n gs (.ref a) σ H QG := ⟨a, xs, rfl, ha, hn, h⟩
theorem w_gSub {QG : L2.St → Hp → Prop} {ts : TSet} (h : ta σ H fun o H1 => tb σ H1 fun i H2 => ts o i v H2 fun H3 => QG σ H3) : gSub ta tb ts v σ H QG := h
theorem w_setL {a : Addr} {xs : List V} {k : Int} {j : Nat} {QH : Hp → Prop} (ha : H a = some (.lst xs)) (hk : ixN xs.length k = some j) (h : QH (upd H a (.lst (xs.set j v)))) : rSetL (.ref a) (.int k) v H QH := ⟨a, xs, k, j, rfl, rfl, ha, hk, h⟩

/-! ### expressions -/
theorem w_var (e : σ[i]? = some (some v)) (h : Q v H) : tVar i σ H Q := ⟨v, e, h⟩
theorem w_c (h : Q v H) : tC v σ H Q := h
theorem w_op (h : ta σ H fun x H1 => tb σ H1 fun y H2 => r x y H2 Q) : tOp r ta tb σ H Q := h
theorem w_un {r : V → Hp → VK → Prop} (h : ta σ H fun x H1 => r x H1 Q) : tUn r ta σ H Q := h
theorem w_rI0 {g : Int → Int → V} {i j : Int} (h : Q (g i j) H) : rI0 g (.int i) (.int j) H Q := ⟨i, j, rfl, rfl, h⟩
theorem w_rI {C : Int → Int → Prop} {g : Int → Int → V} {i j : Int} (c : C i j) (h : Q (g i j) H) : rI C g (.int i) (.int j) H Q := ⟨i, j, rfl, rfl, c, h⟩
theorem w_rU {g : Int → V} {i : Int} (h : Q (g i) H) : rU g (.int i) H Q := ⟨i, rfl, h⟩
theorem w_eqI {i j : Int} (h : Q (.bl (decide (i = j))) H) : rEq (.int i) (.int j) H Q := ⟨rfl, by
  have e : decide (V.int i = V.int j) = decide (i = j) := by
    by_cases c : i = j
    · rw [decide_eq_true c, decide_eq_true (by rw [c])]
    · rw [decide_eq_false c, decide_eq_false (fun q => c (V.int.inj q))]
  rw [e]; exact h⟩
theorem w_neI {i j : Int} (h : Q (.bl (!decide (i = j))) H) : rNe (.int i) (.int j) H Q := ⟨rfl, by
  have e : decide (V.int i = V.int j) = decide (i = j) := by
    by_cases c : i = j
    · rw [decide_eq_true c, decide_eq_true (by rw [c])]
    · rw [decide_eq_false c, decide_eq_false (fun q => c (V.int.inj q))]
  rw [e]; exact h⟩
theorem w_eqT (s : scal x x = true) (h : Q (.bl true) H) : rEq x x H Q := ⟨s, by rw [decide_eq_true rfl]; exact h⟩
theorem w_eqF (s : scal x y = true) (n : decide (x = y) = false) (h : Q (.bl false) H) : rEq x y H Q := ⟨s, by rw [n]; exact h⟩
theorem w_neT (s : scal x x = true) (h : Q (.bl false) H) : rNe x x H Q := ⟨s, by rw [decide_eq_true rfl]; exact h⟩
theorem w_neF (s : scal x y = true) (n : decide (x = y) = false) (h : Q (.bl true) H) : rNe x y H Q := ⟨s, by rw [n]; exact h⟩
theorem w_chain {r r' : R2} (h : ta σ H fun x H1 => tb σ H1 fun y H2 => r x y H2 fun z H3 => ∃ k, z = .bl k ∧ (if k = true then tc σ H3 fun w' H4 => r' y w' H4 Q else Q (.bl false) H3)) : tChain r r' ta tb tc σ H Q := h
theorem w_tup (h : tas σ H fun xs H1 => xs.length ≤ sizeLine ∧ ∀ p, H1 p = none → Q (.ref p) (upd H1 p (.tup xs))) : tTup tas σ H Q := h
theorem w_lst (h : tas σ H fun xs H1 => xs.length ≤ sizeLine ∧ ∀ p, H1 p = none → Q (.ref p) (upd H1 p (.lst xs))) : tLst tas σ H Q := h
theorem w_size {n m : Nat} {A : Prop} (e : Nat.ble n m = true) (h : A) : n ≤ m ∧ A := ⟨ble e, h⟩
theorem w_nil (h : QA [] H) : tNil σ H QA := h
theorem w_cons (h : te σ H fun x H1 => tas σ H1 fun xs H2 => QA (x :: xs) H2) : tCons te tas σ H QA := h
theorem w_call {sp : Sp} {dvs : List V} {E : XK} (h : tas σ H fun vs H1 => sp (vs ++ dvs) H1 Q E) : tCall sp dvs E tas σ H Q := h
theorem w_cb {r : List V → Hp → VK → Prop} (h : tas σ H fun vs H1 => r vs H1 Q) : tCB r tas σ H Q := h
theorem w_fld {f : Str} {a C dx : Addr} {fs : List (Str × V)} (h : te σ H fun x H1 => ∃ a C dx fs v, x = .ref a ∧ H1 a = some (.ins C dx fs) ∧ Cls K C ∧ NoAttr K C f ∧ fs.lookup f = some v ∧ Q v H1) : tFld K te f σ H Q := h
theorem w_fldE {f : Str} {a C dx : Addr} {fs : List (Str × V)} {v : V} (ha : H a = some (.ins C dx fs)) (c : Cls K C) (n : NoAttr K C f) (l : fs.lookup f = some v) (h : Q v H) :
    ∃ a' C dx fs v', V.ref a = .ref a' ∧ H a' = some (.ins C dx fs) ∧ Cls K C ∧ NoAttr K C f ∧ fs.lookup f = some v' ∧ Q v' H := ⟨a, C, dx, fs, v, rfl, ha, c, n, l, h⟩
theorem w_bm {T : String} {r : V → List V → Hp → VK → Prop} (h : te σ H fun x H1 => tyV K T x H1 ∧ tas σ H1 fun xs H2 => r x xs H2 Q) : tBM K T r te tas σ H Q := h
theorem w_bm0 {T : String} {r : V → List V → Hp → VK → Prop} (h : te σ H fun x H1 => tyV K T x H1 ∧ r x [] H1 Q) : tBM0 K T r te σ H Q := h
theorem w_tyL {a : Addr} {xs : List V} {A : Prop} (ha : H a = some (.lst xs)) (h : A) : tyV K "list" (.ref a) H ∧ A := ⟨.inl ⟨rfl, _, SqL.of ha⟩, h⟩
theorem w_append {a : Addr} {xs : List V} (ha : H a = some (.lst xs)) (hl : xs.length < sizeLine) (h : Q .non (upd H a (.lst (xs ++ [y])))) : rAppend (.ref a) [y] H Q := ⟨a, xs, y, rfl, rfl, ha, hl, h⟩
theorem w_pop {a : Addr} {xs : List V} (ha : H a = some (.lst (xs ++ [y]))) (h : Q y (upd H a (.lst xs))) : rPop (.ref a) [] H Q := ⟨a, xs ++ [y], y, rfl, rfl, ha, by simp, by rw [List.dropLast_concat]; exact h⟩
theorem w_ixL {a : Addr} {xs : List V} {i : Int} (ha : SqL K H a xs) (hi : atI xs i = some v) (h : Q v H) : rIxL K (.ref a) (.int i) H Q := ⟨a, xs, i, v, rfl, rfl, ha, hi, h⟩
theorem w_ixT {a : Addr} {xs : List V} {i : Int} (ha : SqT K H a xs) (hi : atI xs i = some v) (h : Q v H) : rIxT K (.ref a) (.int i) H Q := ⟨a, xs, i, v, rfl, rfl, ha, hi, h⟩
theorem w_sl {r : V → Option Int → Option Int → Hp → VK → Prop} {tl th : TO} (h : te σ H fun x H1 => tl σ H1 fun l H2 => th σ H2 fun u H3 => r x l u H3 Q) : tSl r te tl th σ H Q := h
theorem w_noPart {QO : Option Int → Hp → Prop} (h : QO none H) : tNoPart σ H QO := h
theorem w_part {QO : Option Int → Hp → Prop} (h : te σ H fun x H1 => ∃ i, x = .int i ∧ QO (some i) H1) : tPart te σ H QO := h
theorem w_partE {P : Int → Prop} {i : Int} (h : P i) : ∃ j, V.int i = .int j ∧ P j := ⟨i, rfl, h⟩
theorem w_slL {a : Addr} {xs : List V} {lo hi : Option Int} (ha : SqL K H a xs) (h : ∀ p, H p = none → Q (.ref p) (upd H p (.lst (cutV xs lo hi)))) : rSlL K (.ref a) lo hi H Q := ⟨a, xs, rfl, ha, h⟩
theorem w_nn {A : Prop} (h : A) : V.non = V.non ∧ A := ⟨rfl, h⟩
theorem w_ttt {A : Prop} (h : A) : true = true ∧ A := ⟨rfl, h⟩
/-! ### tests -/
theorem w_test (h : te σ H fun x H' => ∃ k, x = .bl k ∧ QB k H') : tTest te σ H QB := h
theorem w_tB (h : te σ H fun x H' => ∃ k, x = .bl k ∧ QB k H') : tB te σ H QB := h
theorem w_bl {c : Bool} {P : Bool → Prop} (h : P c) : ∃ k, V.bl c = .bl k ∧ P k := ⟨c, rfl, h⟩
theorem w_and (h : tt σ H fun c H1 => if c = true then tt2 σ H1 QB else QB false H1) : tAnd tt tt2 σ H QB := h
theorem w_or (h : tt σ H fun c H1 => if c = true then QB true H1 else tt2 σ H1 QB) : tOr tt tt2 σ H QB := h
theorem w_not (h : tt σ H fun c H1 => QB (!c) H1) : tNot tt σ H QB := h
theorem w_andV (h : ta σ H fun x H1 => ∃ c, x = .bl c ∧ if c = true then tb σ H1 Q else Q (.bl false) H1) : tAndV ta tb σ H Q := h
theorem w_orV (h : ta σ H fun x H1 => ∃ c, x = .bl c ∧ if c = true then Q (.bl true) H1 else tb σ H1 Q) : tOrV ta tb σ H Q := h
theorem w_notV (h : ta σ H fun x H1 => ∃ c, x = .bl c ∧ Q (.bl (!c)) H1) : tNotV ta σ H Q := h
theorem w_ifE (h : tt σ H fun c H1 => if c = true then ta σ H1 Q else tb σ H1 Q) : tIf tt ta tb σ H Q := h
theorem w_itT {A B : Prop} (h : A) : if true = true then A else B := by rw [if_pos rfl]; exact h
theorem w_itF {A B : Prop} (h : B) : if false = true then A else B := by rw [if_neg Bool.false_ne_true]; exact h
theorem w_itNT {A B : Prop} (h : B) : if (!true) = true then A else B := by rw [if_neg (by decide)]; exact h
theorem w_itNF {A B : Prop} (h : A) : if (!false) = true then A else B := by rw [if_pos (by decide)]; exact h
theorem it_pos {c : Prop} [Decidable c] {A B : Prop} (hc : c) (h : A) : if decide c = true then A else B := by rw [if_pos (decide_eq_true hc)]; exact h
theorem it_neg {c : Prop} [Decidable c] {A B : Prop} (hc : ¬ c) (h : B) : if decide c = true then A else B := by rw [if_neg (by rw [decide_eq_false hc]; exact Bool.false_ne_true)]; exact h
theorem it_cases {c : Prop} [Decidable c] {A B : Prop} (h1 : c → A) (h2 : ¬ c → B) : if decide c = true then A else B := by
  by_cases h : c
  · exact it_pos h (h1 h)
  · exact it_neg h (h2 h)
theorem itn_pos {c : Prop} [Decidable c] {A B : Prop} (hc : c) (h : B) : if (!decide c) = true then A else B := by rw [if_neg (by rw [decide_eq_true hc]; decide)]; exact h
theorem itn_neg {c : Prop} [Decidable c] {A B : Prop} (hc : ¬ c) (h : A) : if (!decide c) = true then A else B := by rw [if_pos (by rw [decide_eq_false hc]; decide)]; exact h
theorem itn_cases {c : Prop} [Decidable c] {A B : Prop} (h1 : c → B) (h2 : ¬ c → A) : if (!decide c) = true then A else B := by
  by_cases h : c
  · exact itn_pos h (h1 h)
  · exact itn_neg h (h2 h)
theorem isN_T : decide (V.non = V.non) = true := rfl
end
/-! ### heaps -/
/-- all but what stands at W stays -/
def Kp (W : List Addr) (H H' : Hp) : Prop := ∀ a o, H a = some o → a ∉ W → H' a = some o
theorem Kp.refl {W : List Addr} (H : Hp) : Kp W H H := fun _ _ h _ => h
theorem Kp.trans {W : List Addr} {H H1 H2 : Hp} (a : Kp W H H1) (b : Kp W H1 H2) : Kp W H H2 := fun c o h n => b c o (a c o h n) n
theorem Kp.same {W : List Addr} {H H' : Hp} (h : Same H H') : Kp W H H' := fun a o e _ => h a o e
theorem Kp.to_same {H H' : Hp} (h : Kp [] H H') : Same H H' := fun a o e => h a o e (by simp)
theorem same_new {H : Hp} {p : Addr} (h : H p = none) (o : HO) : Same H (upd H p o) := fun b u q => by rw [upd_ne (ne_of_none q h)]; exact q
theorem same_new2 {H H' : Hp} {p : Addr} (s : Same H H') (h : H' p = none) (o : HO) : Same H (upd H' p o) := s.trans (same_new h o)
theorem same_mut {H H' : Hp} {p : Addr} (s : Same H H') (h : H p = none) (o : HO) : Same H (upd H' p o) := fun b u q => by rw [upd_ne (ne_of_none q h)]; exact s b u q
end U

/-! U1: rules of one's own for calls by contract, isinstance, subscripts (own work). -/
namespace U
open PySem PySem.Spec PyProof.Rows L2

/-- the built-in names that the top leaves alone -/
structure Bi (mg : Str → Option Value) : Prop where
  len : mg "len" = none
  range : mg "range" = none
  list : mg "list" = none
  isinstance : mg "isinstance" = none
  int : mg "int" = none
  bool : mg "bool" = none
  str : mg "str" = none
  tuple : mg "tuple" = none
  enumerate : mg "enumerate" = none
  zip : mg "zip" = none
  min : mg "min" = none
  max : mg "max" = none
  sum : mg "sum" = none
  reversed : mg "reversed" = none

/-- a def that may be called by the name x -/
structure Ca (P : Program) (w : World) (K : PySem.W.Frag) (mg : Str → Option Value) (base : Heap) (CX : CXT) (k : Nat) (x : Str) (sp : Sp) : Prop where
  ex : ∃ f fd ps, FnOk P w K mg base CX k f fd ps sp ∧ mg x = some (.ref f) ∧ PySem.W.keepIn K (.ref f) = true ∧ Binds K fd ps []
section
variable {X : Cx} {CX : CXT} {k j : Nat} {x : Str} {sp : Sp} {E : XK} {p pos : Pos} {e : Expr} {es : List Expr} {t : TA}
theorem pe_ca (c : Ca X.prog X.w X.K X.mg X.base CX k x sp) (hr : Room j X.A) (hk : k ≤ j) (hg : Gl X x) (hx : Passes CX X E) (ha : PA X (e :: es) t) (hdb : (x == ("__debug__" : Str)) = false := by decide)
    (he : starEach (e :: es) X.env = (false, eval e X.env) :: starEach es X.env := by rfl) (hpl : (backTo pos (starEach es X.env)).any (·.1) = false := by rfl) : PE X (.Call (.Name x p) (e :: es) [] pos) (tCall sp [] E t) := by
  refine ⟨fun pins s σ H Q I h => ?_⟩
  obtain ⟨f, fd, ps, F, hm, kp, hb⟩ := c.ex
  exact (pe_call (dvs := []) F (hr.mono hk) hg hm kp hb .nil hx ha hdb he hpl).run pins s σ H Q I h
theorem pe_gi {i : Int} (hg : Gl X x) (hm : ∃ t, X.mg x = some (.int i t)) (hd : (x == ("__debug__" : Str)) = false := by decide) : PE X (.Name x pos) (tC (.int i)) := by
  obtain ⟨t, hm⟩ := hm
  exact pe_glob hg hm ⟨_, rfl⟩ hd
end
theorem Ca.mono {P : Program} {w : World} {K : PySem.W.Frag} {mg : Str → Option Value} {base : Heap} {CX : CXT} {j k : Nat} {x : Str} {sp : Sp} (c : Ca P w K mg base CX j x sp) (h : j ≤ k) : Ca P w K mg base CX k x sp := by
  obtain ⟨f, fd, ps, F, r⟩ := c.ex
  exact ⟨f, fd, ps, F.mono h, r⟩
theorem Ca.imp {P : Program} {w : World} {K : PySem.W.Frag} {mg : Str → Option Value} {base : Heap} {CX : CXT} {k : Nat} {x : Str} {sp sp' : Sp} (c : Ca P w K mg base CX k x sp) (h : ∀ vs H Q E, sp' vs H Q E → sp vs H Q E) : Ca P w K mg base CX k x sp' := by
  obtain ⟨f, fd, ps, F, r⟩ := c.ex
  exact ⟨f, fd, ps, F.imp h, r⟩

theorem cxk {CX : CXT} {P : Program} {w : World} {K : PySem.W.Frag} {mg : Str → Option Value} {base : Heap} {N : List Str} {qual : Str} {scope : Scope} {f : Addr} {cd : Value} {A : Around} {outer : List Env} {s : Shared} {H : Hp} {E : XK} :
    (cxOf CX P w K mg base N qual scope f cd A outer s H E).K = K := rfl
theorem cxkn {CX : CXT} {P : Program} {w : World} {K : PySem.W.Frag} {mg : Str → Option Value} {base : Heap} {N : List Str} {qual : Str} {scope : Scope} {f : Addr} {cd : Value} {A : Around} {outer : List Env} {s : Shared} {H : Hp} {E : XK} :
    (cxOf CX P w K mg base N qual scope f cd A outer s H E).nox.K = K := rfl
/-- a def of the top, as it stands behind the top -/
structure Df (K : PySem.W.Frag) (mg : Str → Option Value) (x : Str) (st : Stmt) : Prop where
  ex : ∃ f fd, FunD K x x (defArgs st) (defBody st) (defScope st) [] [] f fd ∧ mg x = some (.ref f)
section
variable {P : Program} {w : World} {K : PySem.W.Frag} {mg : Str → Option Value} {base : Heap} {x : Str} {st : Stmt} {N ps : List Str} {k : Nat} {sp : Sp}
/-- THE RULE for a def that lets nothing out -/
theorem Df.ca0 (D : Df K mg x st) (S : FnScope N ps (defScope st))
    (bd : ∀ (kV doc pm : Value) (an : Option Addr) (cdv ct : Value) (us : List Value), us.length = ps.length → bindArgs (PySem.W.fnOf x x (defArgs st) (defBody st) (defScope st) .none kV doc pm an cdv ct) ⟨us, []⟩ = pure (ps.zip us))
    (len : ∀ vs H Q E, sp vs H Q E → vs.length = ps.length)
    (hbody : ∀ (f : Addr) (cdv : Value) (A : Around) (outer : List Env) (s : Shared) (H : Hp) (vs : List V) (Q : VK) (E : XK), Room k (A.deeper (envOfC x (defScope st) s.heap.objs.size f cdv)) → sp vs H Q E →
      ∃ t, PSs (cxOf CX0 P w K mg base N x (defScope st) f cdv A outer s H E).nox (defBody st) t ∧ t { nx := fun _ H' => Q .non H', rt := Q } (start N vs) H) : Ca P w K mg base CX0 (k + 1) x sp := by
  obtain ⟨f, fd, F, hm⟩ := D.ex
  refine ⟨f, fd, ps, F.ok S len fun cdv A outer s H vs Q E hr h => ?_, hm, F.kp, F.bindsN bd⟩
  obtain ⟨t, h1, h2⟩ := hbody f cdv A outer s H vs Q E hr h
  exact ⟨t, h1.nox, h2⟩
/-- .. for one that may let exceptions out -/
theorem Df.caX {CX : CXT} (D : Df K mg x st) (S : FnScope N ps (defScope st))
    (bd : ∀ (kV doc pm : Value) (an : Option Addr) (cdv ct : Value) (us : List Value), us.length = ps.length → bindArgs (PySem.W.fnOf x x (defArgs st) (defBody st) (defScope st) .none kV doc pm an cdv ct) ⟨us, []⟩ = pure (ps.zip us))
    (len : ∀ vs H Q E, sp vs H Q E → vs.length = ps.length)
    (hbody : ∀ (f : Addr) (cdv : Value) (A : Around) (outer : List Env) (s : Shared) (H : Hp) (vs : List V) (Q : VK) (E : XK), Room k (A.deeper (envOfC x (defScope st) s.heap.objs.size f cdv)) → sp vs H Q E →
      ∃ t, PSs (cxOf CX P w K mg base N x (defScope st) f cdv A outer s H E) (defBody st) t ∧ t { nx := fun _ H' => Q .non H', rt := Q } (start N vs) H) : Ca P w K mg base CX (k + 1) x sp := by
  obtain ⟨f, fd, F, hm⟩ := D.ex
  exact ⟨f, fd, ps, F.ok S len fun cdv A outer s H vs Q E hr h => hbody f cdv A outer s H vs Q E hr h, hm, F.kp, F.bindsN bd⟩
end

/-! ### isinstance(e, T), T a built-in class by its name -/
def rIsiN (K : PySem.W.Frag) : List V → Hp → VK → Prop := fun xs H Q => ∃ (x : V) (n t : String) (b : Bool), xs = [x, .ty n] ∧ TyX K H x (.type t) ∧ kitB t n = some b ∧ Q (.bl b) H
theorem call_isiN {X : Cx} : CallR X (.builtin "isinstance") (rIsiN X.K) := fun pins s σ H xs us Q I r h => by
  obtain ⟨x, n, t, b, e, ty, k, q⟩ := h
  exact call_isi pins s σ H xs us Q I r ⟨x, .ty n, .type t, .type n, b, e, .ty n, ty, kit_ty k, q⟩
theorem w_isi {K : PySem.W.Frag} {x : V} {n t : String} {b : Bool} {H : Hp} {Q : VK} (ty : TyX K H x (.type t)) (k : kitB t n = some b) (h : Q (.bl b) H) : rIsiN K [x, .ty n] H Q := ⟨x, n, t, b, rfl, ty, k, h⟩
theorem tyx_int {K : PySem.W.Frag} {H : Hp} {i : Int} : TyX K H (.int i) (.type "int") := .base (.int i)
theorem tyx_non {K : PySem.W.Frag} {H : Hp} : TyX K H .non (.type "NoneType") := .base .non
theorem tyx_str {K : PySem.W.Frag} {H : Hp} {i : Str} : TyX K H (.str i) (.type "str") := .base (.str i)
theorem tyx_bl {K : PySem.W.Frag} {H : Hp} {i : Bool} : TyX K H (.bl i) (.type "bool") := .base (.bl i)
theorem tyx_sqL {K : PySem.W.Frag} {H : Hp} {a : Addr} {xs : List V} (h : SqL K H a xs) : TyX K H (.ref a) (.type "list") := by
  rcases h with (h | ⟨o, h⟩) | ⟨o, its, n, h, c, _⟩
  · exact .base (.lst h)
  · exact .base (.frz h)
  · exact .kList h c
theorem tyx_sqT {K : PySem.W.Frag} {H : Hp} {a : Addr} {xs : List V} (h : SqT K H a xs) : TyX K H (.ref a) (.type "tuple") := by
  rcases h with (h | ⟨o, h⟩) | ⟨o, its, n, h, c, _⟩
  · exact .base (.tup h)
  · exact .fTuple h
  · exact .kTuple h c
section
variable {K : PySem.W.Frag} {H : Hp} {Q : VK} {a : Addr} {xs : List V} {i : Int} {z : Str}
theorem k_ii : kitB "int" "int" = some true := by decide +kernel
theorem k_ib : kitB "int" "bool" = some false := by decide +kernel
theorem k_it : kitB "int" "tuple" = some false := by decide +kernel
theorem k_il : kitB "int" "list" = some false := by decide +kernel
theorem k_tt : kitB "tuple" "tuple" = some true := by decide +kernel
theorem k_tl : kitB "tuple" "list" = some false := by decide +kernel
theorem k_lt : kitB "list" "tuple" = some false := by decide +kernel
theorem k_ll : kitB "list" "list" = some true := by decide +kernel
theorem k_ss : kitB "str" "str" = some true := by decide +kernel
theorem k_st : kitB "str" "tuple" = some false := by decide +kernel
theorem k_sl : kitB "str" "list" = some false := by decide +kernel
theorem k_nt : kitB "NoneType" "tuple" = some false := by decide +kernel
theorem k_nl : kitB "NoneType" "list" = some false := by decide +kernel
theorem k_ni : kitB "NoneType" "int" = some false := by decide +kernel
theorem w_isi_ii (h : Q (.bl true) H) : rIsiN K [.int i, .ty "int"] H Q := w_isi tyx_int k_ii h
theorem w_isi_ib (h : Q (.bl false) H) : rIsiN K [.int i, .ty "bool"] H Q := w_isi tyx_int k_ib h
theorem w_isi_it (h : Q (.bl false) H) : rIsiN K [.int i, .ty "tuple"] H Q := w_isi tyx_int k_it h
theorem w_isi_il (h : Q (.bl false) H) : rIsiN K [.int i, .ty "list"] H Q := w_isi tyx_int k_il h
theorem w_isi_ss (h : Q (.bl true) H) : rIsiN K [.str z, .ty "str"] H Q := w_isi tyx_str k_ss h
theorem w_isi_st (h : Q (.bl false) H) : rIsiN K [.str z, .ty "tuple"] H Q := w_isi tyx_str k_st h
theorem w_isi_sl (h : Q (.bl false) H) : rIsiN K [.str z, .ty "list"] H Q := w_isi tyx_str k_sl h
theorem w_isi_nt (h : Q (.bl false) H) : rIsiN K [.non, .ty "tuple"] H Q := w_isi tyx_non k_nt h
theorem w_isi_nl (h : Q (.bl false) H) : rIsiN K [.non, .ty "list"] H Q := w_isi tyx_non k_nl h
theorem w_isi_ni (h : Q (.bl false) H) : rIsiN K [.non, .ty "int"] H Q := w_isi tyx_non k_ni h
theorem w_isi_tt (s : SqT K H a xs) (h : Q (.bl true) H) : rIsiN K [.ref a, .ty "tuple"] H Q := w_isi (tyx_sqT s) k_tt h
theorem w_isi_lt (s : SqL K H a xs) (h : Q (.bl false) H) : rIsiN K [.ref a, .ty "tuple"] H Q := w_isi (tyx_sqL s) k_lt h
theorem w_isi_ll (s : SqL K H a xs) (h : Q (.bl true) H) : rIsiN K [.ref a, .ty "list"] H Q := w_isi (tyx_sqL s) k_ll h
theorem w_isi_tl (s : SqT K H a xs) (h : Q (.bl false) H) : rIsiN K [.ref a, .ty "list"] H Q := w_isi (tyx_sqT s) k_tl h
end
/-! ### named readings -/
section
variable {X : Cx} {K : PySem.W.Frag} {H : Hp} {Q : VK} {a : Addr} {xs : List V} {i j : Int} {v : V}
def rLenA (K : PySem.W.Frag) : List V → Hp → VK → Prop := fun xs H Q => ∃ p ys, xs = [V.ref p] ∧ (SqL K H p ys ∨ SqT K H p ys) ∧ Q (.int (ys.length : Nat)) H
theorem call_lenA : CallR X (.builtin "len") (rLenA X.K) := call_len_seq
theorem w_lenL (ha : SqL K H a xs) (h : Q (.int (xs.length : Nat)) H) : rLenA K [.ref a] H Q := ⟨a, xs, rfl, .inl ha, h⟩
theorem w_lenT (ha : SqT K H a xs) (h : Q (.int (xs.length : Nat)) H) : rLenA K [.ref a] H Q := ⟨a, xs, rfl, .inr ha, h⟩
def rListA (K : PySem.W.Frag) : List V → Hp → VK → Prop := fun xs H Q => ∃ p ys, xs = [V.ref p] ∧ (SqL K H p ys ∨ SqT K H p ys) ∧ ∀ l, H l = none → Q (.ref l) (upd H l (.lst ys))
theorem call_listA : CallR X (.type "list") (rListA X.K) := call_list_of
theorem w_listL (ha : SqL K H a xs) (h : ∀ l, H l = none → Q (.ref l) (upd H l (.lst xs))) : rListA K [.ref a] H Q := ⟨a, xs, rfl, .inl ha, h⟩
def rTupA (K : PySem.W.Frag) : List V → Hp → VK → Prop := fun xs H Q => ∃ p ys, xs = [V.ref p] ∧ ((SqL K H p ys ∧ ∀ l, H l = none → Q (.ref l) (upd H l (.tup ys))) ∨ (SqT K H p ys ∧ Q (.ref p) H))
theorem call_tupA : CallR X (.type "tuple") (rTupA X.K) := call_tuple_of
theorem w_tupL (ha : SqL K H a xs) (h : ∀ l, H l = none → Q (.ref l) (upd H l (.tup xs))) : rTupA K [.ref a] H Q := ⟨a, xs, rfl, .inl ⟨ha, h⟩⟩
def rIntA : List V → Hp → VK → Prop := fun xs H Q => (∃ i, xs = [V.int i] ∧ Q (.int i) H) ∨ ∃ k, xs = [V.bl k] ∧ Q (.int (if k then 1 else 0)) H
theorem call_intA : CallR X (.type "int") rIntA := call_int1
theorem w_intI (h : Q (.int i) H) : rIntA [.int i] H Q := .inl ⟨i, rfl, h⟩
theorem w_intB {k : Bool} (h : Q (.int (if k then 1 else 0)) H) : rIntA [.bl k] H Q := .inr ⟨k, rfl, h⟩
def rMin2 : List V → Hp → VK → Prop := fun xs H Q => ∃ i j, xs = [V.int i, V.int j] ∧ Q (.int (if j < i then j else i)) H
theorem call_minA (hc : X.calm = true) : CallR X (.builtin "min") rMin2 := call_min2 hc
theorem w_min (h : Q (.int (if j < i then j else i)) H) : rMin2 [.int i, .int j] H Q := ⟨i, j, rfl, h⟩
def rMax2 : List V → Hp → VK → Prop := fun xs H Q => ∃ i j, xs = [V.int i, V.int j] ∧ Q (.int (if j > i then j else i)) H
theorem call_maxA (hc : X.calm = true) : CallR X (.builtin "max") rMax2 := call_max2 hc
theorem w_max (h : Q (.int (if j > i then j else i)) H) : rMax2 [.int i, .int j] H Q := ⟨i, j, rfl, h⟩
def rIsNo : R2 := fun x y H Q => y = .non ∧ Q (.bl (decide (x = .non))) H
theorem op_isNo : OpR X (compareOp .Is) rIsNo := op_isN
theorem w_isNoT (h : Q (.bl true) H) : rIsNo .non .non H Q := ⟨rfl, h⟩
theorem w_isNoI (h : Q (.bl false) H) : rIsNo (.int i) .non H Q := ⟨rfl, h⟩
theorem w_isNoR (h : Q (.bl false) H) : rIsNo (.ref a) .non H Q := ⟨rfl, h⟩
def rNotNo : R2 := fun x y H Q => y = .non ∧ Q (.bl (!decide (x = .non))) H
theorem op_notNo : OpR X (compareOp .IsNot) rNotNo := op_notN
theorem w_notNoT (h : Q (.bl false) H) : rNotNo .non .non H Q := ⟨rfl, h⟩
theorem w_notNoI (h : Q (.bl true) H) : rNotNo (.int i) .non H Q := ⟨rfl, h⟩
theorem w_notNoR (h : Q (.bl true) H) : rNotNo (.ref a) .non H Q := ⟨rfl, h⟩
end
/-! ### subscripts of lists and tuples -/
def rIxLT (K : PySem.W.Frag) : R2 := fun x y H Q => rIxL K x y H Q ∨ rIxT K x y H Q
theorem ix_lt {X : Cx} : IxR X (rIxLT X.K) := ix_list.or ix_tup
theorem w_ixLL {K : PySem.W.Frag} {H : Hp} {Q : VK} {a : Addr} {xs : List V} {i : Int} {v : V} (ha : SqL K H a xs) (hi : atI xs i = some v) (h : Q v H) : rIxLT K (.ref a) (.int i) H Q := .inl ⟨a, xs, i, v, rfl, rfl, ha, hi, h⟩
theorem w_ixTT {K : PySem.W.Frag} {H : Hp} {Q : VK} {a : Addr} {xs : List V} {i : Int} {v : V} (ha : SqT K H a xs) (hi : atI xs i = some v) (h : Q v H) : rIxLT K (.ref a) (.int i) H Q := .inr ⟨a, xs, i, v, rfl, rfl, ha, hi, h⟩
/-! ### loops -/
/-- what a for over J wants -/
def ForB (J : It) (g : TG) (tb : TS) (nx : L2.St → Hp → Prop) (rt : VK) (σ : L2.St) (H : Hp) : Prop := ∃ W : Nat → Nat → L2.St → Hp → Prop, (∃ m, W 0 m σ H) ∧ ∀ i m σ H, W i m σ H →
  (J.stop i H ∧ nx σ H) ∨ (J.go i H ∧ ∃ N : L2.St → Hp → Prop, (∀ σ' H', N σ' H' → ∃ m', m' < m ∧ W (i + 1) m' σ' H') ∧ ∀ x H', J.yld i H x H' → g x σ H' fun σ2 H2 => tb ⟨N, rt, nx, N⟩ σ2 H2)
def ItL (K : PySem.W.Frag) (R : It → Hp → Prop) (x : V) (H1 : Hp) : Prop := ∃ a, x = .ref a ∧ (∃ xs, SqL K H1 a xs) ∧ R (Itl K a) H1
def ItT (K : PySem.W.Frag) (R : It → Hp → Prop) (x : V) (H1 : Hp) : Prop := ∃ a, x = .ref a ∧ (∃ xs, SqT K H1 a xs) ∧ R (Itt K a) H1
def ItR1 (R : It → Hp → Prop) (vs : List V) (H1 : Hp) : Prop := ∃ j : Int, vs = [.int j] ∧ -(2 ^ 62) ≤ j ∧ j < 2 ^ 62 ∧ R (Itr 0 j.toNat) H1
def ItR2 (R : It → Hp → Prop) (vs : List V) (H1 : Hp) : Prop := ∃ i j : Int, vs = [.int i, .int j] ∧ (-(2 ^ 62) ≤ i ∧ i < 2 ^ 62 ∧ -(2 ^ 62) ≤ j ∧ j < 2 ^ 62) ∧ R (Itr i (j - i).toNat) H1
section
variable {K : PySem.W.Frag} {wi : TI} {g : TG} {tb : TS} {nx bk ct : L2.St → Hp → Prop} {rt : VK} {σ : L2.St} {H : Hp} {te : TE} {ta : TA} {R : It → Hp → Prop} {a : Addr} {xs : List V} {tt : TT} {vs : List Nat}
theorem w_for (h : wi σ H fun J H1 => ForB J g tb nx rt σ H1) : tFor wi g tb ⟨nx, rt, bk, ct⟩ σ H := h
theorem w_iL (h : te σ H fun x H1 => ItL K R x H1) : iList K te σ H R := h
theorem w_iT (h : te σ H fun x H1 => ItT K R x H1) : iTup K te σ H R := h
theorem w_iR1 (h : ta σ H fun vs H1 => ItR1 R vs H1) : iRng1 ta σ H R := h
theorem w_iR2 (h : ta σ H fun vs H1 => ItR2 R vs H1) : iRng2 ta σ H R := h
theorem for_L (Pv : Nat → L2.St → Hp → Prop) (hS : SqL K H a xs) (h0 : Pv 0 σ H) (hl : ∀ i σ H, i ≤ xs.length → Pv i σ H → SqL K H a xs)
    (hs : ∀ i x σ H, xs[i]? = some x → Pv i σ H → g x σ H fun σ2 H2 => tb ⟨Pv (i + 1), rt, nx, Pv (i + 1)⟩ σ2 H2) (hd : ∀ σ H, Pv xs.length σ H → nx σ H) :
    ItL K (fun J H1 => ForB J g tb nx rt σ H1) (.ref a) H :=
  ⟨a, rfl, ⟨xs, hS⟩, for_list (D := ⟨nx, rt, nx, nx⟩) Pv h0 hl hs hd⟩
theorem for_T (Pv : Nat → L2.St → Hp → Prop) (hS : SqT K H a xs) (h0 : Pv 0 σ H) (hl : ∀ i σ H, i ≤ xs.length → Pv i σ H → SqT K H a xs)
    (hs : ∀ i x σ H, xs[i]? = some x → Pv i σ H → g x σ H fun σ2 H2 => tb ⟨Pv (i + 1), rt, nx, Pv (i + 1)⟩ σ2 H2) (hd : ∀ σ H, Pv xs.length σ H → nx σ H) :
    ItT K (fun J H1 => ForB J g tb nx rt σ H1) (.ref a) H :=
  ⟨a, rfl, ⟨xs, hS⟩, for_tup (D := ⟨nx, rt, nx, nx⟩) Pv h0 hl hs hd⟩
theorem for_R1 {j : Int} (Pv : Nat → L2.St → Hp → Prop) (b1 : -(2 ^ 62) ≤ j) (b2 : j < 2 ^ 62) (h0 : Pv 0 σ H)
    (hs : ∀ i σ H, i < j.toNat → Pv i σ H → g (.int (0 + (i : Nat))) σ H fun σ2 H2 => tb ⟨Pv (i + 1), rt, nx, Pv (i + 1)⟩ σ2 H2) (hd : ∀ σ H, Pv j.toNat σ H → nx σ H) :
    ItR1 (fun J H1 => ForB J g tb nx rt σ H1) [.int j] H :=
  ⟨j, rfl, b1, b2, for_range (D := ⟨nx, rt, nx, nx⟩) Pv h0 hs hd⟩
theorem for_R2 {i j : Int} (Pv : Nat → L2.St → Hp → Prop) (b1 : -(2 ^ 62) ≤ i) (b2 : i < 2 ^ 62) (b3 : -(2 ^ 62) ≤ j) (b4 : j < 2 ^ 62) (h0 : Pv 0 σ H)
    (hs : ∀ m σ H, m < (j - i).toNat → Pv m σ H → g (.int (i + (m : Nat))) σ H fun σ2 H2 => tb ⟨Pv (m + 1), rt, nx, Pv (m + 1)⟩ σ2 H2) (hd : ∀ σ H, Pv (j - i).toNat σ H → nx σ H) :
    ItR2 (fun J H1 => ForB J g tb nx rt σ H1) [.int i, .int j] H :=
  ⟨i, j, rfl, ⟨b1, b2, b3, b4⟩, for_range (D := ⟨nx, rt, nx, nx⟩) Pv h0 hs hd⟩
/-- what a comprehension wants -/
def LcB (J : It) (g : TG) (tt : TT) (te : TE) (vs : List Nat) (σ : L2.St) (Q : VK) (H1 : Hp) : Prop := ∀ D, H1 D = none → ∃ W : Nat → Nat → Hp → Prop, (∃ m, W 0 m (upd H1 D (.lst []))) ∧ ∀ i m H, W i m H →
  (J.stop i H ∧ Q (.ref D) H) ∨ (J.go i H ∧ ∃ Nx : Hp → Prop, (∀ H', Nx H' → ∃ m', m' < m ∧ W (i + 1) m' H') ∧ ∀ x H', J.yld i H x H' → g x (wipe σ vs) H' fun σ2 H2 => wipe σ2 vs = wipe σ vs ∧ tt σ2 H2 fun b H3 =>
    if b = true then te σ2 H3 fun y H4 => ∃ acc, H4 D = some (.lst acc) ∧ acc.length < sizeLine ∧ Nx (upd H4 D (.lst (acc ++ [y]))) else Nx H3)
theorem w_lc {Q : VK} (h : wi σ H fun J H1 => LcB J g tt te vs σ Q H1) : tLc wi g tt te vs σ H Q := h
/-- a turn's end: the item is laid on -/
def LcE (D : Addr) (Nx : Hp → Prop) (y : V) (H4 : Hp) : Prop := ∃ acc, H4 D = some (.lst acc) ∧ acc.length < sizeLine ∧ Nx (upd H4 D (.lst (acc ++ [y])))
theorem lc_L {Q : VK} (Pv : Addr → Nat → Hp → Prop) (hS : SqL K H a xs) (h0 : ∀ D, H D = none → Pv D 0 (upd H D (.lst []))) (hl : ∀ D i H1, H D = none → i ≤ xs.length → Pv D i H1 → SqL K H1 a xs)
    (hs : ∀ D i x H1, H D = none → xs[i]? = some x → Pv D i H1 → g x (wipe σ vs) H1 fun σ2 H2 => wipe σ2 vs = wipe σ vs ∧ tt σ2 H2 fun b H3 => if b = true then te σ2 H3 fun y H4 => LcE D (Pv D (i + 1)) y H4 else Pv D (i + 1) H3)
    (hd : ∀ D H1, H D = none → Pv D xs.length H1 → Q (.ref D) H1) :
    ItL K (fun J H1 => LcB J g tt te vs σ Q H1) (.ref a) H :=
  ⟨a, rfl, ⟨xs, hS⟩, fun D hD => lc_list (Qd := fun H1 => Q (.ref D) H1) (Pv D) (h0 D hD) (fun i H1 hi p => hl D i H1 hD hi p) (fun i x H1 hx p => hs D i x H1 hD hx p) (fun H1 p => hd D H1 hD p)⟩
theorem lc_R1 {Q : VK} {j : Int} (Pv : Addr → Nat → Hp → Prop) (b1 : -(2 ^ 62) ≤ j) (b2 : j < 2 ^ 62) (h0 : ∀ D, H D = none → Pv D 0 (upd H D (.lst [])))
    (hs : ∀ D i H1, H D = none → i < j.toNat → Pv D i H1 → g (.int (0 + (i : Nat))) (wipe σ vs) H1 fun σ2 H2 => wipe σ2 vs = wipe σ vs ∧ tt σ2 H2 fun b H3 => if b = true then te σ2 H3 fun y H4 => LcE D (Pv D (i + 1)) y H4 else Pv D (i + 1) H3)
    (hd : ∀ D H1, H D = none → Pv D j.toNat H1 → Q (.ref D) H1) :
    ItR1 (fun J H1 => LcB J g tt te vs σ Q H1) [.int j] H :=
  ⟨j, rfl, b1, b2, fun D hD => lc_range (Qd := fun H1 => Q (.ref D) H1) (Pv D) (h0 D hD) (fun i H1 hi p => hs D i H1 hD hi p) (fun H1 p => hd D H1 hD p)⟩
theorem w_lcE {D : Addr} {Nx : Hp → Prop} {y : V} {acc : List V} (ha : H D = some (.lst acc)) (hl : acc.length < sizeLine) (h : Nx (upd H D (.lst (acc ++ [y])))) : LcE D Nx y H := ⟨acc, ha, hl, h⟩
theorem w_wipe {A : Prop} {σ1 σ2 : L2.St} (e : σ1 = σ2) (h : A) : σ1 = σ2 ∧ A := ⟨e, h⟩
theorem w_ttYes {QB : Bool → Hp → Prop} (h : QB true H) : tYes σ H QB := h
theorem w_isiT {x : V} {n t : String} {b : Bool} {Q : VK} (ty : TyX K H x (.type t)) (k : kitB t n = some b) (h : Q (.bl b) H) : rIsiN K [x, .ty n] H Q := w_isi ty k h
end
end U

/-! U2: data at any depth over the abstract heap (own work). -/
open PySem PySem.Spec PyProof.Rows L2
namespace L2
section
variable {K : PySem.W.Frag} {H H' : Hp}
theorem Same.seqT {a : Addr} {xs : List V} (e : Same H H') (h : SqT K H a xs) : SqT K H' a xs := by
  rcases h with (h | ⟨o, h⟩) | h
  · exact .inl (.inl (e _ _ h))
  · exact .inl (.inr ⟨o, e _ _ h⟩)
  · exact .inr h
theorem Same.seqL {a : Addr} {xs : List V} (e : Same H H') (h : SqL K H a xs) : SqL K H' a xs := e.seq h
mutual
theorem Dp.same (e : Same H H') : ∀ (d : PyData) (v : V), Dp K H v d → Dp K H' v d
  | .none, _, h => by cases h; exact .non
  | .bool b, _, h => by cases h; exact .bl b
  | .int i, _, h => by cases h; exact .int i
  | .str x, _, h => by cases h; exact .str x
  | .list ds, _, h => by
    cases h with
    | lst hs ha => exact .lst (Same.seqL e hs) (DpAll.same e ds _ ha)
  | .tuple ds, _, h => by
    cases h with
    | tup hs ha => exact .tup (Same.seqT e hs) (DpAll.same e ds _ ha)
  | .dict _, _, h => by cases h
theorem DpAll.same (e : Same H H') : ∀ (ds : List PyData) (vs : List V), DpAll K H vs ds → DpAll K H' vs ds
  | [], _, h => by cases h; exact .nil
  | d :: ds, _, h => by
    cases h with
    | cons h1 h2 => exact .cons (Dp.same e d _ h1) (DpAll.same e ds _ h2)
end
theorem Dp.up (e : Same H H') {d : PyData} {v : V} (h : Dp K H v d) : Dp K H' v d := Dp.same e d v h
theorem DpAll.up (e : Same H H') {ds : List PyData} {vs : List V} (h : DpAll K H vs ds) : DpAll K H' vs ds := DpAll.same e ds vs h
theorem DpAll.len : ∀ {vs : List V} {ds : List PyData}, DpAll K H vs ds → vs.length = ds.length
  | _, _, .nil => rfl
  | _, _, .cons _ t => by rw [List.length_cons, List.length_cons, DpAll.len t]
theorem DpAll.get : ∀ {vs : List V} {ds : List PyData} {i : Nat} {v : V}, DpAll K H vs ds → vs[i]? = some v → ∃ d, ds[i]? = some d ∧ Dp K H v d
  | _, _, _, _, .nil, e => by simp at e
  | _, _, 0, _, .cons r _, e => by simp at e; subst e; exact ⟨_, rfl, r⟩
  | _, _, i + 1, v, .cons _ t, e => by
    obtain ⟨d, h1, h2⟩ := DpAll.get (i := i) (v := v) t (by simpa using e)
    exact ⟨d, by simpa using h1, h2⟩
theorem DpAll.getD : ∀ {vs : List V} {ds : List PyData} {i : Nat} {d : PyData}, DpAll K H vs ds → ds[i]? = some d → ∃ v, vs[i]? = some v ∧ Dp K H v d
  | _, _, _, _, .nil, e => by simp at e
  | _, _, 0, _, .cons r _, e => by simp at e; subst e; exact ⟨_, rfl, r⟩
  | _, _, i + 1, d, .cons _ t, e => by
    obtain ⟨v, h1, h2⟩ := DpAll.getD (i := i) (d := d) t (by simpa using e)
    exact ⟨v, by simpa using h1, h2⟩
theorem DpAll.snoc : ∀ {vs : List V} {ds : List PyData} {v : V} {d : PyData}, DpAll K H vs ds → Dp K H v d → DpAll K H (vs ++ [v]) (ds ++ [d])
  | _, _, _, _, .nil, h => .cons h .nil
  | _, _, _, _, .cons r t, h => .cons r (DpAll.snoc t h)
theorem DpAll.app : ∀ {vs ws : List V} {ds es : List PyData}, DpAll K H vs ds → DpAll K H ws es → DpAll K H (vs ++ ws) (ds ++ es)
  | _, _, _, _, .nil, h => h
  | _, _, _, _, .cons r t, h => .cons r (DpAll.app t h)
theorem DpAll.take : ∀ {vs : List V} {ds : List PyData} (n : Nat), DpAll K H vs ds → DpAll K H (vs.take n) (ds.take n)
  | _, _, 0, _ => .nil
  | _, _, _ + 1, .nil => .nil
  | _, _, n + 1, .cons r t => .cons r (DpAll.take n t)
theorem DpAll.drop : ∀ {vs : List V} {ds : List PyData} (n : Nat), DpAll K H vs ds → DpAll K H (vs.drop n) (ds.drop n)
  | _, _, 0, h => h
  | _, _, _ + 1, .nil => .nil
  | _, _, n + 1, .cons _ t => DpAll.drop n t
theorem DpAll.set {v : V} {d : PyData} (r : Dp K H v d) : ∀ {vs : List V} {ds : List PyData} (i : Nat), DpAll K H vs ds → DpAll K H (vs.set i v) (ds.set i d)
  | _, _, _, .nil => .nil
  | _, _, 0, .cons _ t => .cons r t
  | _, _, i + 1, .cons q t => .cons q (DpAll.set r i t)
theorem DpAll.ints : ∀ (ns : List Int), DpAll K H (ns.map V.int) (ns.map PyData.int)
  | [] => .nil
  | n :: r => .cons (.int n) (DpAll.ints r)
theorem dpAll_ints : ∀ {ns : List Int} {vs : List V}, DpAll K H vs (ns.map PyData.int) → vs = ns.map V.int
  | [], _, h => by cases h; rfl
  | n :: r, _, h => by
    cases h with
    | cons h1 h2 =>
      cases h1
      rw [dpAll_ints h2]
      rfl
theorem dp_int {v : V} {i : Int} (h : Dp K H v (.int i)) : v = .int i := by cases h; rfl
theorem dp_str {v : V} {x : Str} (h : Dp K H v (.str x)) : v = .str x := by cases h; rfl
theorem dp_non {v : V} (h : Dp K H v .none) : v = .non := by cases h; rfl
theorem dp_tup {v : V} {ds : List PyData} (h : Dp K H v (.tuple ds)) : ∃ p vs, v = .ref p ∧ SqT K H p vs ∧ DpAll K H vs ds := by
  cases h with
  | tup hs ha => exact ⟨_, _, rfl, hs, ha⟩
theorem dp_lst {v : V} {ds : List PyData} (h : Dp K H v (.list ds)) : ∃ p vs, v = .ref p ∧ SqL K H p vs ∧ DpAll K H vs ds := by
  cases h with
  | lst hs ha => exact ⟨_, _, rfl, hs, ha⟩
theorem dpa_nil {vs : List V} (h : DpAll K H vs []) : vs = [] := by cases h; rfl
theorem dpa_cons {vs : List V} {d : PyData} {ds : List PyData} (h : DpAll K H vs (d :: ds)) : ∃ v ws, vs = v :: ws ∧ Dp K H v d ∧ DpAll K H ws ds := by
  cases h with
  | cons h1 h2 => exact ⟨_, _, rfl, h1, h2⟩
/-- tuples of one, two, three, .. things -/
theorem dp_tup1 {v : V} {d1 : PyData} (h : Dp K H v (.tuple [d1])) : ∃ p v1, v = .ref p ∧ SqT K H p [v1] ∧ Dp K H v1 d1 := by
  obtain ⟨p, vs, e, s, a⟩ := dp_tup h
  obtain ⟨v1, w1, rfl, h1, a⟩ := dpa_cons a
  cases dpa_nil a
  exact ⟨p, v1, e, s, h1⟩
theorem dp_tup2 {v : V} {d1 d2 : PyData} (h : Dp K H v (.tuple [d1, d2])) : ∃ p v1 v2, v = .ref p ∧ SqT K H p [v1, v2] ∧ Dp K H v1 d1 ∧ Dp K H v2 d2 := by
  obtain ⟨p, vs, e, s, a⟩ := dp_tup h
  obtain ⟨v1, w1, rfl, h1, a⟩ := dpa_cons a
  obtain ⟨v2, w2, rfl, h2, a⟩ := dpa_cons a
  cases dpa_nil a
  exact ⟨p, v1, v2, e, s, h1, h2⟩
theorem dp_tup3 {v : V} {d1 d2 d3 : PyData} (h : Dp K H v (.tuple [d1, d2, d3])) : ∃ p v1 v2 v3, v = .ref p ∧ SqT K H p [v1, v2, v3] ∧ Dp K H v1 d1 ∧ Dp K H v2 d2 ∧ Dp K H v3 d3 := by
  obtain ⟨p, vs, e, s, a⟩ := dp_tup h
  obtain ⟨v1, w1, rfl, h1, a⟩ := dpa_cons a
  obtain ⟨v2, w2, rfl, h2, a⟩ := dpa_cons a
  obtain ⟨v3, w3, rfl, h3, a⟩ := dpa_cons a
  cases dpa_nil a
  exact ⟨p, v1, v2, v3, e, s, h1, h2, h3⟩
theorem dp_tup4 {v : V} {d1 d2 d3 d4 : PyData} (h : Dp K H v (.tuple [d1, d2, d3, d4])) : ∃ p v1 v2 v3 v4, v = .ref p ∧ SqT K H p [v1, v2, v3, v4] ∧ Dp K H v1 d1 ∧ Dp K H v2 d2 ∧ Dp K H v3 d3 ∧ Dp K H v4 d4 := by
  obtain ⟨p, vs, e, s, a⟩ := dp_tup h
  obtain ⟨v1, w1, rfl, h1, a⟩ := dpa_cons a
  obtain ⟨v2, w2, rfl, h2, a⟩ := dpa_cons a
  obtain ⟨v3, w3, rfl, h3, a⟩ := dpa_cons a
  obtain ⟨v4, w4, rfl, h4, a⟩ := dpa_cons a
  cases dpa_nil a
  exact ⟨p, v1, v2, v3, v4, e, s, h1, h2, h3, h4⟩
theorem dp_tup5 {v : V} {d1 d2 d3 d4 d5 : PyData} (h : Dp K H v (.tuple [d1, d2, d3, d4, d5])) : ∃ p v1 v2 v3 v4 v5, v = .ref p ∧ SqT K H p [v1, v2, v3, v4, v5] ∧ Dp K H v1 d1 ∧ Dp K H v2 d2 ∧ Dp K H v3 d3 ∧ Dp K H v4 d4 ∧ Dp K H v5 d5 := by
  obtain ⟨p, vs, e, s, a⟩ := dp_tup h
  obtain ⟨v1, w1, rfl, h1, a⟩ := dpa_cons a
  obtain ⟨v2, w2, rfl, h2, a⟩ := dpa_cons a
  obtain ⟨v3, w3, rfl, h3, a⟩ := dpa_cons a
  obtain ⟨v4, w4, rfl, h4, a⟩ := dpa_cons a
  obtain ⟨v5, w5, rfl, h5, a⟩ := dpa_cons a
  cases dpa_nil a
  exact ⟨p, v1, v2, v3, v4, v5, e, s, h1, h2, h3, h4, h5⟩
/-- a list that was just laid -/
theorem dp_newT {p : Addr} {xs : List V} {ds : List PyData} (h : H p = some (.tup xs)) (a : DpAll K H xs ds) : Dp K H (.ref p) (.tuple ds) := .tup (SqT.of h) a
theorem dp_newL {p : Addr} {xs : List V} {ds : List PyData} (h : H p = some (.lst xs)) (a : DpAll K H xs ds) : Dp K H (.ref p) (.list ds) := .lst (SqL.of h) a
/-- .. of a new tuple over older parts -/
theorem dp_tupN {p : Addr} {xs : List V} {ds : List PyData} (n : H p = none) (a : DpAll K H xs ds) : Dp K (upd H p (.tup xs)) (.ref p) (.tuple ds) := .tup (SqT.of upd_same) (a.up (U.same_new n _))
theorem dp_lstN {p : Addr} {xs : List V} {ds : List PyData} (n : H p = none) (a : DpAll K H xs ds) : Dp K (upd H p (.lst xs)) (.ref p) (.list ds) := .lst (SqL.of upd_same) (a.up (U.same_new n _))
end
/-! ### data that may be compared -/
theorem canLayAll_of : ∀ {ds : List PyData}, (∀ d ∈ ds, d.canLay0 = true) → PyData.canLayAll0 ds = true
  | [], _ => rfl
  | d :: r, h => by
    show (d.canLay0 && PyData.canLayAll0 r) = true
    rw [h d (List.mem_cons_self ..), canLayAll_of fun e he => h e (List.mem_cons_of_mem _ he)]
    rfl
theorem depthAll_of : ∀ {ds : List PyData} {n : Nat}, (∀ d ∈ ds, d.depth ≤ n) → PyData.depthAll ds ≤ n
  | [], _, _ => Nat.zero_le _
  | d :: r, n, h => by
    show max d.depth (PyData.depthAll r) ≤ n
    exact Nat.max_le.mpr ⟨h d (List.mem_cons_self ..), depthAll_of fun e he => h e (List.mem_cons_of_mem _ he)⟩
theorem shaped_of {d : PyData} (h : d.canLay0 = true) (h2 : d.depth ≤ 64) : SeqAt.shaped d = true := by
  unfold SeqAt.shaped
  rw [h, decide_eq_true h2]
  rfl
theorem canLay_of {d : PyData} (h : SeqAt.shaped d = true) : d.canLay0 = true := (Bool.and_eq_true_iff.mp h).1
theorem depth_of {d : PyData} (h : SeqAt.shaped d = true) : d.depth ≤ 64 := of_decide_eq_true (Bool.and_eq_true_iff.mp h).2
theorem shaped_list {ds : List PyData} {n : Nat} (h : ∀ d ∈ ds, d.canLay0 = true ∧ d.depth ≤ n) (hn : n < 64) : SeqAt.shaped (.list ds) = true :=
  shaped_of (canLayAll_of fun d hd => (h d hd).1) (Nat.succ_le_of_lt (Nat.lt_of_le_of_lt (depthAll_of fun d hd => (h d hd).2) hn))
theorem w_neD {K : PySem.W.Frag} {H : Hp} {Q : VK} {x y : V} {d : PyData} (hx : Dp K H x d) (hy : Dp K H y d) (s : SeqAt.shaped d = true) (h : Q (.bl false) H) : rNeD K x y H Q :=
  ⟨d, d, hx, hy, s, s, by rw [SeqAt.eqv_refl d (canLay_of s)]; exact h⟩
theorem w_eqD {K : PySem.W.Frag} {H : Hp} {Q : VK} {x y : V} {d : PyData} (hx : Dp K H x d) (hy : Dp K H y d) (s : SeqAt.shaped d = true) (h : Q (.bl true) H) : rEqD K x y H Q :=
  ⟨d, d, hx, hy, s, s, by rw [SeqAt.eqv_refl d (canLay_of s)]; exact h⟩
end L2

/-! U3: a heap with a part that never changes (the region), and how both grow (own work). -/
namespace U
open PySem PySem.Spec PyProof.Rows L2
/-- from (R, H) to (R', H'): R' holds R and new objects alone, H' holds R'; outside of W nothing that stood changed -/
structure Gw (W : List Addr) (R H R' H' : Hp) : Prop where
  sub : Same R' H'
  ext : Same R R'
  out : ∀ a, R' a ≠ none → R a ≠ none ∨ H a = none
  kee : ∀ a o, H a = some o → a ∉ W → H' a = some o
  dom : ∀ a, H a ≠ none → H' a ≠ none
section
variable {W : List Addr} {R H R' H' R1 H1 R2 H2 : Hp} {p m : Addr} {o u : HO}
theorem Gw.refl (s : Same R H) : Gw W R H R H := ⟨s, Same.refl R, fun _ h => .inl h, fun _ _ h _ => h, fun _ h => h⟩
theorem Gw.trans (a : Gw W R H R1 H1) (b : Gw W R1 H1 R2 H2) : Gw W R H R2 H2 where
  sub := b.sub
  ext := a.ext.trans b.ext
  out := fun c h => by
    rcases b.out c h with q | q
    · exact a.out c q
    · refine .inr ?_
      cases e : H c with
      | none => rfl
      | some o => exact absurd q (a.dom c (by rw [e]; exact fun z => nomatch z))
  kee := fun c o h n => b.kee c o (a.kee c o h n) n
  dom := fun c h => b.dom c (a.dom c h)
theorem nn_of {a : Addr} {o : HO} (h : H a = some o) : H a ≠ none := by rw [h]; exact fun z => nomatch z
theorem none_of {a : Addr} (h : ¬ H a ≠ none) : H a = none := Classical.byContradiction h
/-- a new thing that never changes -/
theorem Gw.new (g : Gw W R H R1 H1) (n : H1 p = none) (o : HO) : Gw W R H (upd R1 p o) (upd H1 p o) := g.trans {
  sub := fun a u h => by
    by_cases e : a = p
    · subst e; rw [upd_same] at h ⊢; exact h
    · rw [upd_ne e] at h ⊢; exact g.sub a u h
  ext := fun a u h => by
    by_cases e : a = p
    · subst e; have := g.sub _ _ h; rw [n] at this; cases this
    · rw [upd_ne e]; exact h
  out := fun a h => by
    by_cases e : a = p
    · subst e; exact .inr n
    · rw [upd_ne e] at h; exact .inl h
  kee := fun a u h _ => by rw [upd_ne (ne_of_none h n)]; exact h
  dom := fun a h => by
    by_cases e : a = p
    · subst e; exact absurd n h
    · rw [upd_ne e]; exact h }
/-- a new thing that will change -/
theorem Gw.newM (g : Gw W R H R1 H1) (n : H1 p = none) (o : HO) : Gw W R H R1 (upd H1 p o) := g.trans {
  sub := fun a u h => by
    rw [upd_ne (ne_of_none (g.sub a u h) n)]; exact g.sub a u h
  ext := Same.refl _
  out := fun a h => .inl h
  kee := fun a u h _ => by rw [upd_ne (ne_of_none h n)]; exact h
  dom := fun a h => by
    by_cases e : a = p
    · subst e; exact absurd n h
    · rw [upd_ne e]; exact h }
/-- a change -/
theorem Gw.mut (g : Gw W R H R1 H1) (hm : m ∈ W ∨ H m = none) (hr : R1 m = none) (o : HO) : Gw W R H R1 (upd H1 m o) where
  sub := fun a u h => by
    rw [upd_ne (ne_of_none h hr)]; exact g.sub a u h
  ext := g.ext
  out := g.out
  kee := fun a u h n => by
    by_cases e : a = m
    · subst e
      rcases hm with q | q
      · exact absurd q n
      · rw [h] at q; cases q
    · rw [upd_ne e]; exact g.kee a u h n
  dom := fun a h => by
    by_cases e : a = m
    · subst e; rw [upd_same]; exact fun z => nomatch z
    · rw [upd_ne e]; exact g.dom a h
/-- a thing that stays from now on -/
theorem Gw.frz (g : Gw W R H R1 H1) (n : H m = none) (h1 : H1 m = some o) (hr : R1 m = none) : Gw W R H (upd R1 m o) H1 where
  sub := fun a u h => by
    by_cases e : a = m
    · subst e; rw [upd_same] at h; rw [h1]; exact h
    · rw [upd_ne e] at h; exact g.sub a u h
  ext := fun a u h => by
    have q := g.ext a u h
    rw [upd_ne (ne_of_none q hr)]; exact q
  out := fun a h => by
    by_cases e : a = m
    · subst e; exact .inr n
    · rw [upd_ne e] at h; exact g.out a h
  kee := g.kee
  dom := g.dom
theorem Gw.mono {W' : List Addr} (g : Gw W R H R1 H1) (h : ∀ a ∈ W, a ∈ W' ∨ H a = none) : Gw W' R H R1 H1 where
  sub := g.sub
  ext := g.ext
  out := g.out
  kee := fun a u q n => g.kee a u q fun z => by
    rcases h a z with y | y
    · exact n y
    · rw [q] at y; cases y
  dom := g.dom
/-- .. behind a start of one's own: what the later step may change is new or allowed -/
theorem Gw.then {W' : List Addr} (a : Gw W R H R1 H1) (b : Gw W' R1 H1 R2 H2) (h : ∀ a ∈ W', a ∈ W ∨ H a = none) : Gw W R H R2 H2 where
  sub := b.sub
  ext := a.ext.trans b.ext
  out := fun c h => by
    rcases b.out c h with q | q
    · exact a.out c q
    · refine .inr ?_
      cases e : H c with
      | none => rfl
      | some o => exact absurd q (a.dom c (by rw [e]; exact fun z => nomatch z))
  kee := fun c o q n => b.kee c o (a.kee c o q n) fun z => by
    rcases h c z with y | y
    · exact n y
    · rw [q] at y; cases y
  dom := fun c h => b.dom c (a.dom c h)
/-- what is not of the region stays so, if it stood -/
theorem Gw.notR (g : Gw W R H R1 H1) (h : H m ≠ none) (hr : R m = none) : R1 m = none := by
  refine none_of fun z => ?_
  rcases g.out m z with q | q
  · exact q hr
  · exact h q
theorem Gw.noR (g : Gw W R H R1 H1) (n : H1 m = none) : R1 m = none := g.sub.free n
theorem Gw.no (g : Gw W R H R1 H1) (n : H1 m = none) : H m = none := none_of fun z => g.dom m z n
theorem Gw.at {a : Addr} {o : HO} (g : Gw W R H R1 H1) (h : H a = some o) (n : a ∉ W) : H1 a = some o := g.kee a o h n
theorem Gw.of_same (s : Same R H) (s' : Same H H1) : Gw W R H R H1 where
  sub := s.trans s'
  ext := Same.refl R
  out := fun a h => .inl h
  kee := fun a o h _ => s' a o h
  dom := fun a h => by
    cases e : H a with
    | none => exact absurd e h
    | some o => exact nn_of (s' a o e)
end
/-! ### comprehensions that make lists of data -/
section
variable {K : PySem.W.Frag} {W : List Addr} {R H : Hp} {g : TG} {tt : TT} {te : TE} {vs : List Nat} {σ : L2.St} {a : Addr} {xs : List V} {Q : VK}
/-- the invariant: D, new and not of the region, holds what stands for ds -/
def LcP (K : PySem.W.Frag) (W : List Addr) (R H : Hp) (ds : List PyData) (D : Addr) (H1 : Hp) : Prop := ∃ R1 ys, Gw W R H R1 H1 ∧ H1 D = some (.lst ys) ∧ R1 D = none ∧ DpAll K R1 ys ds
theorem lcP_nil (s : Same R H) (D : Addr) (n : H D = none) : LcP K W R H [] D (upd H D (.lst [])) := ⟨R, [], (Gw.refl s).newM n _, upd_same, s.free n, .nil⟩
theorem lcP_put {ds : List PyData} {d : PyData} {D : Addr} {R1 H1 R2 H2 : Hp} {ys : List V} {y : V} (n : H D = none) (hD : D ∉ W) (g1 : Gw W R H R1 H1) (h1 : H1 D = some (.lst ys)) (r1 : R1 D = none) (a1 : DpAll K R1 ys ds) (hl : ds.length < 100000)
    (g2 : Gw W R1 H1 R2 H2) (hy : Dp K R2 y d) : LcE D (LcP K W R H (ds ++ [d]) D) y H2 :=
  ⟨ys, g2.at h1 hD, by rw [a1.len]; exact szlt hl, R2, ys ++ [y], (g1.trans g2).mut (.inr n) (g2.notR (nn_of h1) r1) _, upd_same, g2.notR (nn_of h1) r1, (a1.up g2.ext).snoc hy⟩
theorem lcP_end {ds : List PyData} {D : Addr} {H1 : Hp} (h : LcP K W R H ds D H1) (n : H D = none) (k : ∀ R1 ys, Gw W R H R1 H1 → H1 D = some (.lst ys) → R1 D = none → DpAll K R1 ys ds → Q (.ref D) H1) : Q (.ref D) H1 := by
  obtain ⟨R1, ys, g, h1, r1, a1⟩ := h
  exact k R1 ys g h1 r1 a1
theorem take_succ {α : Type} {l : List α} {i : Nat} {x : α} (h : l[i]? = some x) : l.take (i + 1) = l.take i ++ [x] := by
  rw [List.take_add_one, h]
  rfl
theorem range_get {n i j : Nat} (h : (List.range n)[i]? = some j) : i < n ∧ j = i := by
  obtain ⟨h1, h2⟩ := List.getElem?_eq_some_iff.mp h
  rw [List.getElem_range] at h2
  rw [List.length_range] at h1
  exact ⟨h1, h2.symm⟩
/-- [te for x in l], without a test: the i-th item stands for ds[i] -/
theorem lc_data (ds : List PyData) (s : Same R H) (hW : ∀ D, H D = none → D ∉ W) (hS : SqL K R a xs) (hl : xs.length = ds.length) (hz : ds.length < 100000)
    (turn : ∀ (i : Nat) (x : V) (d : PyData) (R1 H1 : Hp) (N : V → Hp → Prop), xs[i]? = some x → ds[i]? = some d → Gw W R H R1 H1 → (∀ y R2 H2, Gw W R1 H1 R2 H2 → Dp K R2 y d → N y H2) →
      g x (wipe σ vs) H1 fun σ2 H2 => wipe σ2 vs = wipe σ vs ∧ tt σ2 H2 fun b H3 => b = true ∧ te σ2 H3 N)
    (mono : ∀ x σ H P P', (∀ σ2 H2, P σ2 H2 → P' σ2 H2) → g x σ H P → g x σ H P') (monoT : ∀ σ H P P', (∀ b H2, P b H2 → P' b H2) → tt σ H P → tt σ H P')
    (done : ∀ D R1 H1 ys, Gw W R H R1 H1 → H D = none → H1 D = some (.lst ys) → R1 D = none → DpAll K R1 ys ds → Q (.ref D) H1) :
    ItL K (fun J H1 => LcB J g tt te vs σ Q H1) (.ref a) H := by
  refine lc_L (fun D i H1 => LcP K W R H (ds.take i) D H1) (Same.seqL s hS) (fun D n => by rw [List.take_zero]; exact lcP_nil s D n) (fun D i H1 _ _ p => ?_) (fun D i x H1 n hx p => ?_) (fun D H1 n p => ?_)
  · obtain ⟨R1, ys, g1, _⟩ := p
    exact Same.seqL (g1.ext.trans g1.sub) hS
  · obtain ⟨R1, ys, g1, h1, r1, a1⟩ := p
    have hi : i < ds.length := by
      rw [← hl]
      exact (List.getElem?_eq_some_iff.mp hx).1
    have hd : ds[i]? = some ds[i] := List.getElem?_eq_getElem hi
    refine mono _ _ _ _ _ (fun σ2 H2 q => ⟨q.1, monoT _ _ _ _ (fun b H3 q => ?_) q.2⟩) (turn i x ds[i] R1 H1 (fun y H4 => LcE D (LcP K W R H (ds.take (i + 1)) D) y H4) hx hd g1 fun y R2 H2 g2 hy => ?_)
    · rw [q.1, if_pos rfl]
      exact q.2
    · rw [take_succ hd]
      exact lcP_put n (hW D n) g1 h1 r1 a1 (by rw [List.length_take]; omega) g2 hy
  · rw [hl, List.take_length] at p
    exact lcP_end p n fun R1 ys g1 h1 r1 a1 => done D R1 H1 ys g1 n h1 r1 a1
/-- .. over range(j) -/
theorem lc_dataR {j : Int} (ds : List PyData) (s : Same R H) (hW : ∀ D, H D = none → D ∉ W) (b1 : -(2 ^ 62) ≤ j) (b2 : j < 2 ^ 62) (hl : j.toNat = ds.length) (hz : ds.length < 100000)
    (turn : ∀ (i : Nat) (d : PyData) (R1 H1 : Hp) (N : V → Hp → Prop), ds[i]? = some d → Gw W R H R1 H1 → (∀ y R2 H2, Gw W R1 H1 R2 H2 → Dp K R2 y d → N y H2) →
      g (.int (0 + (i : Nat))) (wipe σ vs) H1 fun σ2 H2 => wipe σ2 vs = wipe σ vs ∧ tt σ2 H2 fun b H3 => b = true ∧ te σ2 H3 N)
    (mono : ∀ x σ H P P', (∀ σ2 H2, P σ2 H2 → P' σ2 H2) → g x σ H P → g x σ H P') (monoT : ∀ σ H P P', (∀ b H2, P b H2 → P' b H2) → tt σ H P → tt σ H P')
    (done : ∀ D R1 H1 ys, Gw W R H R1 H1 → H D = none → H1 D = some (.lst ys) → R1 D = none → DpAll K R1 ys ds → Q (.ref D) H1) :
    ItR1 (fun J H1 => LcB J g tt te vs σ Q H1) [.int j] H := by
  refine lc_R1 (fun D i H1 => LcP K W R H (ds.take i) D H1) b1 b2 (fun D n => by rw [List.take_zero]; exact lcP_nil s D n) (fun D i H1 n hi p => ?_) (fun D H1 n p => ?_)
  · obtain ⟨R1, ys, g1, h1, r1, a1⟩ := p
    have hi : i < ds.length := by omega
    have hd : ds[i]? = some ds[i] := List.getElem?_eq_getElem hi
    refine mono _ _ _ _ _ (fun σ2 H2 q => ⟨q.1, monoT _ _ _ _ (fun b H3 q => ?_) q.2⟩) (turn i ds[i] R1 H1 (fun y H4 => LcE D (LcP K W R H (ds.take (i + 1)) D) y H4) hd g1 fun y R2 H2 g2 hy => ?_)
    · rw [q.1, if_pos rfl]
      exact q.2
    · rw [take_succ hd]
      exact lcP_put n (hW D n) g1 h1 r1 a1 (by rw [List.length_take]; omega) g2 hy
  · rw [hl, List.take_length] at p
    exact lcP_end p n fun R1 ys g1 h1 r1 a1 => done D R1 H1 ys g1 n h1 r1 a1
theorem mono_gName (i : Nat) : ∀ x σ H P P', (∀ σ2 H2, P σ2 H2 → P' σ2 H2) → gName i x σ H P → gName i x σ H P' := fun _ _ _ _ _ h q => h _ _ q
theorem mono_yes : ∀ σ H (P P' : Bool → Hp → Prop), (∀ b H2, P b H2 → P' b H2) → tYes σ H P → tYes σ H P' := fun _ _ _ _ h q => h _ _ q
end
end U

/-! U4: the end: what the head tells of defs and built-in names (own work). -/
namespace U
open PySem PySem.Spec PyProof.Rows L2 He
def mkD (q : Str × Stmt) : DefD := ⟨(q.1, none), q.1, q.1, defArgs q.2, defBody q.2, defScope q.2, [], []⟩
def biNames : List Str := ["len", "range", "list", "isinstance", "int", "bool", "str", "tuple", "enumerate", "zip", "min", "max", "sum", "reversed"]
def faOf (ds : List (Str × Stmt)) : List Fa := biNames.map Fa.free ++ ds.map fun q => Fa.glo q.1
section
variable {fa : List Fa} {fn : List DefD} {K : PySem.W.Frag} {h : Heap} {mg : Str → Option Value} {ds : List (Str × Stmt)}
theorem bi_of (X : K.In h) (G : h.Ns mainGlobals mg) (c : SaysD fa fn K) (hf : ∀ x ∈ biNames, Fa.free x ∈ fa) : Bi mg := by
  have f : ∀ x ∈ biNames, mg x = none := fun x hx => free_ok X G (c.facts (hf x hx))
  exact ⟨f _ (by decide), f _ (by decide), f _ (by decide), f _ (by decide), f _ (by decide), f _ (by decide), f _ (by decide), f _ (by decide), f _ (by decide), f _ (by decide), f _ (by decide), f _ (by decide), f _ (by decide), f _ (by decide)⟩
theorem df_of (X : K.In h) (G : h.Ns mainGlobals mg) (c : SaysD fa fn K) {x : Str} {st : Stmt} (hf : Fa.glo x ∈ fa) (hd : mkD (x, st) ∈ fn) : Df K mg x st := by
  obtain ⟨fd, F⟩ := c.defs hd
  exact ⟨_, fd, F, glo_ok X G (c.facts hf)⟩
theorem df_i (X : K.In h) (G : h.Ns mainGlobals mg) (c : SaysD (faOf ds) (ds.map mkD) K) (i : Nat) {x : Str} {st : Stmt} (e : ds[i]? = some (x, st) := by rfl) : Df K mg x st := by
  have m : (x, st) ∈ ds := List.mem_of_getElem? e
  exact df_of X G c (List.mem_append.mpr (.inr (List.mem_map.mpr ⟨_, m, rfl⟩))) (List.mem_map.mpr ⟨_, m, rfl⟩)
theorem bi_i (X : K.In h) (G : h.Ns mainGlobals mg) (c : SaysD (faOf ds) (ds.map mkD) K) : Bi mg := bi_of X G c fun x hx => List.mem_append.mpr (.inl (List.mem_map.mpr ⟨x, hx, rfl⟩))
end
/-- what is wanted of the law's def -/
def spTrue (K : PySem.W.Frag) : Sp := fun vs H Q _ => ∃ (a : Addr) (ns : List Int), vs = [.ref a] ∧ SqL K H a (ns.map V.int) ∧ ns.length ≤ 63 ∧ ∀ H', Q (.bl true) H'
abbrev LawF (K : PySem.W.Frag) (st : Stmt) (f : Addr) (fd : FuncData) : Prop := FunD K "law" "law" (defArgs st) (defBody st) (defScope st) [] [] f fd
theorem law0 {P : Program} {w : World} {K : PySem.W.Frag} {mg : Str → Option Value} {base : Heap} {k : Nat} {st : Stmt} {N ps : List Str} {sp : Sp} (S : FnScope N ps (defScope st)) (len : ∀ vs H Q E, sp vs H Q E → vs.length = ps.length)
    (hbody : ∀ (f : Addr) (cdv : Value) (A : Around) (outer : List Env) (s : Shared) (H : Hp) (vs : List V) (Q : VK) (E : XK), Room k (A.deeper (envOfC "law" (defScope st) s.heap.objs.size f cdv)) → sp vs H Q E →
      ∃ t, PSs (cxOf CX0 P w K mg base N "law" (defScope st) f cdv A outer s H E).nox (defBody st) t ∧ t { nx := fun _ H' => Q .non H', rt := Q } (start N vs) H) :
    ∀ f fd, LawF K st f fd → FnOk P w K mg base CX0 (k + 1) f fd ps sp := fun f fd F => F.ok S len fun cdv A outer s H vs Q E hr h => by
  obtain ⟨t, h1, h2⟩ := hbody f cdv A outer s H vs Q E hr h
  exact ⟨t, h1.nox, h2⟩
/-- the walk of a law whose def is the last of ds -/
theorem walk_my {l : PySem.W.OpenLaw} {k n j : Nat} {q : Program} {loose : List Str} {XP : (Str → Option Value) → Heap → Prop} {d : DefRec} {x : Str} {ds : List (Str × Stmt)} {st : Stmt}
    (hn : l.most = some 63) (hdf : d.params.defaults = []) (hr : Room k callerA) (hname : d.name = ("law" : Str)) (hl : ds[j]? = some (("law" : Str), st))
    (hbind : ∀ (kV doc pm : Value) (an : Option Addr) (cdv ct : Value) (us : List Value), us.length = [x].length → bindArgs (PySem.W.fnOf "law" "law" (defArgs st) (defBody st) (defScope st) .none kV doc pm an cdv ct) ⟨us, []⟩ = pure ([x].zip us))
    (F : ∀ (w : World) (K : PySem.W.Frag) (mg : Str → Option Value) (h base : Heap), K.In h → h.Ns mainGlobals mg → SaysD (faOf ds) (ds.map mkD) K → K.In base → base.Ns mainGlobals mg → ∀ f fd, LawF K st f fd → FnOk l.prog w K mg base CX0 k f fd [x] (spTrue K)) :
    PySem.W.WalkO q loose XP (hookD n (faOf ds) (ds.map mkD)).says l.row.toRowW d [] (fun f vs => PySem.call f vs) := by
  refine L2.walk_ofE (l := l) (n := 63) (k := k) (x := x) (CX := L2.CX0) hn (by decide) hdf hr ?_ (fun _ _ _ _ z => z)
  intro w mg fa h Y G hmg
  obtain ⟨K, KX, c⟩ := Y
  rw [hname] at hmg
  have m : (("law" : Str), st) ∈ ds := List.mem_of_getElem? hl
  obtain ⟨fd, FD⟩ := c.defs (d := mkD ("law", st)) (List.mem_map.mpr ⟨_, m, rfl⟩)
  have e : fa = ga K "law" := by
    have e1 := glo_ok KX G (c.facts (f := .glo "law") (List.mem_append.mpr (.inr (List.mem_map.mpr ⟨_, m, rfl⟩))))
    rw [hmg] at e1
    exact Value.ref.inj (Option.some.inj e1)
  have FD' : LawF K st fa fd := by rw [e]; exact FD
  have b := FunD.bindsA (ps := [x]) FD' hbind
  exact ⟨K, fd, spTrue K, KX, fun s u => b s [u] rfl, fun H a ns hl _ hS => ⟨a, ns, rfl, hS, hl, fun _ => rfl⟩, fun base hb hg => F w K mg h base KX G c hb hg fa fd FD'⟩
end U

local macro_rules | `(tactic| walk_at "hp") => `(tactic| first
  | assumption
  | exact L2.upd_same
  | (refine (L2.upd_ne ?hpn).trans ?hpk; (case hpn => walk_at "ne"); (case hpk => walk_at "hp")))
local macro_rules | `(tactic| walk_at "ne") => `(tactic| first
  | assumption
  | exact Ne.symm (by assumption)
  | (refine L2.ne_of_none (H := ?neH) (o := ?neo) ?nea ?neb; (case neb => assumption); (case nea => walk_at "hp"))
  | (refine Ne.symm (L2.ne_of_none (H := ?neH) (o := ?neo) ?nea ?neb); (case neb => assumption); (case nea => walk_at "hp")))
local macro_rules | `(tactic| walk_at "sq") => `(tactic| first
  | assumption
  | (refine L2.SqL.of ?sqh; walk_at "hp")
  | (refine L2.SqT.of ?sqh; walk_at "hp")
  | (refine L2.Same.seqL (H := ?sqH) ?sqs ?sqh; (case sqh => assumption); (case sqs => walk_at "sm"))
  | (refine L2.Same.seqT (H := ?sqH) ?sqs ?sqh; (case sqh => assumption); (case sqs => walk_at "sm")))
local macro_rules | `(tactic| walk_at "sm") => `(tactic| first
  | assumption
  | exact L2.Same.refl _
  | (refine U.same_new2 ?sma ?smb _; (case smb => assumption); (case sma => walk_at "sm"))
  | (refine L2.Same.trans (H1 := ?smH) ?sma ?smb; (case smb => assumption); (case sma => walk_at "sm")))
local macro_rules | `(tactic| walk_at "go1") => `(tactic| first
  | (with_reducible refine U.w_seqStop ?_)
  | ((with_reducible refine U.w_seqN (σ' := ?wss) ?wse ?_); (case wse => ((try simp only [List.set_cons_zero, List.set_cons_succ]); exact rfl)))
  | ((with_reducible refine U.w_var (v := ?wvv) ?wve ?_); (case wve => exact rfl))
  | (with_reducible refine U.w_c ?_)
  | (with_reducible refine U.w_op ?_)
  | (with_reducible refine U.w_rI0 ?_)
  | ((with_reducible refine U.w_rI ?wri ?_); (case wri => first
      | (show (0 : Int) < _; first | omega | decide)
      | exact ⟨by omega, by omega⟩
      | exact ⟨by decide, by decide⟩
      | exact ⟨by decide, by decide, by decide⟩
      | exact .inr ⟨by omega, by omega⟩
      | exact .inr ⟨by decide, by decide⟩
      | exact .inl ⟨by omega, by omega⟩
      | exact .inl ⟨by decide, by decide⟩))
  | (with_reducible refine U.w_asgN ?_)
  | (with_reducible refine U.w_nil ?_)
  | (with_reducible refine U.w_cons ?_)
  | (with_reducible refine U.w_call ?_)
  | (with_reducible refine U.w_cb ?_)
  | (with_reducible refine U.w_eqI ?_)
  | (with_reducible refine U.w_neI ?_)
  | (with_reducible refine U.w_ifS ?_)
  | (with_reducible refine U.w_test ?_)
  | (with_reducible refine U.w_tB ?_)
  | (with_reducible refine U.w_bl ?_)
  | (with_reducible refine U.w_itT ?_)
  | (with_reducible refine U.w_itF ?_)
  | (with_reducible refine U.w_itNT ?_)
  | (with_reducible refine U.w_itNF ?_)
  | (with_reducible refine U.w_asg ?_)
  | (with_reducible refine U.w_gName ?_)
  | (with_reducible refine U.w_gNil ?_)
  | (with_reducible refine U.w_gCons ?_)
  | ((with_reducible refine U.w_gTup (xs := ?wgx) ?wgt ?wgn ?_); (case wgt => walk_at "sq"); (case wgn => exact rfl))
  | (with_reducible refine U.w_gSub ?_)
  | (with_reducible refine U.w_next ?_)
  | (with_reducible refine U.w_break ?_)
  | (with_reducible refine U.w_cont ?_)
  | (with_reducible refine U.w_drop ?_)
  | (with_reducible refine U.w_ret ?_)
  | (with_reducible refine U.w_retN ?_)
  | (with_reducible refine U.w_un ?_)
  | (with_reducible refine U.w_rU ?_)
  | (with_reducible refine U.w_chain ?_)
  | (with_reducible refine U.w_tup ?_)
  | (with_reducible refine U.w_lst ?_)
  | ((with_reducible refine U.w_size ?wsz ?_); (case wsz => exact rfl))
  | (with_reducible refine U.w_bm ?_)
  | (with_reducible refine U.w_bm0 ?_)
  | ((with_reducible refine U.w_tyL (xs := ?wtx) ?wty ?_); (case wty => walk_at "hp"))
  | ((with_reducible refine U.w_lenL (xs := ?wlx) ?wll ?_); (case wll => walk_at "sq"))
  | ((with_reducible refine U.w_lenT (xs := ?wlx) ?wll ?_); (case wll => walk_at "sq"))
  | (with_reducible refine U.w_sl ?_)
  | (with_reducible refine U.w_noPart ?_)
  | (with_reducible refine U.w_part ?_)
  | (with_reducible refine U.w_partE ?_)
  | (with_reducible refine U.w_and ?_)
  | (with_reducible refine U.w_or ?_)
  | (with_reducible refine U.w_not ?_)
  | (with_reducible refine U.w_andV ?_)
  | (with_reducible refine U.w_orV ?_)
  | (with_reducible refine U.w_notV ?_)
  | (with_reducible refine U.w_ifE ?_)
  | (with_reducible refine U.w_for ?_)
  | (with_reducible refine U.w_lc ?_)
  | (with_reducible refine U.w_iL ?_)
  | (with_reducible refine U.w_iT ?_)
  | (with_reducible refine U.w_iR1 ?_)
  | (with_reducible refine U.w_iR2 ?_)
  | (with_reducible refine U.w_ttYes ?_)
  | ((with_reducible refine U.w_wipe ?wwe ?_); (case wwe => exact rfl))
  | ((with_reducible refine U.w_slL (xs := ?wlx) ?wll ?_); (case wll => walk_at "sq"))
  | (with_reducible refine U.w_ttt ?_)
  | (with_reducible refine U.w_isNoT ?_)
  | (with_reducible refine U.w_isNoI ?_)
  | (with_reducible refine U.w_isNoR ?_)
  | (with_reducible refine U.w_notNoT ?_)
  | (with_reducible refine U.w_notNoI ?_)
  | (with_reducible refine U.w_notNoR ?_)
  | (with_reducible refine U.w_intI ?_)
  | (with_reducible refine U.w_intB ?_)
  | (with_reducible refine U.w_min ?_)
  | (with_reducible refine U.w_max ?_)
  | ((with_reducible refine U.w_listL (xs := ?wlx) ?wll ?_); (case wll => walk_at "sq"))
  | ((with_reducible refine U.w_tupL (xs := ?wlx) ?wll ?_); (case wll => walk_at "sq"))
  | (with_reducible refine U.w_isi_ii ?_)
  | (with_reducible refine U.w_isi_ib ?_)
  | (with_reducible refine U.w_isi_it ?_)
  | (with_reducible refine U.w_isi_il ?_)
  | (with_reducible refine U.w_isi_ss ?_)
  | (with_reducible refine U.w_isi_st ?_)
  | (with_reducible refine U.w_isi_sl ?_)
  | (with_reducible refine U.w_isi_nt ?_)
  | (with_reducible refine U.w_isi_nl ?_)
  | (with_reducible refine U.w_isi_ni ?_)
  | ((with_reducible refine U.w_isi_tt (xs := ?wix) ?wis ?_); (case wis => walk_at "sq"))
  | ((with_reducible refine U.w_isi_lt (xs := ?wix) ?wis ?_); (case wis => walk_at "sq"))
  | ((with_reducible refine U.w_isi_ll (xs := ?wix) ?wis ?_); (case wis => walk_at "sq"))
  | ((with_reducible refine U.w_isi_tl (xs := ?wix) ?wis ?_); (case wis => walk_at "sq"))
  | ((with_reducible refine U.w_eqT ?wes ?_); (case wes => exact rfl))
  | ((with_reducible refine U.w_neT ?wes ?_); (case wes => exact rfl))
  | ((with_reducible refine U.w_eqF ?wes ?wef ?_); (case wes => exact rfl); (case wef => decide +kernel))
  | ((with_reducible refine U.w_neF ?wes ?wef ?_); (case wes => exact rfl); (case wef => decide +kernel))
  | ((with_reducible refine U.w_ixLL (xs := ?wxx) (v := ?wxv) ?wxl ?wxi ?_); (case wxl => walk_at "sq"); (case wxi => exact rfl))
  | ((with_reducible refine U.w_ixTT (xs := ?wxx) (v := ?wxv) ?wxl ?wxi ?_); (case wxl => walk_at "sq"); (case wxi => exact rfl))
  | walk_at "own1")
local macro_rules | `(tactic| walk_at "go") => `(tactic| repeat walk_at "go1")
local macro_rules | `(tactic| walk_at "st") => `(tactic| ((try dsimp only [U.cxk, U.cxkn]); walk_at "go"))
local macro_rules | `(tactic| walk_at "if") => `(tactic| (with_reducible refine U.w_seqIf (σ' := ?wss) ?wse ?_); (case wse => ((try simp only [List.set_cons_zero, List.set_cons_succ]); exact rfl)); walk_at "go")
local macro_rules | `(tactic| walk_at "set") => `(tactic| ((try simp only [List.set_cons_zero, List.set_cons_succ]); exact rfl))
namespace K02
open PySem PySem.Spec PyProof.Rows L2 U
def top (i : Nat) : Stmt := PySem.Challenge.pw_unwind_k02_the_first_stretch.main.body.getD i (.Pass ⟨0, 0, 0, 0⟩)
/-! ### the mirror -/
def cellAt (ns : List Int) (k : Int) : Int := (ns[k.toNat]?).getD 0
def stretch (c far : Int) : Int × Int × Int := (c % far - 1, c % far - 1 + c / far % 9, c / far / 9 % 1000)
def goal (place : Int) : List (Int × Int × Int) → Option Int
  | [] => none
  | t :: r => if t.1 ≤ place ∧ place < t.2.1 then some t.2.2 else goal place r
theorem goal_cons {place : Int} {t : Int × Int × Int} {r : List (Int × Int × Int)} : goal place (t :: r) = if t.1 ≤ place ∧ place < t.2.1 then some t.2.2 else goal place r := rfl
@[reducible] def optV : Option Int → V
  | none => .non
  | some i => .int i
def enc3 (t : Int × Int × Int) : PyData := .tuple [.int t.1, .int t.2.1, .int t.2.2]
/-! ### promises -/
def spCell (K : PySem.W.Frag) : Sp := fun vs H Q _ => ∃ (a : Addr) (ns : List Int) (k : Int), vs = [.ref a, .int k] ∧ SqL K H a (ns.map V.int) ∧ 0 ≤ k ∧ Q (.int (cellAt ns k)) H
def spStretch : Sp := fun vs H Q _ => ∃ (c far : Int), vs = [.int c, .int far] ∧ 0 < far ∧ far < 1073741824 ∧
  ∀ p, H p = none → Q (.ref p) (upd H p (.tup [.int (stretch c far).1, .int (stretch c far).2.1, .int (stretch c far).2.2]))
def spGoal (K : PySem.W.Frag) : Sp := fun vs H Q _ => ∃ (a : Addr) (xs : List V) (ts : List (Int × Int × Int)) (place : Int), vs = [.ref a, .int place] ∧ SqL K H a xs ∧ DpAll K H xs (ts.map enc3) ∧ Q (optV (goal place ts)) H
section
variable {P : Program} {w : World} {K : PySem.W.Frag} {mg : Str → Option Value} {base : Heap}
theorem ca_cell (B : Bi mg) (D : Df K mg "_law_cell_at" (top 3)) : Ca P w K mg base CX0 1 "_law_cell_at" (spCell K) := by
  have sc : FnScope ["_law_script", "_law_k"] ["_law_script", "_law_k"] (defScope (top 3)) := ⟨rfl, rfl, rfl, by decide +kernel, rfl, by decide +kernel, by decide +kernel⟩
  have nd := sc.nd
  refine D.ca0 sc (fun _ _ _ _ _ _ us hl => match us, hl with | [_, _], _ => rfl) (fun vs H Q E h => by obtain ⟨a, ns, k, rfl, _⟩ := h; rfl) (fun f cdv A outer s H vs Q E hr h => ?_)
  obtain ⟨a, ns, k, rfl, hS, hk, q⟩ := h
  refine ⟨_, (pss_cons (ps_if (pt_cmpR op_lt (pv 1) (pe_callB call_lenA rfl B.len PySem.boot_len (pa_cons (pv 0) pa_nil)) (nomark _)) (pss_one (ps_ret (pe_ix ix_lt (pv 0) (pv 1) (fun _ _ => rfl)))) pss_nil)
    (pss_one (ps_ret pe_int))), ?_⟩
  walk_at "st"
  walk_at "if"
  have hl : (ns.map V.int).length = ns.length := List.length_map _
  rw [hl]
  refine it_cases (fun c => ?_) fun c => ?_
  · walk_at "go"
    refine w_ixLL hS (v := .int (cellAt ns k)) ?_ q
    have e : k = ((k.toNat : Nat) : Int) := by omega
    have hk : k.toNat < ns.length := by omega
    have e2 : atI (ns.map V.int) ((k.toNat : Nat) : Int) = some (.int (cellAt ns k)) := atI_nat (by
      unfold cellAt
      rw [List.getElem?_map, List.getElem?_eq_getElem hk]
      rfl)
    rw [← e] at e2
    exact e2
  · walk_at "go"
    have e : cellAt ns k = 0 := by
      unfold cellAt
      rw [List.getElem?_eq_none_iff.mpr (by omega)]
      rfl
    rw [e] at q
    exact q
theorem ca_stretch (D : Df K mg "_law_stretch" (top 4)) : Ca P w K mg base CX0 1 "_law_stretch" spStretch := by
  have sc : FnScope ["_law_cell", "_law_far", "_law_first"] ["_law_cell", "_law_far"] (defScope (top 4)) := ⟨rfl, rfl, rfl, by decide +kernel, rfl, by decide +kernel, by decide +kernel⟩
  have nd := sc.nd
  refine D.ca0 sc (fun _ _ _ _ _ _ us hl => match us, hl with | [_, _], _ => rfl) (fun vs H Q E h => by obtain ⟨a, k, rfl, _⟩ := h; rfl) (fun f cdv A outer s H vs Q E hr h => ?_)
  obtain ⟨c, far, rfl, h0, h1, q⟩ := h
  refine ⟨_, (pss_cons (ps_set (i := 2) nd rfl (by first | exact Or.inl rfl | exact Or.inr rfl) (pe_op op_sub (pe_op op_mod (pv 0) (pv 1)) pe_int))
    (pss_one (ps_ret (pe_tup (pa_cons (pv 2) (pa_cons (pe_op op_add (pv 2) (pe_op op_mod (pe_op op_fdiv (pv 0) (pv 1)) pe_int)) (pa_cons (pe_op op_mod (pe_op op_fdiv (pe_op op_fdiv (pv 0) (pv 1)) pe_int) pe_int) pa_nil))))))), ?_⟩
  walk_at "st"
  exact q
theorem ca_goal (D : Df K mg "goal_of" (top 1)) : Ca P w K mg base CX0 1 "goal_of" (spGoal K) := by
  have sc : FnScope ["stretches", "place", "first", "behind", "goal"] ["stretches", "place"] (defScope (top 1)) := ⟨rfl, rfl, rfl, by decide +kernel, rfl, by decide +kernel, by decide +kernel⟩
  have nd := sc.nd
  refine D.ca0 sc (fun _ _ _ _ _ _ us hl => match us, hl with | [_, _], _ => rfl) (fun vs H Q E h => by obtain ⟨a, xs, ts, place, rfl, _⟩ := h; rfl) (fun f cdv A outer s H vs Q E hr h => ?_)
  obtain ⟨a, xs, ts, place, rfl, hS, hD, q⟩ := h
  refine ⟨_, (pss_cons (ps_for PassesOwn.never rfl (pi_list (pv 0)) (pg_tup rfl (pgs_cons (pg_name (i := 2) nd rfl (by first | exact Or.inl rfl | exact Or.inr rfl)) (pgs_cons (pg_name (i := 3) nd rfl (by first | exact Or.inl rfl | exact Or.inr rfl)) (pgs_cons (pg_name (i := 4) nd rfl (by first | exact Or.inl rfl | exact Or.inr rfl)) pgs_nil)))) (pss_one (ps_if (pt_chain op_le op_lt (pv 2) (pv 1) (pv 3)) (pss_one (ps_ret (pv 4))) pss_nil)))
    (pss_one (ps_ret pe_non))), ?_⟩
  walk_at "st"
  refine for_L (fun i σ H' => H' = H ∧ (∃ v2 v3 v4, σ = [some (.ref a), some (.int place), v2, v3, v4]) ∧ goal place ts = goal place (ts.drop i)) hS ⟨rfl, ⟨none, none, none, rfl⟩, rfl⟩ (fun i σ H' _ p => by rw [p.1]; exact hS) (fun i x σ H' hx p => ?_) (fun σ H' p => ?_)
  · obtain ⟨rfl, ⟨v2, v3, v4, rfl⟩, e⟩ := p
    obtain ⟨d, hd, hdx⟩ := hD.get hx
    rw [List.getElem?_map] at hd
    obtain ⟨t, ht, rfl⟩ := Option.map_eq_some_iff.mp hd
    obtain ⟨p, w1, w2, w3, rfl, hT, h1, h2, h3⟩ := dp_tup3 hdx
    cases dp_int h1
    cases dp_int h2
    cases dp_int h3
    have e2 := List.drop_eq_getElem_cons (List.getElem?_eq_some_iff.mp ht).1
    rw [(List.getElem?_eq_some_iff.mp ht).2] at e2
    rw [e2] at e
    walk_at "go"
    refine it_cases (fun c => ?_) fun c => ?_
    · walk_at "go"
      refine it_cases (fun c' => ?_) fun c' => ?_
      · walk_at "go"
        rw [goal_cons] at e
        rw [if_pos ⟨c, c'⟩] at e
        rw [e] at q
        exact q
      · walk_at "go"
        rw [goal_cons] at e
        rw [if_neg (fun z => c' z.2)] at e
        exact ⟨rfl, ⟨_, _, _, rfl⟩, e⟩
    · walk_at "go"
      rw [goal_cons] at e
      rw [if_neg (fun z => c z.1)] at e
      exact ⟨rfl, ⟨_, _, _, rfl⟩, e⟩
  · obtain ⟨rfl, ⟨v2, v3, v4, rfl⟩, e⟩ := p
    have l : xs.length = ts.length := by rw [hD.len, List.length_map]
    rw [l, List.drop_length] at e
    rw [e] at q
    walk_at "go"
    exact q
/-! ### the law -/
theorem w_cell {K : PySem.W.Frag} {H : Hp} {Q : VK} {E : XK} {a : Addr} {ns : List Int} {k : Int} (hS : SqL K H a (ns.map V.int)) (hk : 0 ≤ k) (h : Q (.int (cellAt ns k)) H) : spCell K ([.ref a, .int k] ++ []) H Q E := ⟨a, ns, k, rfl, hS, hk, h⟩
theorem w_stretch {H : Hp} {Q : VK} {E : XK} {c far : Int} (h0 : 0 < far) (h1 : far < 1073741824) (h : ∀ p, H p = none → Q (.ref p) (upd H p (.tup [.int (stretch c far).1, .int (stretch c far).2.1, .int (stretch c far).2.2]))) : spStretch ([.int c, .int far] ++ []) H Q E := ⟨c, far, rfl, h0, h1, h⟩
local macro_rules | `(tactic| walk_at "own1") => `(tactic| first
  | ((with_reducible refine w_cell (ns := ?wcn) ?wcs ?wck ?_); (case wcs => walk_at "sq"); (case wck => decide))
  | ((with_reducible refine w_stretch ?wcs ?wck ?_); (case wcs => omega); (case wck => omega)))
def far (ns : List Int) : Int := if cellAt ns 0 % 2 = 0 then 22 else 1000000
def rows (ns : List Int) (far : Int) : List (Int × Int × Int) := if cellAt ns 0 / 2 % 4 = 1 then (List.range (cellAt ns 0 / 8 % 61).toNat).map (fun k : Nat => stretch (cellAt ns 2 * 48271 % 1000003 * ((k : Int) + 1)) far) else (ns.drop 2).map (fun c => stretch c far)
theorem ok_law (B : Bi mg) (c__law_cell_at : Ca P w K mg base CX0 1 "_law_cell_at" (spCell K)) (c__law_stretch : Ca P w K mg base CX0 1 "_law_stretch" spStretch) (c_goal_of : Ca P w K mg base CX0 1 "goal_of" (spGoal K)) :
    ∀ f fd, LawF K (top 5) f fd → FnOk P w K mg base CX0 2 f fd ["_law_script"] (spTrue K) := by
  have sc : FnScope ["_law_script", "_law_far", "_law_place", "_law_rows", "_law_cell", "_law_many", "_law_k", "_law_handed", "_law_found", "_law_row"] ["_law_script"] (defScope (top 5)) := ⟨rfl, rfl, rfl, by decide +kernel, rfl, by decide +kernel, by decide +kernel⟩
  have nd := sc.nd
  refine law0 sc (fun vs H Q E h => by obtain ⟨_, _, rfl, _⟩ := h; rfl) (fun f cdv A outer s H vs Q E hr h => ?_)
  obtain ⟨a, ns, rfl, hS, h63, q⟩ := h
  refine ⟨_, (pss_cons (ps_set (i := 1) nd rfl (by first | exact Or.inl rfl | exact Or.inr rfl) (pe_ix ix_lt (pe_lst (pa_cons pe_int (pa_cons (pe_op op_pow pe_int pe_int) pa_nil))) (pe_op op_mod (pe_ca c__law_cell_at hr (by omega) rfl pass0 (pa_cons (pv 0) (pa_cons pe_int pa_nil))) pe_int) (fun _ _ => rfl)))
    (pss_cons (ps_set (i := 2) nd rfl (by first | exact Or.inl rfl | exact Or.inr rfl) (pe_op op_sub (pe_op op_mod (pe_ca c__law_cell_at hr (by omega) rfl pass0 (pa_cons (pv 0) (pa_cons pe_int pa_nil))) (pe_op op_add (pv 1) pe_int)) pe_int))
    (pss_cons (ps_setLc (i := 3) (own := [("_law_cell", 4)]) rfl nd rfl rfl (sw_true rfl rfl rfl (by decide +kernel)) (pi_list (pe_slice sl_list (pv 0) (po_some pe_int) po_none)) (blkOk_by (N := ["_law_script", "_law_far", "_law_place", "_law_rows", "_law_cell", "_law_many", "_law_k", "_law_handed", "_law_found", "_law_row"]) (sc := defScope (top 5)) (by decide +kernel)) (fun _ _ _ _ _ => (pg_name (i := 4) nd rfl (by first | exact Or.inl rfl | exact Or.inr rfl))) (fun _ _ _ _ _ => pts_nil) (fun _ _ _ _ _ => (pe_ca c__law_stretch hr (by omega) rfl pass0 (pa_cons (pv 4) (pa_cons (pv 1) pa_nil)))))
    (pss_cons (ps_if (pt_cmpR op_eq (pe_op op_mod (pe_op op_fdiv (pe_ca c__law_cell_at hr (by omega) rfl pass0 (pa_cons (pv 0) (pa_cons pe_int pa_nil))) pe_int) pe_int) pe_int (nomark _)) (pss_cons (ps_set (i := 5) nd rfl (by first | exact Or.inl rfl | exact Or.inr rfl) (pe_op op_mod (pe_op op_fdiv (pe_ca c__law_cell_at hr (by omega) rfl pass0 (pa_cons (pv 0) (pa_cons pe_int pa_nil))) pe_int) pe_int))
    (pss_one (ps_setLc (i := 3) (own := [("_law_k", 6)]) rfl nd rfl rfl (sw_true rfl rfl rfl (by decide +kernel)) (pi_range1 rfl B.range (pa_cons (pv 5) pa_nil)) (blkOk_by (N := ["_law_script", "_law_far", "_law_place", "_law_rows", "_law_cell", "_law_many", "_law_k", "_law_handed", "_law_found", "_law_row"]) (sc := defScope (top 5)) (by decide +kernel)) (fun _ _ _ _ _ => (pg_name (i := 6) nd rfl (by first | exact Or.inl rfl | exact Or.inr rfl))) (fun _ _ _ _ _ => pts_nil) (fun _ _ _ _ _ => (pe_ca c__law_stretch hr (by omega) rfl pass0 (pa_cons (pe_op op_mul (pe_op op_mod (pe_op op_mul (pe_ca c__law_cell_at hr (by omega) rfl pass0 (pa_cons (pv 0) (pa_cons pe_int pa_nil))) pe_int) pe_int) (pe_op op_add (pv 6) pe_int)) (pa_cons (pv 1) pa_nil))))))) pss_nil)
    (pss_cons (ps_if (PW.pt (pw_and (pt_cmpR op_gt (pe_callB call_lenA rfl B.len PySem.boot_len (pa_cons (pv 3) pa_nil)) pe_int (nomark _)) (pw_and1 (pt_cmpR op_eq (pe_op op_mod (pe_op op_fdiv (pe_ca c__law_cell_at hr (by omega) rfl pass0 (pa_cons (pv 0) (pa_cons pe_int pa_nil))) pe_int) pe_int) pe_int (nomark _))))) (pss_one (ps_set (i := 2) nd rfl (by first | exact Or.inl rfl | exact Or.inr rfl) (pe_op op_sub (pe_ix ix_lt (pe_ix ix_lt (pv 3) (pe_op op_sub (pe_callB call_lenA rfl B.len PySem.boot_len (pa_cons (pv 3) pa_nil)) pe_int) (fun _ _ => rfl)) (pe_op op_mod (pe_op op_fdiv (pe_ca c__law_cell_at hr (by omega) rfl pass0 (pa_cons (pv 0) (pa_cons pe_int pa_nil))) pe_int) pe_int) (fun _ _ => rfl)) (pe_op op_mod (pe_op op_fdiv (pe_ca c__law_cell_at hr (by omega) rfl pass0 (pa_cons (pv 0) (pa_cons pe_int pa_nil))) pe_int) pe_int)))) pss_nil)
    (pss_cons (ps_set (i := 7) nd rfl (by first | exact Or.inl rfl | exact Or.inr rfl) (pe_callTy call_listA rfl B.list (by decide +kernel) (pa_cons (pv 3) pa_nil)))
    (pss_cons (ps_set (i := 8) nd rfl (by first | exact Or.inl rfl | exact Or.inr rfl) (pe_ca c_goal_of hr (by omega) rfl pass0 (pa_cons (pv 7) (pa_cons (pv 2) pa_nil))))
    (pss_cons (ps_if (pt_cmpR (op_neD hr.units) (pv 7) (pv 3) (nomark _)) (pss_one (ps_ret pe_bl)) pss_nil)
    (pss_cons (ps_for PassesOwn.never rfl (pi_list (pv 3)) (pg_name (i := 9) nd rfl (by first | exact Or.inl rfl | exact Or.inr rfl)) (pss_one (ps_if (PW.pt (pw_and (pt_cmpR op_le (pe_ix ix_lt (pv 9) pe_int (fun _ _ => rfl)) (pv 2) (nomark _)) (pw_and1 (pt_cmpR op_lt (pv 2) (pe_ix ix_lt (pv 9) pe_int (fun _ _ => rfl)) (nomark _))))) (pss_one (ps_ret (pe_and (pe_callB call_isiN rfl B.isinstance (by decide +kernel) (pa_cons (pv 8) (pa_cons (pe_bltn (v := .ty "int") rfl B.int (by decide +kernel) rfl) pa_nil))) (pe_and (pe_not (pe_callB call_isiN rfl B.isinstance (by decide +kernel) (pa_cons (pv 8) (pa_cons (pe_bltn (v := .ty "bool") rfl B.bool (by decide +kernel) rfl) pa_nil)))) (pe_one (pe_cmpR op_eq (pv 8) (pe_ix ix_lt (pv 9) pe_int (fun _ _ => rfl)) (nomark _))))))) pss_nil)))
    (pss_one (ps_ret (pe_cmpR op_isNo (pv 8) pe_non (nomark _))))))))))))), ?_⟩
  refine U.w_start (σ' := [some _, none, none, none, none, none, none, none, none, none]) rfl ?_
  walk_at "st"
  have f0 : 0 < far ns := by unfold far; split <;> decide
  have f1 : far ns < 1073741824 := by unfold far; split <;> decide
  intro p np
  walk_at "go"
  refine w_ixLL (xs := _) (v := .int (far ns)) (SqL.of upd_same) ?_ ?_
  · unfold far
    have e : cellAt ns 0 % 2 = 0 ∨ cellAt ns 0 % 2 = 1 := by omega
    rcases e with e | e
    · rw [e]; rfl
    · rw [e]; rfl
  walk_at "go"
  intro p2 np2
  walk_at "go"
  have e2 : cutV (ns.map V.int) (some 2) none = (ns.drop 2).map V.int := by
    unfold cutV
    rw [HT.sIx_none, show (2 : Int) = ((2 : Nat) : Int) from rfl, HT.sIx_nat, List.map_drop]
    by_cases h2 : 2 ≤ ns.length
    · rw [Nat.min_eq_left (by simpa using h2), List.take_of_length_le (by simp)]
    · rw [Nat.min_eq_right (by simp; omega), List.drop_eq_nil_of_le (by simp), List.drop_eq_nil_of_le (by simp; omega)]
      simp
  rw [e2] at *
  refine lc_data (K := K) (W := []) (R := upd (upd H p (.lst [.int 22, .int (10 ^ Int.toNat 6)])) p2 (.lst ((ns.drop 2).map V.int))) (((ns.drop 2).map fun c => stretch c (far ns)).map enc3) (Same.refl _) (fun _ _ => by simp) (SqL.of upd_same) (by simp) (by simp; omega) (fun i x d R1 H1 N hx hd g1 k => ?_) (mono_gName _) mono_yes (fun D R1 H1 ys g1 nD hD rD aD => ?_)
  · rw [List.getElem?_map] at hx
    obtain ⟨c, hc, rfl⟩ := Option.map_eq_some_iff.mp hx
    rw [List.map_map, List.getElem?_map, hc] at hd
    cases hd
    walk_at "go"
    intro p3 np3
    exact k _ _ _ ((Gw.refl g1.sub).new np3 _) (dp_tupN (g1.noR np3) (.cons (.int _) (.cons (.int _) (.cons (.int _) .nil))))
  have hS1 : SqL K H1 a (ns.map V.int) := Same.seqL g1.sub (Same.seqL g1.ext (by walk_at "sq"))
  walk_at "go"
  refine w_ifJ (by walk_at "set") (fun σ' H' => ∃ (D : Addr) (ys : List V) (ts : List (Int × Int × Int)) (v4 v5 v6 : Option V) (pl : Int), σ' = [some (.ref a), some (.int (far ns)), some (.int pl), some (.ref D), v4, v5, v6, none, none, none] ∧ SqL K H' a (ns.map V.int) ∧ SqL K H' D ys ∧ DpAll K H' ys (ts.map enc3) ∧ ts.length ≤ 63) (fun nx' kj => ?_) (fun σ' H' hj => ?_)
  · walk_at "go"
    refine it_cases (fun c => ?_) fun c => ?_
    · walk_at "go"
      refine lc_dataR (K := K) (W := []) (R := H1) (((List.range (cellAt ns 0 / 8 % 61).toNat).map fun k : Nat => stretch (cellAt ns 2 * 48271 % 1000003 * (0 + (k : Int) + 1)) (far ns)).map enc3) (Same.refl _) (fun _ _ => by simp) (by omega) (by omega) (by simp) (by simp; omega) (fun i d R2 H2 N hd g2 k => ?_) (mono_gName _) mono_yes (fun D2 R2 H2 ys2 g2 nD2 hD2 rD2 aD2 => ?_)
      · rw [List.map_map, List.getElem?_map] at hd
        obtain ⟨j, hj, rfl⟩ := Option.map_eq_some_iff.mp hd
        obtain ⟨h1, rfl⟩ := range_get hj
        have hS2 : SqL K H2 a (ns.map V.int) := Same.seqL g2.sub (Same.seqL g2.ext hS1)
        walk_at "go"
        intro p3 np3
        exact k _ _ _ ((Gw.refl g2.sub).new np3 _) (dp_tupN (g2.noR np3) (.cons (.int _) (.cons (.int _) (.cons (.int _) .nil))))
      · walk_at "go"
        exact kj _ _ ⟨D2, ys2, _, _, _, _, _, rfl, Same.seqL g2.sub (Same.seqL g2.ext hS1), SqL.of hD2, aD2.up g2.sub, by simp; omega⟩
    · walk_at "go"
      exact kj _ _ ⟨D, ys, _, _, _, _, _, rfl, hS1, SqL.of hD, aD.up g1.sub, by simp; omega⟩
  obtain ⟨D, ys, ts, v4, v5, v6, pl, rfl, hS2, hD2, aD2, hts⟩ := hj
  have hys : ys.length = ts.length := by rw [aD2.len, List.length_map]
  walk_at "go"
  refine w_ifJ (by walk_at "set") (fun σ' H'' => ∃ pl : Int, σ' = [some (.ref a), some (.int (far ns)), some (.int pl), some (.ref D), v4, v5, v6, none, none, none] ∧ H'' = H') (fun nx' kj => ?_) (fun σ' H'' hj => ?_)
  · walk_at "go"
    refine it_cases (fun c => ?_) fun c => ?_
    · walk_at "go"
      refine it_cases (fun c2 => ?_) fun c2 => ?_
      · walk_at "go"
        have h1 : ys.length - 1 < ys.length := by omega
        have e1 : ys[ys.length - 1]? = some ys[ys.length - 1] := List.getElem?_eq_getElem h1
        obtain ⟨d, hd, hdx⟩ := aD2.get e1
        rw [List.getElem?_map] at hd
        obtain ⟨t, ht, rfl⟩ := Option.map_eq_some_iff.mp hd
        obtain ⟨pt, w1, w2, w3, ep, hT, hw1, hw2, hw3⟩ := dp_tup3 hdx
        cases dp_int hw1
        cases dp_int hw2
        cases dp_int hw3
        rw [ep] at e1
        refine w_ixLL hD2 (v := .ref pt) (at_of (j := ys.length - 1) (by omega) e1) ?_
        walk_at "go"
        have e : cellAt ns 1 / 21 % 2 = 0 ∨ cellAt ns 1 / 21 % 2 = 1 := by omega
        rcases e with e | e
        · rw [e]
          walk_at "go"
          exact kj _ _ ⟨_, rfl, rfl⟩
        · rw [e]
          walk_at "go"
          exact kj _ _ ⟨_, rfl, rfl⟩
      · walk_at "go"
        exact kj _ _ ⟨_, rfl, rfl⟩
    · walk_at "go"
      exact kj _ _ ⟨_, rfl, rfl⟩
  obtain ⟨pl, rfl, rfl⟩ := hj
  walk_at "go"
  intro p7 np7
  walk_at "go"
  refine ⟨p7, ys, ts, pl, rfl, SqL.of upd_same, aD2.up (same_new np7 _), ?_⟩
  walk_at "go"
  walk_at "if"
  refine w_neD (d := .list (ts.map enc3)) (.lst (SqL.of upd_same) (aD2.up (same_new np7 _))) (.lst (Same.seqL (same_new np7 _) hD2) (aD2.up (same_new np7 _))) (shaped_list (n := 1) (fun d hd => ?_) (by decide)) ?_
  · obtain ⟨t, _, rfl⟩ := List.mem_map.mp hd
    exact ⟨rfl, by show (1 : Nat) ≤ 1; decide⟩
  walk_at "go"
  have aD7 := aD2.up (same_new np7 (.lst ys))
  refine for_L (fun i σ H7 => H7 = upd H'' p7 (.lst ys) ∧ (∃ v9, σ = [some (.ref a), some (.int (far ns)), some (.int pl), some (.ref D), v4, v5, v6, some (.ref p7), some (optV (goal pl ts)), v9]) ∧ goal pl ts = goal pl (ts.drop i)) (Same.seqL (same_new np7 _) hD2) ⟨rfl, ⟨none, rfl⟩, rfl⟩ (fun i σ H' _ p => by rw [p.1]; exact Same.seqL (same_new np7 _) hD2) (fun i x σ H' hx p => ?_) (fun σ H' p => ?_)
  · obtain ⟨rfl, ⟨v9, rfl⟩, e⟩ := p
    obtain ⟨d, hd, hdx⟩ := aD7.get hx
    rw [List.getElem?_map] at hd
    obtain ⟨t, ht, rfl⟩ := Option.map_eq_some_iff.mp hd
    obtain ⟨p, w1, w2, w3, rfl, hT, h1, h2, h3⟩ := dp_tup3 hdx
    cases dp_int h1
    cases dp_int h2
    cases dp_int h3
    have e2 := List.drop_eq_getElem_cons (List.getElem?_eq_some_iff.mp ht).1
    rw [(List.getElem?_eq_some_iff.mp ht).2] at e2
    rw [e2, goal_cons] at e
    walk_at "go"
    refine it_cases (fun c => ?_) fun c => ?_
    · walk_at "go"
      refine it_cases (fun c' => ?_) fun c' => ?_
      · rw [if_pos ⟨c, c'⟩] at e
        rw [e]
        walk_at "go"
        show Q (.bl (decide (t.2.2 = t.2.2))) _
        rw [decide_eq_true rfl]
        exact q _
      · rw [if_neg (fun z => c' z.2)] at e
        walk_at "go"
        exact ⟨rfl, ⟨_, rfl⟩, e⟩
    · rw [if_neg (fun z => c z.1)] at e
      walk_at "go"
      exact ⟨rfl, ⟨_, rfl⟩, e⟩
  · obtain ⟨rfl, ⟨v9, rfl⟩, e⟩ := p
    rw [hys, List.drop_length] at e
    rw [e, show goal pl [] = none from rfl]
    walk_at "go"
    exact q _
end
def ds : List (Str × Stmt) := [("goal_of", top 1), ("_law_cell_at", top 3), ("_law_stretch", top 4), ("law", top 5)]
abbrev R : PySem.W.OpenRow := PySem.W.OpenLaw.row PySem.Challenge.rw_unwind_k02_the_first_stretch
abbrev hk : PySem.W.Hook := He.hookD 4 (faOf ds) (ds.map mkD)
def ob (s : PySem.W.SharedT) : He.AlD := He.obsDG 4 (faOf ds) (ds.map mkD) (HandSHeadRun.getT s)
theorem ob_eq (s : PySem.W.SharedT) : ob s = hk.obs s.abs := He.obsDG_eq (HandSHeadRun.getT_eq s)
theorem run (w : World) : HandSHeadRun.RunEq R (PySem.W.view R.prog [5]) hk ob 400 ["goal_of", "_law_cell_at", "_law_stretch"] w := by
  intro os
  kernel_rfl
end K02
open PySem PySem.W PySem.Calls PyProof.Rows
theorem PySem.Challenge.cw_unwind_k02_the_first_stretch_holds : PySem.Challenge.rw_unwind_k02_the_first_stretch.Holds := by
  w_on; o_law
  refine HandSHeadRun.head_any (r := OpenLaw.row PySem.Challenge.rw_unwind_k02_the_first_stretch) (q := view (OpenLaw.row PySem.Challenge.rw_unwind_k02_the_first_stretch).prog [5]) (H := K02.hk) (ob := K02.ob) (M := 400) (loose := ["goal_of", "_law_cell_at", "_law_stretch"]) (d := HandSHeadRun.topDef (OpenLaw.row PySem.Challenge.rw_unwind_k02_the_first_stretch).prog 5) (kwd := []) K02.ob_eq
    (by kernel_rfl) (fun s => by kernel_rfl) K02.run (by kernel_rfl) (by kernel_rfl) (by kernel_rfl) (by rfl) (by first | assumption | decide +kernel) (by decide +kernel) ⟨rfl, rfl, rfl, rfl, rfl, by decide +kernel⟩ ?hw ?hc
  case hw => w_witness2
  case hc =>
    refine U.walk_my (l := PySem.Challenge.rw_unwind_k02_the_first_stretch) (k := 2) (j := 3) (x := "_law_script") (ds := K02.ds) (st := K02.top 5) rfl (by kernel_rfl) ⟨rfl, by decide, by decide⟩ (by kernel_rfl) rfl (fun _ _ _ _ _ _ us hl => match us, hl with | [_], _ => rfl) ?F
    intro w K mg h base X G c _ _
    have B := U.bi_i X G c
    exact K02.ok_law B (K02.ca_cell B (U.df_i X G c 1)) (K02.ca_stretch (U.df_i X G c 2)) (K02.ca_goal (U.df_i X G c 0))
