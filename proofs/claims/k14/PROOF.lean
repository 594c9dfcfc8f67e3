import PyProof.Rows.All
import Wide.All
import OpenK.AllK
import Wide.FinOn
import HandS.ForMost
import HandS.Wide
import HandS.Evl
import HandS.IsInst
import HandS.TupAny
import HandS.TupMul
import HandS.TupLe
import HandS.Dict
import HandS.Conv
import PySem.Challenge.RW_onestepcourt_k14_one_step_of_registers
import HandS.Strs
set_option Elab.async false
set_option linter.all false
set_option maxRecDepth 100000
namespace Kit
open PySem PySem.Spec PyProof.Rows L2 Evl
abbrev St := L2.St
/-! ### facts of the text -/
structure GFn (K : PySem.W.Frag) (x qual : Str) (st : Stmt) (ps : List Str) where
  f : Addr
  fd : FuncData
  F : Fun K x qual st f fd
  b : Binds K fd ps []
structure GFn' (K : PySem.W.Frag) (mg : Str → Option Value) (x qual : Str) (st : Stmt) (ps : List Str) extends GFn K x qual st ps where
  g : mg x = some (.ref f)
structure GCl (K : PySem.W.Frag) (mg : Str → Option Value) (x : Str) (fI : Addr) where
  C : Addr
  cl : Cls K C
  M : Mk K C fI
  g : mg x = some (.ref C)
/-- an attribute read; a method's receiver; a new instance; an attribute stored -/
def FldOf (K : PySem.W.Frag) (f : Str) (x : V) (H : Hp) (Q : VK) : Prop := ∃ a C dx fs v, x = .ref a ∧ H a = some (.ins C dx fs) ∧ Cls K C ∧ NoAttr K C f ∧ fs.lookup f = some v ∧ Q v H
def InsOf (C : Addr) (m : Str) (x : V) (H : Hp) (R : Prop) : Prop := ∃ a dx fs, x = .ref a ∧ H a = some (.ins C dx fs) ∧ fs.lookup m = none ∧ R
def MakeOf (C : Addr) (sp : Sp) (E : XK) (vs : List V) (H : Hp) (Q : VK) : Prop := ∀ x dx, H x = none → H dx = none → dx ≠ x → sp (.ref x :: vs) (upd (upd H dx (.own x)) x (.ins C dx [])) (fun v H2 => v = .non ∧ Q (.ref x) H2) E
def PutOf (K : PySem.W.Frag) (f : Str) (y x : V) (H : Hp) (R : Hp → Prop) : Prop := ∃ a C dx fs, x = .ref a ∧ H a = some (.ins C dx fs) ∧ Cls K C ∧ NoAttr K C f ∧ fs.length < 1000 ∧ R (upd H a (.ins C dx (putF f y fs)))
/-- a new object of so many items -/
def Alloc (n : Nat) (o : HO) (H : Hp) (Q : VK) : Prop := n ≤ sizeLine ∧ ∀ p, H p = none → Q (.ref p) (upd H p o)
/-! ### a statement with its four ways out -/
def Sm (t : TS) (nx : St → Hp → Prop) (rt : VK) (bk ct : St → Hp → Prop) (σ : St) (H : Hp) : Prop := t ⟨nx, rt, bk, ct⟩ σ H
section
variable {σ : St} {H H1 H2 : Hp} {Q : VK} {R : Bool → Hp → Prop} {A : List V → Hp → Prop} {i n : Nat} {v x y : V} {ta tb te tv : TE} {tl tr : TA} {b : Bool} {K : PySem.W.Frag} {a C dx p : Addr} {fs : List (Str × V)} {f : Str} {t u c : TT}
theorem w_var (h : σ[i]? = some (some v)) (q : Q v H) : tVar i σ H Q := ⟨v, h, q⟩
theorem w_c (q : Q v H) : tC v σ H Q := q
theorem w_op {r : R2} (h : ta σ H fun x H1 => tb σ H1 fun y H2 => r x y H2 Q) : tOp r ta tb σ H Q := h
theorem w_un {r : V → Hp → VK → Prop} (h : ta σ H fun x H1 => r x H1 Q) : tUn r ta σ H Q := h
theorem w_cb {r : List V → Hp → VK → Prop} (h : tl σ H fun vs H1 => r vs H1 Q) : tCB r tl σ H Q := h
theorem w_nil (q : A [] H) : tNil σ H A := q
theorem w_cons (h : te σ H fun x H1 => tr σ H1 fun xs H2 => A (x :: xs) H2) : tCons te tr σ H A := h
theorem w_tup (h : tl σ H fun xs H1 => Alloc xs.length (.tup xs) H1 Q) : tTup tl σ H Q := h
theorem w_lst (h : tl σ H fun xs H1 => Alloc xs.length (.lst xs) H1 Q) : tLst tl σ H Q := h
theorem w_call {sp : Sp} {dvs : List V} {E : XK} (h : tl σ H fun vs H1 => sp (vs ++ dvs) H1 Q E) : tCall sp dvs E tl σ H Q := h
theorem w_test (h : te σ H fun x H' => ∃ k, x = .bl k ∧ R k H') : tTest te σ H R := h
theorem w_B (h : te σ H fun x H' => ∃ k, x = .bl k ∧ R k H') : tB te σ H R := h
theorem w_and (h : t σ H fun c H1 => if c = true then u σ H1 R else R false H1) : tAnd t u σ H R := h
theorem w_or (h : t σ H fun c H1 => if c = true then R true H1 else u σ H1 R) : tOr t u σ H R := h
theorem w_not (h : t σ H fun c H1 => R (!c) H1) : tNot t σ H R := h
theorem w_andV (h : ta σ H fun x H1 => ∃ c, x = .bl c ∧ if c = true then tb σ H1 Q else Q (.bl false) H1) : tAndV ta tb σ H Q := h
theorem w_orV (h : ta σ H fun x H1 => ∃ c, x = .bl c ∧ if c = true then Q (.bl true) H1 else tb σ H1 Q) : tOrV ta tb σ H Q := h
theorem w_notV (h : ta σ H fun x H1 => ∃ c, x = .bl c ∧ Q (.bl (!c)) H1) : tNotV ta σ H Q := h
theorem w_ifE (h : t σ H fun c H1 => if c = true then ta σ H1 Q else tb σ H1 Q) : tIf t ta tb σ H Q := h
theorem w_fld (h : ta σ H fun x H1 => FldOf K f x H1 Q) : tFld K ta f σ H Q := h
theorem w_rd {v : V} (h : H a = some (.ins C dx fs)) (cl : Cls K C) (n : NoAttr K C f) (l : fs.lookup f = some v) (q : Q v H) : FldOf K f (.ref a) H Q := ⟨a, C, dx, fs, v, rfl, h, cl, n, l, q⟩
theorem w_meth {m : Str} {sp : Sp} {E : XK} (h : ta σ H fun x H1 => InsOf C m x H1 (tl σ H1 fun vs H2 => sp (x :: vs) H2 Q E)) : tMeth C m sp [] E ta tl σ H Q := by
  have e : tMeth C m sp [] E ta tl σ H Q = (ta σ H fun x H1 => InsOf C m x H1 (tl σ H1 fun vs H2 => sp (x :: vs) H2 Q E)) := by unfold tMeth InsOf; simp only [List.append_nil]
  rw [e]; exact h
theorem w_ins {m : Str} {R : Prop} (h : H a = some (.ins C dx fs)) (l : fs.lookup m = none) (r : R) : InsOf C m (.ref a) H R := ⟨a, dx, fs, rfl, h, l, r⟩
theorem w_make {sp : Sp} {E : XK} (h : tl σ H fun vs H1 => MakeOf C sp E vs H1 Q) : tMake C sp [] E tl σ H Q := by
  have e : tMake C sp [] E tl σ H Q = (tl σ H fun vs H1 => MakeOf C sp E vs H1 Q) := by unfold tMake MakeOf; simp only [List.append_nil]
  rw [e]; exact h
theorem w_made {sp : Sp} {E : XK} {vs : List V} (h : ∀ x dx H2, H x = none → Ex H H2 → H2 x = some (.ins C dx []) → sp (.ref x :: vs) H2 (fun v H3 => v = .non ∧ Q (.ref x) H3) E) : MakeOf C sp E vs H Q :=
  fun x dx hx hd hn => h x dx _ hx (fun b o hb => by rw [upd_ne (ne_of_none hb hx), upd_ne (ne_of_none hb hd)]; exact hb) upd_same
theorem w_bl {k : Bool} (q : R k H) : ∃ k', V.bl k = .bl k' ∧ R k' H := ⟨k, rfl, q⟩
theorem w_blE {k : Bool} {P : Bool → Prop} (q : P k) : ∃ k', V.bl k = .bl k' ∧ P k' := ⟨k, rfl, q⟩
/-- operators -/
theorem w_I0 {g : Int → Int → V} {i j : Int} (q : Q (g i j) H) : rI0 g (.int i) (.int j) H Q := ⟨i, j, rfl, rfl, q⟩
theorem w_I {C : Int → Int → Prop} {g : Int → Int → V} {i j : Int} (hc : C i j) (q : Q (g i j) H) : rI C g (.int i) (.int j) H Q := ⟨i, j, rfl, rfl, hc, q⟩
theorem w_U {g : Int → V} {i : Int} (q : Q (g i) H) : rU g (.int i) H Q := ⟨i, rfl, q⟩
theorem w_eqI {i j : Int} (q : Q (.bl (decide (i = j))) H) : rEq (.int i) (.int j) H Q := ⟨rfl, by
  have e : decide (V.int i = V.int j) = decide (i = j) := by
    by_cases h : i = j
    · subst h; rw [decide_eq_true rfl, decide_eq_true rfl]
    · rw [decide_eq_false h, decide_eq_false (fun z => h (V.int.inj z))]
  rw [e]; exact q⟩
theorem w_neI {i j : Int} (q : Q (.bl (!decide (i = j))) H) : rNe (.int i) (.int j) H Q := ⟨rfl, by
  have e : decide (V.int i = V.int j) = decide (i = j) := by
    by_cases h : i = j
    · subst h; rw [decide_eq_true rfl, decide_eq_true rfl]
    · rw [decide_eq_false h, decide_eq_false (fun z => h (V.int.inj z))]
  rw [e]; exact q⟩
theorem w_eqB {i j : Bool} (q : Q (.bl (i == j)) H) : rEq (.bl i) (.bl j) H Q := ⟨rfl, by rw [dec_bl]; exact q⟩
theorem w_neB {i j : Bool} (q : Q (.bl (!(i == j))) H) : rNe (.bl i) (.bl j) H Q := ⟨rfl, by rw [dec_bl]; exact q⟩
theorem w_eqS {i : Str} (q : Q (.bl true) H) : rEq (.str i) (.str i) H Q := ⟨rfl, by rw [decide_eq_true rfl]; exact q⟩
theorem w_eqSF {i j : Str} (h : decide (i = j) = false) (q : Q (.bl false) H) : rEq (.str i) (.str j) H Q := ⟨rfl, by
  rw [decide_eq_false (fun z => of_decide_eq_false h (V.str.inj z))]; exact q⟩
theorem w_eqSd {i j : Str} (q : Q (.bl (decide (i = j))) H) : rEq (.str i) (.str j) H Q := ⟨rfl, by
  have e : decide (V.str i = V.str j) = decide (i = j) := by
    by_cases h : i = j
    · subst h; rw [decide_eq_true rfl, decide_eq_true rfl]
    · rw [decide_eq_false h, decide_eq_false (fun z => h (V.str.inj z))]
  rw [e]; exact q⟩
theorem w_neS {i : Str} (q : Q (.bl false) H) : rNe (.str i) (.str i) H Q := ⟨rfl, by rw [decide_eq_true rfl]; exact q⟩
theorem w_isN (q : Q (.bl (decide (x = .non))) H) : (fun (x y : V) (H : Hp) (Q : VK) => y = .non ∧ Q (.bl (decide (x = .non))) H) x .non H Q := ⟨rfl, q⟩
theorem w_ixL {p : Addr} {xs : List V} {i : Int} (h : SqL K H p xs) (ha : atI xs i = some v) (q : Q v H) : rIxL K (.ref p) (.int i) H Q := ⟨p, xs, i, v, rfl, rfl, h, ha, q⟩
theorem w_ixT {p : Addr} {xs : List V} {i : Int} (h : SqT K H p xs) (ha : atI xs i = some v) (q : Q v H) : rIxT K (.ref p) (.int i) H Q := ⟨p, xs, i, v, rfl, rfl, h, ha, q⟩
theorem w_inL {neg : Bool} {p : Addr} {xs : List V} (h : SqL K H p xs) (hx : flatV x = true) (ha : xs.all flatV = true) (q : Q (.bl (if neg then !inV x xs else inV x xs)) H) : rIn K neg x (.ref p) H Q := ⟨p, xs, rfl, Or.inl h, hx, ha, q⟩
theorem w_inT {neg : Bool} {p : Addr} {xs : List V} (h : SqT K H p xs) (hx : flatV x = true) (ha : xs.all flatV = true) (q : Q (.bl (if neg then !inV x xs else inV x xs)) H) : rIn K neg x (.ref p) H Q := ⟨p, xs, rfl, Or.inr h, hx, ha, q⟩
theorem w_call0 {sp : Sp} {E : XK} (h : tl σ H fun vs H1 => sp vs H1 Q E) : tCall sp [] E tl σ H Q := by
  have e : tCall sp [] E tl σ H Q = (tl σ H fun vs H1 => sp vs H1 Q E) := by unfold tCall; simp only [List.append_nil]
  rw [e]; exact h
theorem w_inLt {p : Addr} {xs : List V} (h : SqL K H p xs ∨ SqT K H p xs) (hb : (flatV x && xs.all flatV && inV x xs) = true) (q : Q (.bl true) H) : rIn K false x (.ref p) H Q := by
  simp only [Bool.and_eq_true] at hb
  exact ⟨p, xs, rfl, h, hb.1.1, hb.1.2, by rw [hb.2]; exact q⟩
theorem w_inLf {p : Addr} {xs : List V} (h : SqL K H p xs ∨ SqT K H p xs) (hb : (flatV x && xs.all flatV && !inV x xs) = true) (q : Q (.bl false) H) : rIn K false x (.ref p) H Q := by
  simp only [Bool.and_eq_true, Bool.not_eq_true'] at hb
  exact ⟨p, xs, rfl, h, hb.1.1, hb.1.2, by rw [hb.2]; exact q⟩
/-- built-ins by names -/
def rInt : List V → Hp → VK → Prop := fun xs H Q => (∃ i, xs = [.int i] ∧ Q (.int i) H) ∨ ∃ k, xs = [.bl k] ∧ Q (.int (if k then 1 else 0)) H
def rMax : List V → Hp → VK → Prop := fun xs H Q => ∃ i j, xs = [.int i, .int j] ∧ Q (.int (if j > i then j else i)) H
def rMin : List V → Hp → VK → Prop := fun xs H Q => ∃ i j, xs = [.int i, .int j] ∧ Q (.int (if j < i then j else i)) H
def rAbs : List V → Hp → VK → Prop := fun xs H Q => ∃ i, xs = [.int i] ∧ Q (.int (if i < 0 then -i else i)) H
def rTupS (K : PySem.W.Frag) : List V → Hp → VK → Prop := fun xs H Q => ∃ p ys, xs = [.ref p] ∧ ((SqL K H p ys ∧ ∀ l, H l = none → Q (.ref l) (upd H l (.tup ys))) ∨ (SqT K H p ys ∧ Q (.ref p) H))
theorem k_int {X : Cx} : CallR X (.type "int") rInt := call_int1
theorem k_max {X : Cx} (hc : X.calm = true) : CallR X (.builtin "max") rMax := call_max2 hc
theorem k_min {X : Cx} (hc : X.calm = true) : CallR X (.builtin "min") rMin := call_min2 hc
theorem k_abs {X : Cx} : CallR X (.builtin "abs") rAbs := call_abs
theorem k_len {X : Cx} : CallR X (.builtin "len") (rLenS X.K) := call_len_seq
theorem k_list {X : Cx} : CallR X (.type "list") (rListS X.K) := call_list_of
theorem k_tuple {X : Cx} : CallR X (.type "tuple") (rTupS X.K) := call_tuple_of
theorem w_int {i : Int} (q : Q (.int i) H) : rInt [.int i] H Q := .inl ⟨i, rfl, q⟩
theorem w_intB {k : Bool} (q : Q (.int (if k = true then 1 else 0)) H) : rInt [.bl k] H Q := .inr ⟨k, rfl, q⟩
theorem w_max {i j : Int} (q : Q (.int (if j > i then j else i)) H) : rMax [.int i, .int j] H Q := ⟨i, j, rfl, q⟩
theorem w_min {i j : Int} (q : Q (.int (if j < i then j else i)) H) : rMin [.int i, .int j] H Q := ⟨i, j, rfl, q⟩
theorem w_abs {i : Int} (q : Q (.int (if i < 0 then -i else i)) H) : rAbs [.int i] H Q := ⟨i, rfl, q⟩
theorem w_len {p : Addr} {xs : List V} (h : SqL K H p xs ∨ SqT K H p xs) (q : Q (.int (xs.length : Int)) H) : rLenS K [.ref p] H Q := ⟨p, xs, rfl, h, q⟩
theorem w_list {p : Addr} {xs : List V} (h : SqL K H p xs ∨ SqT K H p xs) (q : ∀ l H2, H l = none → Ex H H2 → H2 l = some (.lst xs) → Q (.ref l) H2) : rListS K [.ref p] H Q := ⟨p, xs, rfl, h, fun l hl => q l _ hl (Ex.new hl) upd_same⟩
theorem w_tuple {p : Addr} {xs : List V} (h : SqL K H p xs) (q : ∀ l H2, H l = none → Ex H H2 → H2 l = some (.tup xs) → Q (.ref l) H2) : rTupS K [.ref p] H Q := ⟨p, xs, rfl, .inl ⟨h, fun l hl => q l _ hl (Ex.new hl) upd_same⟩⟩
theorem w_tupleT {p : Addr} {xs : List V} (h : SqT K H p xs) (q : Q (.ref p) H) : rTupS K [.ref p] H Q := ⟨p, xs, rfl, .inr ⟨h, q⟩⟩
def rIsNo : R2 := fun x y H Q => y = .non ∧ Q (.bl (decide (x = .non))) H
def rNotNo : R2 := fun x y H Q => y = .non ∧ Q (.bl (!decide (x = .non))) H
theorem k_isN {X : Cx} : OpR X (compareOp .Is) rIsNo := op_isN
theorem k_notN {X : Cx} : OpR X (compareOp .IsNot) rNotNo := op_notN
theorem w_isNN (q : Q (.bl true) H) : rIsNo .non .non H Q := ⟨rfl, q⟩
theorem w_isNI {i : Int} (q : Q (.bl false) H) : rIsNo (.int i) .non H Q := ⟨rfl, q⟩
theorem w_isNB {i : Bool} (q : Q (.bl false) H) : rIsNo (.bl i) .non H Q := ⟨rfl, q⟩
theorem w_isNR {i : Addr} (q : Q (.bl false) H) : rIsNo (.ref i) .non H Q := ⟨rfl, q⟩
theorem w_notNN (q : Q (.bl false) H) : rNotNo .non .non H Q := ⟨rfl, q⟩
theorem w_notNI {i : Int} (q : Q (.bl true) H) : rNotNo (.int i) .non H Q := ⟨rfl, q⟩
theorem w_notNB {i : Bool} (q : Q (.bl true) H) : rNotNo (.bl i) .non H Q := ⟨rfl, q⟩
theorem w_notNR {i : Addr} (q : Q (.bl true) H) : rNotNo (.ref i) .non H Q := ⟨rfl, q⟩
theorem w_dget {td ty : TE} (h : td σ H fun x H1 => ty σ H1 fun y H2 => ∃ a v, x = .ref a ∧ DGet H2 a y (some v) ∧ Q v H2) : tDGet td ty σ H Q := h
theorem w_disp {trs : List (TE × TE)} (h : ∀ p H1, H p = none → Ex H H1 → H1 p = some (.dK []) → tPairs trs σ H1 fun ps H2 => H2 p = some (.dK []) ∧ ∃ kvs : List (Key × V), ps = kvs.map (fun kv => (kV kv.1, kv.2)) ∧ kvs.length ≤ 15 ∧ Q (.ref p) (upd H2 p (.dK (mergeK [] kvs)))) : tDisp trs σ H Q :=
  fun p hp => h p _ hp (Ex.new hp) upd_same
theorem w_pp {tk tv : TE} {r : List (TE × TE)} {B : List (V × V) → Hp → Prop} (h : tk σ H fun x H1 => tv σ H1 fun y H2 => tPairs r σ H2 fun ps H3 => B ((x, y) :: ps) H3) : tPairs ((tk, tv) :: r) σ H B := h
theorem w_pn {B : List (V × V) → Hp → Prop} (h : B [] H) : tPairs [] σ H B := h
theorem w_bm {T : String} {r : V → List V → Hp → VK → Prop} {to : TE} (h : to σ H fun x H1 => tyV K T x H1 ∧ tl σ H1 fun xs H2 => r x xs H2 Q) : tBM K T r to tl σ H Q := h
theorem w_bm0 {T : String} {r : V → List V → Hp → VK → Prop} {to : TE} (h : to σ H fun x H1 => tyV K T x H1 ∧ r x [] H1 Q) : tBM0 K T r to σ H Q := h
theorem w_tyL {p : Addr} {xs : List V} {W : Prop} (h : SqL K H p xs) (r : W) : tyV K "list" (.ref p) H ∧ W := ⟨Or.inl ⟨rfl, _, h⟩, r⟩
theorem w_app {l : Addr} {xs : List V} {y : V} (h : H l = some (.lst xs)) (hz : xs.length < 100000) (q : ∀ H2, (∀ b o, b ≠ l → H b = some o → H2 b = some o) → H2 l = some (.lst (xs ++ [y])) → Q .non H2) : rAppend (.ref l) [y] H Q :=
  ⟨l, xs, y, rfl, rfl, h, sz_lt hz, q _ (fun b o n hb => by rw [upd_ne n]; exact hb) upd_same⟩
theorem w_sl {r : V → Option Int → Option Int → Hp → VK → Prop} {to th : TO} (h : te σ H fun x H1 => to σ H1 fun l H2 => th σ H2 fun u H3 => r x l u H3 Q) : tSl r te to th σ H Q := h
theorem w_po {W : Option Int → Hp → Prop} (h : W none H) : tNoPart σ H W := h
def PartOf (W : Option Int → Hp → Prop) (x : V) (H : Hp) : Prop := ∃ i, x = .int i ∧ W (some i) H
theorem w_ps {W : Option Int → Hp → Prop} (h : te σ H fun x H1 => PartOf W x H1) : tPart te σ H W := h
theorem w_pi {W : Option Int → Hp → Prop} {i : Int} (h : W (some i) H) : PartOf W (.int i) H := ⟨i, rfl, h⟩
theorem w_slL {a : Addr} {xs : List V} {lo hi : Option Int} (h : SqL K H a xs) (q : ∀ p H2, H p = none → Ex H H2 → H2 p = some (.lst (cutV xs lo hi)) → Q (.ref p) H2) : rSlL K (.ref a) lo hi H Q := ⟨a, xs, rfl, h, fun p hp => q p _ hp (Ex.new hp) upd_same⟩
theorem cut_whole {xs : List V} {lo hi : Option Int} (h : HT.sIx xs.length 0 lo = 0 ∧ HT.sIx xs.length xs.length hi = xs.length) : cutV xs lo hi = xs := by
  unfold cutV
  rw [h.1, h.2]
  simp
theorem w_slT {a : Addr} {xs : List V} {lo hi : Option Int} (h : SqT K H a xs) (q : ∀ p H2, Ex H H2 → SqT K H2 p (cutV xs lo hi) → Q (.ref p) H2) : rSlA K (.ref a) lo hi H Q :=
  ⟨a, xs, rfl, h, fun e => q a H (Ex.refl H) (by rw [cut_whole e]; exact h), fun _ p hp => q p _ (Ex.new hp) (st_of upd_same)⟩
theorem w_catT {a b : Addr} {xs ys : List V} (h : SqT K H a xs) (h2 : SqT K H b ys) (hl : xs.length + ys.length ≤ 100000) (q : ∀ p H2, Ex H H2 → SqT K H2 p (xs ++ ys) → Q (.ref p) H2) : rCatA K (.ref a) (.ref b) H Q :=
  ⟨a, b, xs, ys, rfl, rfl, h, h2, sz_of hl, fun e => q b H (Ex.refl H) (by rw [e]; exact h2), fun _ e => q a H (Ex.refl H) (by rw [e, List.append_nil]; exact h), fun _ _ p hp => q p _ (Ex.new hp) (st_of upd_same)⟩
theorem w_catL {a b : Addr} {xs ys : List V} (h : H a = some (.lst xs)) (h2 : H b = some (.lst ys)) (hl : xs.length + ys.length ≤ 100000) (q : ∀ p H2, H p = none → Ex H H2 → H2 p = some (.lst (xs ++ ys)) → Q (.ref p) H2) : rCat (.ref a) (.ref b) H Q :=
  ⟨a, b, xs, ys, rfl, rfl, h, h2, sz_of hl, fun p hp => q p _ hp (Ex.new hp) upd_same⟩
theorem w_isi {x : V} {n : String} {t : String} {b : Bool} (ty : TyX K H x (.type t)) (e : kitB t n = some b) (q : Q (.bl b) H) : rIsi K [x, .ty n] H Q := ⟨x, .ty n, .type t, .type n, b, rfl, ClsV.ty n, ty, kit_ty e, q⟩
theorem w_isiInt {i : Int} {n : String} {b : Bool} (e : kitB "int" n = some b) (q : Q (.bl b) H) : rIsi K [.int i, .ty n] H Q := w_isi (.base (.int i)) e q
theorem w_isiNon {n : String} {b : Bool} (e : kitB "NoneType" n = some b) (q : Q (.bl b) H) : rIsi K [.non, .ty n] H Q := w_isi (.base .non) e q
theorem w_isiBl {i : Bool} {n : String} {b : Bool} (e : kitB "bool" n = some b) (q : Q (.bl b) H) : rIsi K [.bl i, .ty n] H Q := w_isi (.base (.bl i)) e q
theorem w_isiStr {i : Str} {n : String} {b : Bool} (e : kitB "str" n = some b) (q : Q (.bl b) H) : rIsi K [.str i, .ty n] H Q := w_isi (.base (.str i)) e q
theorem w_isiTup {p : Addr} {xs : List V} {n : String} {b : Bool} (h : SqT K H p xs) (e : kitB "tuple" n = some b) (q : Q (.bl b) H) : rIsi K [.ref p, .ty n] H Q := by
  rcases h with (h | ⟨o, h⟩) | ⟨o, _, _, h, c, _⟩
  · exact w_isi (.base (.tup h)) e q
  · exact w_isi (.fTuple h) e q
  · exact w_isi (.kTuple h c) e q
theorem w_isiLst {p : Addr} {xs : List V} {n : String} {b : Bool} (h : SqL K H p xs) (e : kitB "list" n = some b) (q : Q (.bl b) H) : rIsi K [.ref p, .ty n] H Q := by
  rcases h with (h | ⟨o, h⟩) | ⟨o, _, _, h, c, _⟩
  · exact w_isi (.base (.lst h)) e q
  · exact w_isi (.base (.frz h)) e q
  · exact w_isi (.kList h c) e q
theorem w_isiDK {p : Addr} {xs : List (Key × V)} {n : String} {b : Bool} (h : H p = some (.dK xs)) (e : kitB "dict" n = some b) (q : Q (.bl b) H) : rIsi K [.ref p, .ty n] H Q := w_isi (.base (.dK h)) e q
theorem w_neD {d e : PyData} (hx : Dp K H x d) (hy : Dp K H y e) (sd : SeqAt.shaped d = true) (se : SeqAt.shaped e = true) (q : Q (.bl (!PyData.eqv d e)) H) : rNeD K x y H Q := ⟨d, e, hx, hy, sd, se, q⟩
theorem w_eqD {d e : PyData} (hx : Dp K H x d) (hy : Dp K H y e) (sd : SeqAt.shaped d = true) (se : SeqAt.shaped e = true) (q : Q (.bl (PyData.eqv d e)) H) : rEqD K x y H Q := ⟨d, e, hx, hy, sd, se, q⟩
/-- a flat value as data -/
def flatD : V → PyData
  | .bl b => .bool b
  | .int i => .int i
  | .str x => .str x
  | _ => .none
def isFl : V → Bool
  | .non | .bl _ | .int _ | .str _ => true
  | _ => false
theorem dp_flat {v : V} (h : isFl v = true) : Dp K H v (flatD v) := by
  cases v <;> first | exact .non | exact .bl _ | exact .int _ | exact .str _ | cases h
theorem dp_flats : ∀ {vs : List V}, vs.all isFl = true → DpAll K H vs (vs.map flatD)
  | [], _ => .nil
  | v :: vs, h => by
    rw [List.all_cons, Bool.and_eq_true] at h
    exact .cons (dp_flat h.1) (dp_flats h.2)
theorem dp_lst {p : Addr} {vs : List V} (h : SqL K H p vs) (f : vs.all isFl = true) : Dp K H (.ref p) (.list (vs.map flatD)) := .lst h (dp_flats f)
theorem dp_tup {p : Addr} {vs : List V} (h : SqT K H p vs) (f : vs.all isFl = true) : Dp K H (.ref p) (.tuple (vs.map flatD)) := .tup h (dp_flats f)
theorem int_at {ns : List Int} {k : Int} (h0 : 0 ≤ k) (h : k < ((ns.map V.int).length : Int)) : ∃ c, atI (ns.map V.int) k = some (.int c) := by
  obtain ⟨j, rfl⟩ := Int.eq_ofNat_of_zero_le h0
  have hj : j < ns.length := by rw [List.length_map] at h; omega
  refine ⟨ns[j], atI_nat (j := j) ?_⟩
  rw [List.getElem?_map, List.getElem?_eq_getElem hj]
  rfl
/-- a new object -/
theorem w_new {m : Nat} {o : HO} (hm : m ≤ 100000) (k : ∀ p H2, H p = none → Ex H H2 → H2 p = some o → Q (.ref p) H2) : Alloc m o H Q :=
  ⟨sz_of hm, fun p hp => k p _ hp (Ex.new hp) upd_same⟩
/-- ifs over a known bool -/
theorem i_T {A B : Prop} (h : A) : if true = true then A else B := iteT h
theorem i_F {A B : Prop} (h : B) : if false = true then A else B := iteF h
theorem i_N {A B : Prop} {k : Bool} (h : if k = true then B else A) : if (!k) = true then A else B := by
  cases k
  · exact iteT (by rw [if_neg Bool.false_ne_true] at h; exact h)
  · exact iteF (by rw [if_pos rfl] at h; exact h)
theorem i_D {A B c : Prop} [Decidable c] (h1 : c → A) (h2 : ¬ c → B) : if decide c = true then A else B := by
  by_cases h : c
  · rw [decide_eq_true h]; exact iteT (h1 h)
  · rw [decide_eq_false h]; exact iteF (h2 h)
theorem i_R {A B : Prop} {α : Type} {x : α} [Decidable (x = x)] (h : A) : if decide (x = x) = true then A else B := by rw [decide_eq_true rfl]; exact iteT h
theorem i_DT {A B c : Prop} [Decidable c] (h : c) (h1 : A) : if decide c = true then A else B := by rw [decide_eq_true h]; exact iteT h1
theorem i_DF {A B c : Prop} [Decidable c] (h : ¬ c) (h1 : B) : if decide c = true then A else B := by rw [decide_eq_false h]; exact iteF h1
theorem i_B {A B : Prop} {k : Bool} (h1 : k = true → A) (h2 : k = false → B) : if k = true then A else B := by
  cases k
  · exact iteF (h2 rfl)
  · exact iteT (h1 rfl)
end
section
variable {σ : St} {H : Hp} {nx bk ct : St → Hp → Prop} {rt : VK} {t u : TS} {c : TT} {te : TE} {i : Nat} {K : PySem.W.Frag}
theorem m_norm {σ' : St} (e : σ = σ') (h : Sm t nx rt bk ct σ' H) : Sm t nx rt bk ct σ H := by rw [e]; exact h
theorem m_seq (h : Sm t (fun σ H => Sm u nx rt bk ct σ H) rt bk ct σ H) : Sm (tSeq t u) nx rt bk ct σ H := h
theorem m_cut (M : St → Hp → Prop) (h : Sm t M rt bk ct σ H) (k : ∀ σ H, M σ H → Sm u nx rt bk ct σ H) : Sm (tCut t u) nx rt bk ct σ H := ⟨M, h, k⟩
theorem m_asg (h : te σ H fun v H1 => nx (σ.set i (some v)) H1) : Sm (tAsg te (gName i)) nx rt bk ct σ H := h
theorem m_asgG {g : TG} (h : te σ H fun v H1 => g v σ H1 nx) : Sm (tAsg te g) nx rt bk ct σ H := h
theorem m_ret (h : te σ H rt) : Sm (tRet te) nx rt bk ct σ H := h
theorem m_retN (h : rt .non H) : Sm tRetN nx rt bk ct σ H := h
theorem m_drop (h : te σ H fun _ H1 => nx σ H1) : Sm (tDrop te) nx rt bk ct σ H := h
theorem m_next (h : nx σ H) : Sm tNext nx rt bk ct σ H := h
theorem m_brk (h : bk σ H) : Sm tBreak nx rt bk ct σ H := h
theorem m_cont (h : ct σ H) : Sm tCont nx rt bk ct σ H := h
theorem m_if (h : c σ H fun b H1 => if b = true then Sm t nx rt bk ct σ H1 else Sm u nx rt bk ct σ H1) : Sm (tIfS c t u) nx rt bk ct σ H := h
theorem m_fld {ta tv : TE} {f : Str} (h : tv σ H fun y H1 => ta σ H1 fun x H2 => PutOf K f y x H2 (nx σ)) : Sm (sFld K ta tv f) nx rt bk ct σ H := h
theorem m_aug {ti : TIp} {v : V} (hx : σ[i]? = some (some v)) (h : te σ H fun y H1 => ti v y H1 fun z H2 => nx (σ.set i (some z)) H2) : Sm (tAug i te ti) nx rt bk ct σ H := ⟨v, hx, h⟩
/-- o[i] = e over a list that stands in H by itself -/
theorem m_setL {p : Addr} {xs : List V} {k : Int} {j : Nat} {v : V} {Q : Hp → Prop} (h : H p = some (.lst xs)) (hj : ixN xs.length k = some j) (q : Q (upd H p (.lst (xs.set j v)))) : rSetL (.ref p) (.int k) v H Q := ⟨p, xs, k, j, rfl, rfl, h, hj, q⟩
theorem m_gsub {to ti : TE} {ts : TSet} {v : V} {Q : St → Hp → Prop} (h : to σ H fun o H1 => ti σ H1 fun i H2 => ts o i v H2 fun H3 => Q σ H3) : gSub to ti ts v σ H Q := h
/-- a loop over what J walks -/
def Fj (J : It) (g : TG) (t : TS) (nx : St → Hp → Prop) (rt : VK) (σ : St) (H : Hp) : Prop := ∃ W : Nat → Nat → St → Hp → Prop, (∃ m, W 0 m σ H) ∧ ∀ i m σ H, W i m σ H →
  (J.stop i H ∧ nx σ H) ∨ (J.go i H ∧ ∃ N : St → Hp → Prop, (∀ σ' H', N σ' H' → ∃ m', m' < m ∧ W (i + 1) m' σ' H') ∧ ∀ x H', J.yld i H x H' → g x σ H' fun σ2 H2 => t { nx := N, rt := rt, ct := N, bk := nx } σ2 H2)
theorem m_for {wi : TI} {g : TG} (h : wi σ H fun J H1 => Fj J g t nx rt σ H1) : Sm (tFor wi g t) nx rt bk ct σ H := h
theorem w_rng1 {tl : TA} {R : It → Hp → Prop} (h : tl σ H fun vs H1 => ∃ j : Int, vs = [.int j] ∧ -(2 ^ 62) ≤ j ∧ j < 2 ^ 62 ∧ R (Itr 0 j.toNat) H1) : iRng1 tl σ H R := h
theorem w_rng2 {tl : TA} {R : It → Hp → Prop} (h : tl σ H fun vs H1 => ∃ i j : Int, vs = [.int i, .int j] ∧ (-(2 ^ 62) ≤ i ∧ i < 2 ^ 62 ∧ -(2 ^ 62) ≤ j ∧ j < 2 ^ 62) ∧ R (Itr i (j - i).toNat) H1) : iRng2 tl σ H R := h
theorem w_itl {te : TE} {R : It → Hp → Prop} (h : te σ H fun x H1 => ∃ a, x = .ref a ∧ (∃ xs, SqL K H1 a xs) ∧ R (Itl K a) H1) : iList K te σ H R := h
theorem w_itt {te : TE} {R : It → Hp → Prop} (h : te σ H fun x H1 => ∃ a, x = .ref a ∧ (∃ xs, SqT K H1 a xs) ∧ R (Itt K a) H1) : iTup K te σ H R := h
theorem f_rng1 {j : Nat} {n : Int} (h0 : 0 ≤ n) (h1 : n ≤ 100000) (Pv : Nat → St → Hp → Prop) (p0 : Pv 0 σ H)
    (hs : ∀ (i : Nat) σ' H', (i : Int) < n → Pv i σ' H' → Sm t (Pv (i + 1)) rt nx (Pv (i + 1)) (σ'.set j (some (.int (i : Int)))) H') (hd : ∀ σ' H', Pv n.toNat σ' H' → nx σ' H') :
    ∃ k : Int, [V.int n] = [.int k] ∧ -(2 ^ 62) ≤ k ∧ k < 2 ^ 62 ∧ Fj (Itr 0 k.toNat) (gName j) t nx rt σ H := by
  refine ⟨n, rfl, by omega, by omega, for_range (D := ⟨nx, rt, nx, nx⟩) (lo := 0) (n := n.toNat) Pv p0 (fun i σ' H' hi p => ?_) hd⟩
  have e0 : (0 : Int) + (i : Int) = (i : Int) := Int.zero_add _
  show t { nx := Pv (i + 1), rt := rt, ct := Pv (i + 1), bk := nx } (σ'.set j (some (.int ((0 : Int) + (i : Int))))) H'
  rw [e0]
  exact hs i σ' H' (by omega) p
theorem f_rng2 {j : Nat} {lo n : Int} (h0 : -100000 ≤ lo ∧ lo ≤ 100000 ∧ -100000 ≤ n ∧ n ≤ 100000) (Pv : Nat → St → Hp → Prop) (p0 : Pv 0 σ H)
    (hs : ∀ (i : Nat) σ' H', lo + (i : Int) < n → Pv i σ' H' → Sm t (Pv (i + 1)) rt nx (Pv (i + 1)) (σ'.set j (some (.int (lo + (i : Int))))) H') (hd : ∀ σ' H', Pv (n - lo).toNat σ' H' → nx σ' H') :
    ∃ i k : Int, [V.int lo, V.int n] = [.int i, .int k] ∧ (-(2 ^ 62) ≤ i ∧ i < 2 ^ 62 ∧ -(2 ^ 62) ≤ k ∧ k < 2 ^ 62) ∧ Fj (Itr i (k - i).toNat) (gName j) t nx rt σ H :=
  ⟨lo, n, rfl, ⟨by omega, by omega, by omega, by omega⟩, for_range (D := ⟨nx, rt, nx, nx⟩) (lo := lo) (n := (n - lo).toNat) Pv p0 (fun i σ' H' hi p => hs i σ' H' (by omega) p) hd⟩
theorem f_list {g : TG} {a : Addr} {xs : List V} (hx : SqL K H a xs) (Pv : Nat → St → Hp → Prop) (p0 : Pv 0 σ H) (hl : ∀ i σ' H', i ≤ xs.length → Pv i σ' H' → SqL K H' a xs)
    (hs : ∀ i x σ' H', xs[i]? = some x → Pv i σ' H' → g x σ' H' fun σ2 H2 => Sm t (Pv (i + 1)) rt nx (Pv (i + 1)) σ2 H2) (hd : ∀ σ' H', Pv xs.length σ' H' → nx σ' H') :
    ∃ b, V.ref a = .ref b ∧ (∃ ys, SqL K H b ys) ∧ Fj (Itl K b) g t nx rt σ H := ⟨a, rfl, ⟨xs, hx⟩, for_list (D := ⟨nx, rt, nx, nx⟩) Pv p0 hl hs hd⟩
theorem f_tup {g : TG} {a : Addr} {xs : List V} (hx : SqT K H a xs) (Pv : Nat → St → Hp → Prop) (p0 : Pv 0 σ H) (hl : ∀ i σ' H', i ≤ xs.length → Pv i σ' H' → SqT K H' a xs)
    (hs : ∀ i x σ' H', xs[i]? = some x → Pv i σ' H' → g x σ' H' fun σ2 H2 => Sm t (Pv (i + 1)) rt nx (Pv (i + 1)) σ2 H2) (hd : ∀ σ' H', Pv xs.length σ' H' → nx σ' H') :
    ∃ b, V.ref a = .ref b ∧ (∃ ys, SqT K H b ys) ∧ Fj (Itt K b) g t nx rt σ H := ⟨a, rfl, ⟨xs, hx⟩, for_tup (D := ⟨nx, rt, nx, nx⟩) Pv p0 hl hs hd⟩
/-- a turn of a while -/
def Turn (W : Nat → St → Hp → Prop) (m : Nat) (t : TS) (nx : St → Hp → Prop) (rt : VK) (σ : St) (H : Hp) : Prop := ∃ N : St → Hp → Prop, (∀ σ' H', N σ' H' → ∃ m', m' < m ∧ W m' σ' H') ∧ t ⟨N, rt, nx, N⟩ σ H
theorem turn_go {W : Nat → St → Hp → Prop} {m : Nat} (h : Sm t (fun σ' H' => ∃ m', m' < m ∧ W m' σ' H') rt nx (fun σ' H' => ∃ m', m' < m ∧ W m' σ' H') σ H) : Turn W m t nx rt σ H := ⟨_, fun _ _ h => h, h⟩
theorem m_whileT (W : Nat → St → Hp → Prop) (m0 : Nat) (h0 : W m0 σ H) (hs : ∀ m σ' H', W m σ' H' → c σ' H' fun b H1 => if b = true then Turn W m t nx rt σ' H1 else nx σ' H1) : Sm (tWhile c t) nx rt bk ct σ H := ⟨W, ⟨m0, h0⟩, hs⟩
theorem m_while (W : Nat → St → Hp → Prop) (m0 : Nat) (h0 : W m0 σ H)
    (hs : ∀ m σ' H', W m σ' H' → c σ' H' fun b H1 => if b = true then Sm t (fun σ2 H2 => ∃ m', m' < m ∧ W m' σ2 H2) rt nx (fun σ2 H2 => ∃ m', m' < m ∧ W m' σ2 H2) σ' H1 else nx σ' H1)
    (mono : ∀ σ H (A B : Bool → Hp → Prop), (∀ b H, A b H → B b H) → c σ H A → c σ H B) : Sm (tWhile c t) nx rt bk ct σ H := by
  refine ⟨W, ⟨m0, h0⟩, fun m σ' H' hw => mono _ _ _ _ (fun b H1 h => ?_) (hs m σ' H' hw)⟩
  cases b
  · exact iteF (by rw [if_neg Bool.false_ne_true] at h; exact h)
  · refine iteT ⟨fun σ2 H2 => ∃ m', m' < m ∧ W m' σ2 H2, fun _ _ n => n, ?_⟩
    rw [if_pos rfl] at h
    exact h
end
theorem divW {i j : Int} (h : 0 < j) (hb : j < 2 ^ 250) : CDivW i j := wide_div (b := 250) h (by omega) (by decide) (by decide)
/-- a written tuple of texts and ints -/
def KTup (K : PySem.W.Frag) (a : Addr) (xs : List V) : Prop := ∃ (o : Obj) (its : Array Value) (n : Nat), K.lookup a = some o ∧ o.cls = .type "tuple" ∧ o.data = .seq its n ∧ its.size ≤ sizeLine ∧ Vals xs its.toList
def relB : V → Value → Bool
  | .int i, .int j _ => i == j
  | .str x, .str y _ => x == y
  | _, _ => false
def relsB : List V → List Value → Bool
  | [], [] => true
  | x :: xs, u :: us => relB x u && relsB xs us
  | _, _ => false
def tupB (o : Obj) (xs : List V) : Bool := (match o.cls with | .type t => t == "tuple" | _ => false) && match o.data with | .seq its _ => decide (its.size ≤ sizeLine) && relsB xs its.toList | _ => false
theorem relB_of : ∀ {x : V} {u : Value}, relB x u = true → RelV x u
  | .int i, .int j t, h => by
    have e : i = j := eq_of_beq h
    exact ⟨t, by rw [e]⟩
  | .str i, .str j t, h => by
    have e : i = j := eq_of_beq h
    exact ⟨t, by rw [e]⟩
theorem relsB_of : ∀ {xs : List V} {us : List Value}, relsB xs us = true → Vals xs us
  | [], [], _ => .nil
  | x :: xs, u :: us, h => by
    unfold relsB at h
    rw [Bool.and_eq_true] at h
    exact .cons (relB_of h.1) (relsB_of h.2)
theorem ktup_of {K : PySem.W.Frag} {a : Addr} {o : Obj} {xs : List V} (h : K.lookup a = some o) (t : tupB o xs = true) : KTup K a xs := by
  unfold tupB at t
  rw [Bool.and_eq_true] at t
  obtain ⟨t1, t2⟩ := t
  obtain ⟨cls, dd, data, sl⟩ := o
  cases data with
  | seq its n =>
    simp only [Bool.and_eq_true, decide_eq_true_eq] at t2
    cases cls with
    | type c =>
      have e : c = "tuple" := eq_of_beq t1
      subst e
      exact ⟨_, its, n, h, rfl, rfl, t2.1, relsB_of t2.2⟩
    | _ => cases t1
  | _ => cases t2
theorem KTup.sq {K : PySem.W.Frag} {a : Addr} {xs : List V} (h : KTup K a xs) (H : Hp) : SqT K H a xs := Or.inr h
theorem ok_body {X : Cx} {body : List Stmt} {t : TS} {Q : VK} {σ σ0 : St} {H : Hp} (h : PSs X body t) (e : σ0 = σ) (q : Sm t (fun _ H' => Q .non H') Q (fun _ _ => False) (fun _ _ => False) σ H) :
    ∃ t : TS, PSs X body t ∧ t { nx := fun _ H' => Q .non H', rt := Q } σ0 H := ⟨t, h, by subst e; exact q⟩
/-- all but one object as it was -/
def ExBut (p : Addr) (H H' : Hp) : Prop := ∀ b o, b ≠ p → H b = some o → H' b = some o
theorem ExBut.ex {p : Addr} {H0 H H' : Hp} (e : Ex H0 H) (h : H0 p = none) (m : ExBut p H H') : Ex H0 H' := fun b o hb => m b o (ne_of_none hb h) (e b o hb)
theorem ExBut.refl (p : Addr) (H : Hp) : ExBut p H H := fun _ _ _ h => h
theorem ExBut.trans {p : Addr} {H H1 H2 : Hp} (a : ExBut p H H1) (b : ExBut p H1 H2) : ExBut p H H2 := fun c o n h => b c o n (a c o n h)
theorem ExBut.of {p : Addr} {H H' : Hp} (e : Ex H H') : ExBut p H H' := fun b o _ h => e b o h
theorem ExBut.upd {p : Addr} {H H' : Hp} {o : HO} (e : ExBut p H H') : ExBut p H (upd H' p o) := fun b u n h => by rw [upd_ne n]; exact e b u n h
theorem ex_snoc {H H1 H2 : Hp} (b : Ex H1 H2) (a : Ex H H1) : Ex H H2 := a.trans b
theorem but_snoc {p : Addr} {H H1 H2 : Hp} (b : ExBut p H1 H2) (a : ExBut p H H1) : ExBut p H H2 := a.trans b
theorem but_snocE {p : Addr} {H H1 H2 : Hp} (b : Ex H1 H2) (a : ExBut p H H1) : ExBut p H H2 := a.trans (.of b)
theorem w_put {K : PySem.W.Frag} {H : Hp} {a C dx : Addr} {fs fs' : List (Str × V)} {f : Str} {y : V} {R : Hp → Prop} (h : H a = some (.ins C dx fs)) (cl : Cls K C) (n : NoAttr K C f) (hl : fs.length < 1000) (e : putF f y fs = fs') (q : ∀ H2, ExBut a H H2 → H2 a = some (.ins C dx fs') → R H2) : PutOf K f y (.ref a) H R :=
  ⟨a, C, dx, fs, rfl, h, cl, n, hl, q _ (ExBut.upd (ExBut.refl a H)) (by rw [e]; exact upd_same)⟩
theorem ex_but {p : Addr} {H0 H H' : Hp} (m : ExBut p H H') (h : H0 p = none) (e : Ex H0 H) : Ex H0 H' := ExBut.ex e h m
theorem but_get {p a : Addr} {H H' : Hp} {o : HO} (m : ExBut p H H') (n : a ≠ p) (h : H a = some o) : H' a = some o := m a o n h
theorem w_setL {p : Addr} {xs ys : List V} {k : Int} {j : Nat} {v : V} {H : Hp} {Q : Hp → Prop} (h : H p = some (.lst xs)) (hj : ixN xs.length k = some j) (e : xs.set j v = ys) (q : ∀ H2, ExBut p H H2 → H2 p = some (.lst ys) → Q H2) : rSetL (.ref p) (.int k) v H Q :=
  ⟨p, xs, k, j, rfl, rfl, h, hj, q _ (ExBut.upd (ExBut.refl p H)) (by rw [e]; exact upd_same)⟩
theorem ex_get {H1 H2 : Hp} {a : Addr} {o : HO} (e : Ex H1 H2) (h : H1 a = some o) : H2 a = some o := e a o h
theorem small {n m : Nat} (h : n ≤ m) (hm : m ≤ 1000) : n ≤ 1000 := Nat.le_trans h hm
end Kit

namespace Kit
open PySem PySem.Spec PyProof.Rows L2 Evl
/-! ### the walk by words: "wp" goes as far as it can, "wp1" one step; "hp": what stands at an address; "sq": a list, a tuple is there; "side": a side condition -/
end Kit

namespace Kit
open PySem PySem.Spec PyProof.Rows L2 Evl
/-! ### comprehensions -/
def Lcj (J : It) (g : TG) (tt : TT) (te : TE) (vs : List Nat) (σ : St) (H1 : Hp) (Q : VK) : Prop := ∀ D, H1 D = none → ∃ W : Nat → Nat → Hp → Prop, (∃ m, W 0 m (upd H1 D (.lst []))) ∧ ∀ i m H, W i m H →
  (J.stop i H ∧ Q (.ref D) H) ∨ (J.go i H ∧ ∃ Nx : Hp → Prop, (∀ H', Nx H' → ∃ m', m' < m ∧ W (i + 1) m' H') ∧ ∀ x H', J.yld i H x H' → g x (wipe σ vs) H' fun σ2 H2 => wipe σ2 vs = wipe σ vs ∧ tt σ2 H2 fun b H3 =>
    if b = true then te σ2 H3 fun y H4 => ∃ acc, H4 D = some (.lst acc) ∧ acc.length < sizeLine ∧ Nx (upd H4 D (.lst (acc ++ [y]))) else Nx H3)
section
variable {σ : St} {H : Hp} {Q : VK} {j : Nat} {vs : List Nat} {te : TE} {tt : TT} {K : PySem.W.Frag}
theorem w_lc {wi : TI} {g : TG} {tt : TT} (h : wi σ H fun J H1 => Lcj J g tt te vs σ H1 Q) : tLc wi g tt te vs σ H Q := h
theorem w_rng3 {tl : TA} {R : It → Hp → Prop} (h : tl σ H fun vs H1 => ∃ (i j c : Int) (n : Nat), vs = [.int i, .int j, .int c] ∧ RgC i j c n ∧ R (Itc i c n) H1) : iRng3 tl σ H R := h
/-- what J walks, while S stands -/
structure Walks (J : It) (n : Nat) (x : Nat → V) (S : Hp → Prop) : Prop where
  stop : ∀ H, S H → J.stop n H
  go : ∀ i H, S H → i < n → J.go i H
  yld : ∀ i H y H', S H → i < n → J.yld i H y H' → H' = H ∧ y = x i
theorem walks_rng {lo : Int} {n : Nat} : Walks (Itr lo n) n (fun i => .int (lo + i)) (fun _ => True) := ⟨fun _ _ => Nat.le_refl n, fun _ _ _ h => h, fun _ _ _ _ _ _ h => h⟩
theorem walks_rngC {lo c : Int} {n : Nat} : Walks (Itc lo c n) n (fun i => .int (lo + (i : Nat) * c)) (fun _ => True) := ⟨fun _ _ => Nat.le_refl n, fun _ _ _ h => h, fun _ _ _ _ _ _ h => h⟩
theorem walks_list {a : Addr} {xs : List V} : Walks (Itl K a) xs.length (fun i => (xs[i]?).getD .non) (fun H => SqL K H a xs) := by
  refine ⟨fun H h => ⟨xs, h, Nat.le_refl _⟩, fun i H h hi => ⟨xs, xs[i], h, List.getElem?_eq_getElem hi⟩, fun i H y H' h hi hy => ⟨hy.1, ?_⟩⟩
  rw [hy.2 xs h]
  rfl
theorem walks_tup {a : Addr} {xs : List V} : Walks (Itt K a) xs.length (fun i => (xs[i]?).getD .non) (fun H => SqT K H a xs) := by
  refine ⟨fun H h => ⟨xs, h, Nat.le_refl _⟩, fun i H h hi => ⟨xs, xs[i], h, List.getElem?_eq_getElem hi⟩, fun i H y H' h hi hy => ⟨hy.1, ?_⟩⟩
  rw [hy.2 xs h]
  rfl
/-- any turn's word: Iv by the new list's address, the turn, what it holds -/
theorem l_any {J : It} {n : Nat} {x : Nat → V} {S : Hp → Prop} (w : Walks J n x S) (hn : n ≤ 40000) (hw : ∀ v, wipe ((wipe σ vs).set j (some v)) vs = wipe σ vs)
    (Iv : Addr → Nat → List V → Hp → Prop) (hS : ∀ D i acc H', Iv D i acc H' → S H') (h0 : ∀ D, H D = none → Iv D 0 [] (upd H D (.lst [])))
    (he : ∀ D i acc H', H D = none → i < n → acc.length ≤ i → H' D = some (.lst acc) → Iv D i acc H' → ∀ R : Bool → Hp → Prop, (∀ H2, H2 D = some (.lst acc) → Iv D (i + 1) acc H2 → R false H2) →
      (∀ H2, (∀ R2 : VK, (∀ y H3, H3 D = some (.lst acc) → Iv D (i + 1) (acc ++ [y]) (upd H3 D (.lst (acc ++ [y]))) → R2 y H3) → te ((wipe σ vs).set j (some (x i))) H2 R2) → R true H2) → tt ((wipe σ vs).set j (some (x i))) H' R)
    (q : ∀ D acc H2, H D = none → acc.length ≤ n → H2 D = some (.lst acc) → Iv D n acc H2 → Q (.ref D) H2) : Lcj J (gName j) tt te vs σ H Q := by
  intro D hD
  refine ⟨fun i m H' => i ≤ n ∧ m = n - i ∧ ∃ acc, acc.length ≤ i ∧ H' D = some (.lst acc) ∧ Iv D i acc H', ⟨n, Nat.zero_le _, by omega, [], Nat.le_refl 0, upd_same, h0 D hD⟩, fun i m H' ⟨hi, hm, acc, ha, hd, iv⟩ => ?_⟩
  by_cases hlt : i < n
  · refine .inr ⟨w.go i H' (hS _ _ _ _ iv) hlt, fun H'' => ∃ acc, acc.length ≤ i + 1 ∧ H'' D = some (.lst acc) ∧ Iv D (i + 1) acc H'', fun H'' h => ⟨n - (i + 1), by omega, by omega, rfl, h⟩, fun y H'' hy => ?_⟩
    obtain ⟨rfl, rfl⟩ := w.yld i H' y H'' (hS _ _ _ _ iv) hlt hy
    refine ⟨hw _, ?_⟩
    refine he D i acc H'' hD hlt ha hd iv _ (fun H2 h2 iv2 => ?_) fun H2 h => ?_
    · exact iteF ⟨acc, by omega, h2, iv2⟩
    · refine iteT (h _ fun v H3 h3 iv3 => ?_)
      exact ⟨acc, h3, sz_lt (by omega), acc ++ [v], by rw [List.length_append]; exact Nat.succ_le_succ ha, upd_same, iv3⟩
  · have e : i = n := by omega
    subst e
    exact .inl ⟨w.stop H' (hS _ _ _ _ iv), q D acc H' hD ha hd iv⟩
/-- items that only make new objects, no test: Pe says what the i-th is -/
theorem l_grow {J : It} {n : Nat} {x : Nat → V} {S : Hp → Prop} (w : Walks J n x S) (hn : n ≤ 40000) (hw : ∀ v, wipe ((wipe σ vs).set j (some v)) vs = wipe σ vs)
    (s0 : S H) (sm : ∀ H1 H2, Ex H1 H2 → S H1 → S H2) (Pe : Addr → Nat → V → Hp → Prop) (pm : ∀ D i v H1 H2, ExBut D H1 H2 → Pe D i v H1 → Pe D i v H2)
    (he : ∀ D i acc H', H D = none → i < n → Ex H H' → H' D = some (.lst acc) → ∀ R : VK, (∀ v H2, Ex H' H2 → Pe D i v H2 → R v H2) → te ((wipe σ vs).set j (some (x i))) H' R)
    (q : ∀ D ys H2, H D = none → Ex H H2 → H2 D = some (.lst ys) → ys.length = n → (∀ i y, ys[i]? = some y → Pe D i y H2) → Q (.ref D) H2) : Lcj J (gName j) tYes te vs σ H Q := by
  refine l_any w hn hw (fun D i acc H' => H D = none ∧ Ex H H' ∧ acc.length = i ∧ ∀ k y, acc[k]? = some y → Pe D k y H') (fun D i acc H' h => sm _ _ h.2.1 s0) (fun D hD => ⟨hD, Ex.new hD, rfl, fun k y h => by simp at h⟩) ?_ ?_
  · intro D i acc H' hD hi ha hd ⟨_, e, hl, hp⟩ R r1 r2
    refine r2 H' fun R2 r => ?_
    refine he D i acc H' hD hi e hd R2 fun v H2 e2 pv => ?_
    have m1 : ExBut D H' (upd H2 D (.lst (acc ++ [v]))) := ExBut.upd (.of e2)
    have m2 : ExBut D H2 (upd H2 D (.lst (acc ++ [v]))) := ExBut.upd (.refl D H2)
    refine r v H2 (e2 D _ hd) ⟨hD, ExBut.ex e hD m1, by rw [List.length_append, hl]; rfl, fun k y hk => ?_⟩
    by_cases h : k < acc.length
    · rw [List.getElem?_append_left h] at hk
      exact pm D k y _ _ m1 (hp k y hk)
    · have hlen : k < (acc ++ [v]).length := (List.getElem?_eq_some_iff.mp hk).1
      rw [List.length_append] at hlen
      have e : k = acc.length := by simp at hlen; omega
      rw [e, List.getElem?_concat_length] at hk
      cases hk
      rw [e, hl]
      exact pm D i v _ _ m2 pv
  · intro D acc H2 hD _ hd ⟨_, e, hl, hp⟩
    exact q D acc H2 hD e hd hl hp
theorem eq_map {ys : List V} {n : Nat} {v : Nat → V} (hl : ys.length = n) (h : ∀ i y, ys[i]? = some y → y = v i) : ys = (List.range n).map v := by
  apply List.ext_getElem?
  intro i
  by_cases hi : i < n
  · rw [List.getElem?_map, List.getElem?_range hi, List.getElem?_eq_getElem (by omega)]
    exact congrArg some (h i _ (List.getElem?_eq_getElem (by omega)))
  · rw [List.getElem?_eq_none (by omega), List.getElem?_eq_none (by rw [List.length_map, List.length_range]; omega)]
/-- items that are told: the i-th is v i -/
theorem l_val {J : It} {n : Nat} {x : Nat → V} {S : Hp → Prop} (w : Walks J n x S) (hn : n ≤ 40000) (hw : ∀ v, wipe ((wipe σ vs).set j (some v)) vs = wipe σ vs)
    (s0 : S H) (sm : ∀ H1 H2, Ex H1 H2 → S H1 → S H2) (v : Nat → V)
    (he : ∀ i H', i < n → Ex H H' → ∀ R : VK, (∀ H2, Ex H' H2 → R (v i) H2) → te ((wipe σ vs).set j (some (x i))) H' R)
    (q : ∀ p H2, H p = none → Ex H H2 → H2 p = some (.lst ((List.range n).map v)) → Q (.ref p) H2) : Lcj J (gName j) tYes te vs σ H Q :=
  l_grow w hn hw s0 sm (fun _ i y _ => y = v i) (fun _ _ _ _ _ _ h => h) (fun D i acc H' hD hi e hd R r => he i H' hi e R fun H2 e2 => r _ H2 e2 rfl)
    fun D ys H2 hD e hd hl hp => q D H2 hD e (by rw [hd, eq_map hl hp])
/-- over range(n) -/
theorem l_rng1 {n : Int} (h0 : 0 ≤ n) (hn : n ≤ 40000) (hw : ∀ v, wipe ((wipe σ vs).set j (some v)) vs = wipe σ vs) (v : Nat → V)
    (he : ∀ (i : Nat) H', (i : Int) < n → Ex H H' → ∀ R : VK, (∀ H2, Ex H' H2 → R (v i) H2) → te ((wipe σ vs).set j (some (.int (i : Int)))) H' R)
    (q : ∀ p H2, H p = none → Ex H H2 → H2 p = some (.lst ((List.range n.toNat).map v)) → Q (.ref p) H2) :
    ∃ k : Int, [V.int n] = [.int k] ∧ -(2 ^ 62) ≤ k ∧ k < 2 ^ 62 ∧ Lcj (Itr 0 k.toNat) (gName j) tYes te vs σ H Q :=
  ⟨n, rfl, by omega, by omega, l_val walks_rng (by omega) hw trivial (fun _ _ _ h => h) v (fun i H' hi e R r => by
    have e0 : (0 : Int) + (i : Int) = (i : Int) := Int.zero_add _
    show te ((wipe σ vs).set j (some (.int (0 + (i : Int))))) H' R
    rw [e0]
    exact he i H' (by omega) e R r) q⟩
/-- over range(0, n, 2) -/
theorem l_rng2 {n : Int} {m : Nat} (h0 : n = 2 * m) (hn : m ≤ 40000) (hw : ∀ v, wipe ((wipe σ vs).set j (some v)) vs = wipe σ vs) (v : Nat → V)
    (he : ∀ (i : Nat) H', i < m → Ex H H' → ∀ R : VK, (∀ H2, Ex H' H2 → R (v i) H2) → te ((wipe σ vs).set j (some (.int (2 * (i : Int))))) H' R)
    (q : ∀ p H2, H p = none → Ex H H2 → H2 p = some (.lst ((List.range m).map v)) → Q (.ref p) H2) :
    ∃ (a b c : Int) (k : Nat), [V.int 0, V.int n, V.int 2] = [.int a, .int b, .int c] ∧ RgC a b c k ∧ Lcj (Itc a c k) (gName j) tYes te vs σ H Q := by
  have hr : RgC 0 n 2 m := by
    refine ⟨by decide, by decide, ?_, ?_⟩
    · subst h0
      unfold Builtin.Range.small Builtin.Range.rangeSize
      rw [if_pos (show (2 : Int) > 0 by decide), if_pos (show (2 : Int) > 0 by decide)]
      have hf : ∀ x : Int, 0 ≤ x → x ≤ 100000 → Builtin.Range.rangeFitsLong x = true := fun x h1 h2 => by
        unfold Builtin.Range.rangeFitsLong
        simp only [Bool.and_eq_true, decide_eq_true_eq]
        omega
      have h3 : (0 : Int) ≤ (if (0 : Int) < 2 * (m : Int) then (2 * (m : Int) - 0 - 1) / 2 + 1 else 0) ∧ (if (0 : Int) < 2 * (m : Int) then (2 * (m : Int) - 0 - 1) / 2 + 1 else 0) ≤ 100000 := by split <;> omega
      rw [hf 0 (by omega) (by omega), hf (2 * (m : Int)) (by omega) (by omega), hf 2 (by omega) (by omega), hf _ h3.1 h3.2, hf (2 * (m : Int) + (2 - 1)) (by omega) (by omega)]
      simp
    · subst h0
      unfold Builtin.Range.rangeSize
      split <;> omega
  refine ⟨0, n, 2, m, rfl, hr, l_val walks_rngC hn hw trivial (fun _ _ _ h => h) v (fun i H' hi e R r => ?_) q⟩
  have e0 : (0 : Int) + (i : Int) * 2 = 2 * (i : Int) := by omega
  show te ((wipe σ vs).set j (some (.int (0 + (i : Int) * 2)))) H' R
  rw [e0]
  exact he i H' hi e R r
/-- over a list -/
theorem l_list {a : Addr} {xs : List V} (hx : SqL K H a xs) (hn : xs.length ≤ 40000) (hw : ∀ v, wipe ((wipe σ vs).set j (some v)) vs = wipe σ vs) (v : Nat → V)
    (he : ∀ (i : Nat) x H', xs[i]? = some x → Ex H H' → ∀ R : VK, (∀ H2, Ex H' H2 → R (v i) H2) → te ((wipe σ vs).set j (some x)) H' R)
    (q : ∀ p H2, H p = none → Ex H H2 → H2 p = some (.lst ((List.range xs.length).map v)) → Q (.ref p) H2) :
    ∃ b, V.ref a = .ref b ∧ (∃ ys, SqL K H b ys) ∧ Lcj (Itl K b) (gName j) tYes te vs σ H Q :=
  ⟨a, rfl, ⟨xs, hx⟩, l_val walks_list hn hw hx (fun _ _ e h => ex_l e h) v (fun i H' hi e R r => by
    have z : xs[i]? = some xs[i] := List.getElem?_eq_getElem hi
    show te ((wipe σ vs).set j (some ((xs[i]?).getD .non))) H' R
    rw [z]
    exact he i xs[i] H' z e R r) q⟩
theorem l_tup {a : Addr} {xs : List V} (hx : SqT K H a xs) (hn : xs.length ≤ 40000) (hw : ∀ v, wipe ((wipe σ vs).set j (some v)) vs = wipe σ vs) (v : Nat → V)
    (he : ∀ (i : Nat) x H', xs[i]? = some x → Ex H H' → ∀ R : VK, (∀ H2, Ex H' H2 → R (v i) H2) → te ((wipe σ vs).set j (some x)) H' R)
    (q : ∀ p H2, H p = none → Ex H H2 → H2 p = some (.lst ((List.range xs.length).map v)) → Q (.ref p) H2) :
    ∃ b, V.ref a = .ref b ∧ (∃ ys, SqT K H b ys) ∧ Lcj (Itt K b) (gName j) tYes te vs σ H Q :=
  ⟨a, rfl, ⟨xs, hx⟩, l_val walks_tup hn hw hx (fun _ _ e h => ex_t e h) v (fun i H' hi e R r => by
    have z : xs[i]? = some xs[i] := List.getElem?_eq_getElem hi
    show te ((wipe σ vs).set j (some ((xs[i]?).getD .non))) H' R
    rw [z]
    exact he i xs[i] H' z e R r) q⟩
end
end Kit

namespace Kit
open PySem PySem.Spec PyProof.Rows L2 Evl
/-! ### the rules that speak of the written part, with it named -/
section
variable (K : PySem.W.Frag) {X : Cx}
theorem ixL (h : X.K = K := by rfl) : IxR X (rIxL K) := h ▸ ix_list
theorem ixT (h : X.K = K := by rfl) : IxR X (rIxT K) := h ▸ ix_tup
theorem kLen (h : X.K = K := by rfl) : CallR X (.builtin "len") (rLenS K) := h ▸ call_len_seq
theorem kList (h : X.K = K := by rfl) : CallR X (.type "list") (rListS K) := h ▸ call_list_of
theorem kTuple (h : X.K = K := by rfl) : CallR X (.type "tuple") (rTupS K) := h ▸ call_tuple_of
theorem kIn (h : X.K = K := by rfl) : OpR X (compareOp .In) (rIn K false) := h ▸ op_in_seq
theorem kNotIn (h : X.K = K := by rfl) : OpR X (compareOp .NotIn) (rIn K true) := h ▸ op_notIn_seq
theorem kEqD (hu : X.A.units + 64 < cLine) (h : X.K = K := by rfl) : OpR X (compareOp .Eq) (rEqD K) := h ▸ op_eqD hu
theorem kNeD (hu : X.A.units + 64 < cLine) (h : X.K = K := by rfl) : OpR X (compareOp .NotEq) (rNeD K) := h ▸ op_neD hu
theorem kCat (h : X.K = K := by rfl) : OpR X (binaryOp .Add) (rCatA K) := h ▸ op_catA
theorem kRepT (h : X.K = K := by rfl) : OpR X (binaryOp .Mult) (rRepT K) := h ▸ op_repT
theorem kSlL (h : X.K = K := by rfl) : SlR X (rSlL K) := h ▸ sl_list
theorem kSlT (h : X.K = K := by rfl) : SlR X (rSlA K) := h ▸ sl_tupA
theorem kIsi (h : X.K = K := by rfl) : CallR X (.builtin "isinstance") (rIsi K) := h ▸ call_isi
theorem kFld {e : Expr} {ta : TE} {f : Str} {pos : Pos} (he : PE X e ta) (hb : attributeBase e f X.env (eval e X.env) = eval e X.env) (h : X.K = K := by rfl) : PE X (.Attribute e f pos) (tFld K ta f) := h ▸ pe_fld he hb
theorem kSet {o value : Expr} {ta tv : TE} {f : Str} {pos pos' : Pos} (ha : PE X o ta) (hv : PE X value tv) (hs : swapsWith value (some (.Attribute o f pos')) pos.line X.env = pure false) (h : X.K = K := by rfl) : PS X (.Assign [.Attribute o f pos'] value pos) (sFld K ta tv f) := h ▸ ps_fld ha hv hs
theorem kpList {tg l : Expr} {tl : TE} (hl : PE X l tl) (h : X.K = K := by rfl) : PI X tg l (iList K tl) := h ▸ pi_list hl
theorem kpTup {tg l : Expr} {tl : TE} (hl : PE X l tl) (h : X.K = K := by rfl) : PI X tg l (iTup K tl) := h ▸ pi_tup hl
theorem kgTup {es : List Expr} {k : Nat} {t : TGs} {n : Nat} {pos : Pos} (hc : X.calm = true) (hg : PGs X es t) (hn : (assignEach es X.env).length = n := by rfl) (hst : (assignEach es X.env).findIdx? (·.1) = none := by rfl) (h : X.K = K := by rfl) : PG X (.Tuple es k pos) (gTup K n t) := h ▸ pg_tup hc hg hn hst
end
end Kit

namespace Kit
open PySem PySem.Spec PyProof.Rows L2 Evl
/-! ### == of data -/
def isFlN : V → Bool
  | .non | .bl _ | .int _ => true
  | _ => false
theorem fln_fl : ∀ {vs : List V}, vs.all isFlN = true → vs.all isFl = true
  | [], _ => rfl
  | v :: vs, h => by
    rw [List.all_cons, Bool.and_eq_true] at h ⊢
    refine ⟨?_, fln_fl h.2⟩
    cases v <;> first | rfl | cases h.1
theorem flats_ok : ∀ {vs : List V}, vs.all isFlN = true → PyData.canLayAll0 (vs.map flatD) = true ∧ PyData.depthAll (vs.map flatD) = 0
  | [], _ => ⟨rfl, rfl⟩
  | v :: vs, h => by
    rw [List.all_cons, Bool.and_eq_true] at h
    obtain ⟨h1, h2⟩ := flats_ok h.2
    have h3 : (flatD v).canLay0 = true ∧ PyData.depth (flatD v) = 0 := by
      cases v <;> first | (cases h.1; done) | exact ⟨by simp [flatD, PyData.canLay0], by simp [flatD, PyData.depth]⟩
    rw [List.map_cons, PyData.canLayAll0, PyData.depthAll, h1, h2, h3.1, h3.2]
    exact ⟨rfl, rfl⟩
theorem shaped_tup {vs : List V} (h : vs.all isFlN = true) : SeqAt.shaped (.tuple (vs.map flatD)) = true := by
  obtain ⟨h1, h2⟩ := flats_ok h
  unfold SeqAt.shaped
  rw [PyData.canLay0, PyData.depth, h1, h2]
  rfl
theorem shaped_lst {vs : List V} (h : vs.all isFlN = true) : SeqAt.shaped (.list (vs.map flatD)) = true := by
  obtain ⟨h1, h2⟩ := flats_ok h
  unfold SeqAt.shaped
  rw [PyData.canLay0, PyData.depth, h1, h2]
  rfl
theorem ints_fln : ∀ r : List Int, (r.map V.int).all isFlN = true
  | [] => rfl
  | _ :: r => by
    rw [List.map_cons, List.all_cons, ints_fln r]
    rfl
theorem eqvAll_ints : ∀ r s : List Int, PyData.eqvAll ((r.map V.int).map flatD) ((s.map V.int).map flatD) = decide (r = s)
  | [], [] => by simp [PyData.eqvAll]
  | [], _ :: _ => by simp [PyData.eqvAll]
  | _ :: _, [] => by simp [PyData.eqvAll]
  | x :: r, y :: s => by
    show PyData.eqvAll (.int x :: (r.map V.int).map flatD) (.int y :: (s.map V.int).map flatD) = _
    rw [PyData.eqvAll, eqvAll_ints r s]
    by_cases h : x = y
    · subst h
      simp [PyData.eqv]
    · simp [PyData.eqv, h]
section
variable {H : Hp} {Q : VK} {K : PySem.W.Frag} {a b : Addr} {r s : List Int}
theorem w_neTT (h1 : SqT K H a (r.map V.int)) (h2 : SqT K H b (s.map V.int)) (q : Q (.bl (!decide (r = s))) H) : rNeD K (.ref a) (.ref b) H Q :=
  w_neD (dp_tup h1 (fln_fl (ints_fln r))) (dp_tup h2 (fln_fl (ints_fln s))) (shaped_tup (ints_fln r)) (shaped_tup (ints_fln s)) (by rw [PyData.eqv, eqvAll_ints]; exact q)
theorem w_eqTT (h1 : SqT K H a (r.map V.int)) (h2 : SqT K H b (s.map V.int)) (q : Q (.bl (decide (r = s))) H) : rEqD K (.ref a) (.ref b) H Q :=
  w_eqD (dp_tup h1 (fln_fl (ints_fln r))) (dp_tup h2 (fln_fl (ints_fln s))) (shaped_tup (ints_fln r)) (shaped_tup (ints_fln s)) (by rw [PyData.eqv, eqvAll_ints]; exact q)
theorem w_neLL (h1 : SqL K H a (r.map V.int)) (h2 : SqL K H b (s.map V.int)) (q : Q (.bl (!decide (r = s))) H) : rNeD K (.ref a) (.ref b) H Q :=
  w_neD (dp_lst h1 (fln_fl (ints_fln r))) (dp_lst h2 (fln_fl (ints_fln s))) (shaped_lst (ints_fln r)) (shaped_lst (ints_fln s)) (by rw [PyData.eqv, eqvAll_ints]; exact q)
theorem w_eqLL (h1 : SqL K H a (r.map V.int)) (h2 : SqL K H b (s.map V.int)) (q : Q (.bl (decide (r = s))) H) : rEqD K (.ref a) (.ref b) H Q :=
  w_eqD (dp_lst h1 (fln_fl (ints_fln r))) (dp_lst h2 (fln_fl (ints_fln s))) (shaped_lst (ints_fln r)) (shaped_lst (ints_fln s)) (by rw [PyData.eqv, eqvAll_ints]; exact q)
end
end Kit

set_option Elab.async false
set_option linter.all false
set_option maxRecDepth 100000
set_option maxHeartbeats 4000000
namespace My
open PySem PySem.Spec PyProof.Rows L2
/-! ### the walk: "wp" goes as far as it can, "wp1" one step; "hp": what stands at an address; "ex": a heap grown; "sqL", "sqT": a list, a tuple to be read; "side": a side condition; "ix": an item -/
local macro_rules | `(tactic| walk_at "hp") => `(tactic| first | with_reducible assumption | exact Kit.ex_get (by with_reducible assumption) (by walk_at "hp") | fail)
local macro_rules | `(tactic| walk_at "ex") => `(tactic| first | with_reducible assumption | with_reducible exact Evl.Ex.refl _ | exact Kit.ex_snoc (by with_reducible assumption) (by walk_at "ex") | exact Kit.ex_but (by with_reducible assumption) (by with_reducible assumption) (by walk_at "ex") | fail)
local macro_rules | `(tactic| walk_at "but") => `(tactic| first | with_reducible assumption | with_reducible exact Kit.ExBut.refl _ _ | exact Kit.but_snoc (by with_reducible assumption) (by walk_at "but") | exact Kit.but_snocE (by with_reducible assumption) (by walk_at "but") | fail)
local macro_rules | `(tactic| walk_at "sqL") => `(tactic| first | with_reducible assumption | exact Evl.sq_of (by with_reducible assumption) | exact Evl.ex_l (by with_reducible assumption) (by walk_at "sqL") | fail)
local macro_rules | `(tactic| walk_at "sqT") => `(tactic| first | with_reducible assumption | exact Evl.st_of (by with_reducible assumption) | exact Evl.ex_t (by with_reducible assumption) (by walk_at "sqT") | fail)
local macro_rules | `(tactic| walk_at "sq2") => `(tactic| first | with_reducible assumption | exact Or.inr (Evl.st_of (by with_reducible assumption)) | exact Or.inl (Evl.sq_of (by with_reducible assumption)) | exact Or.inl (by walk_at "sqL") | exact Or.inr (by walk_at "sqT") | fail)
local macro_rules | `(tactic| walk_at "len") => `(tactic| (first | assumption | omega | fail))
local macro_rules | `(tactic| walk_at "len2") => `(tactic| first | exact Nat.le_of_ble_eq_true rfl | omega | (simp; omega) | fail)
local macro_rules | `(tactic| walk_at "side") => `(tactic| first | (with_reducible exact trivial) | (show (0 : Int) < _; omega) | (show (0 : Int) < _; decide) | (show L2.CDiv _ _; exact ⟨by omega, by omega⟩) | (show L2.CMul _ _; exact .inr ⟨by omega, by omega⟩) | (show L2.CMul _ _; exact .inl ⟨by omega, by omega⟩) | (show L2.CDivW _ _; exact Kit.divW (by omega) (by omega)) | (show L2.CDivW _ _; exact Kit.divW (by decide) (by decide)) | (show L2.CPow _ _; exact ⟨by decide, by decide, by decide⟩) | fail)
local macro_rules | `(tactic| walk_at "ix") => `(tactic| first | exact L2.atI_nat (j := 0) rfl | exact L2.atI_nat (j := 1) rfl | exact L2.atI_nat (j := 2) rfl | exact L2.atI_nat (j := 3) rfl | exact L2.atI_nat (j := 4) rfl | exact L2.atI_nat (j := 5) rfl | assumption | fail)
local macro_rules | `(tactic| walk_at "norm") => `(tactic| ((with_reducible show Kit.Sm _ _ _ _ _ (List.set _ _ _) _); refine Kit.m_norm (by simp only [List.set_cons_succ, List.set_cons_zero]; exact rfl) ?_))
local macro_rules | `(tactic| walk_at "wp1") => `(tactic| first
  | ((with_reducible show L2.tVar _ _ _ _); refine Kit.w_var rfl ?_)
  | with_reducible refine Kit.w_op ?_
  | with_reducible refine Kit.w_c ?_
  | with_reducible refine Kit.w_cons ?_
  | with_reducible refine Kit.w_nil ?_
  | ((with_reducible show Kit.Sm _ _ _ _ _ _ _); first
      | ((with_reducible show Kit.Sm _ _ _ _ _ (List.set _ _ _) _); refine Kit.m_norm (by simp only [List.set_cons_succ, List.set_cons_zero]; exact rfl) ?_)
      | with_reducible refine Kit.m_seq ?_
      | with_reducible refine Kit.m_asg ?_
      | with_reducible refine Kit.m_if ?_
      | with_reducible refine Kit.m_ret ?_
      | with_reducible refine Kit.m_next ?_
      | with_reducible refine Kit.m_asgG ?_
      | with_reducible refine Kit.m_drop ?_
      | with_reducible refine Kit.m_fld ?_
      | with_reducible refine Kit.m_for ?_
      | with_reducible refine Kit.m_retN ?_
      | with_reducible refine Kit.m_cont ?_
      | with_reducible refine Kit.m_brk ?_)
  | with_reducible refine Kit.w_test ?_
  | with_reducible refine Kit.w_bl ?_
  | with_reducible refine Kit.w_blE ?_
  | with_reducible refine Kit.w_I0 ?_
  | ((with_reducible show L2.rI _ _ _ _ _ _); refine Kit.w_I (by walk_at "side") ?_)
  | with_reducible refine Kit.w_eqI ?_
  | with_reducible refine Kit.i_T ?_
  | with_reducible refine Kit.i_F ?_
  | with_reducible refine Kit.i_N ?_
  | with_reducible refine Kit.i_R ?_
  | ((with_reducible refine Kit.i_D ?_ ?_) <;> intro _)
  | with_reducible refine Kit.w_cb ?_
  | with_reducible refine Kit.w_call0 ?_
  | ((with_reducible show Kit.Alloc _ _ _ _); refine Kit.w_new (by first | exact Nat.le_of_ble_eq_true rfl | walk_at "len") ?_; intro _ _ _ _ _)
  | with_reducible refine Kit.w_tup ?_
  | with_reducible refine Kit.w_lst ?_
  | ((with_reducible show L2.rEq (V.str _) _ _ _); first | with_reducible refine Kit.w_eqS ?_ | refine Kit.w_eqSF (by decide +kernel) ?_)
  | ((with_reducible show L2.rIxL _ _ (V.int _) _ _); refine Kit.w_ixL (by walk_at "sqL") (by walk_at "ix") ?_)
  | ((with_reducible show L2.rIxT _ _ (V.int _) _ _); refine Kit.w_ixT (by walk_at "sqT") (by walk_at "ix") ?_)
  | ((with_reducible show L2.rIn _ false _ _ _ _); first | refine Kit.w_inLt (by walk_at "sq2") (by decide +kernel) ?_ | refine Kit.w_inLf (by walk_at "sq2") (by decide +kernel) ?_)
  | with_reducible refine Kit.w_int ?_
  | with_reducible refine Kit.w_intB ?_
  | with_reducible refine Kit.w_not ?_
  | with_reducible refine Kit.w_and ?_
  | with_reducible refine Kit.w_or ?_
  | with_reducible refine Kit.w_B ?_
  | with_reducible refine Kit.w_ifE ?_
  | with_reducible refine Kit.w_fld ?_
  | with_reducible refine Kit.w_meth ?_
  | with_reducible refine Kit.w_sl ?_
  | with_reducible refine Kit.w_po ?_
  | with_reducible refine Kit.w_ps ?_
  | with_reducible refine Kit.w_pi ?_
  | ((with_reducible show L2.rSlL _ _ _ _ _ _); refine Kit.w_slL (by walk_at "sqL") ?_; intro _ _ _ _ _)
  | ((with_reducible show L2.rSlA _ _ _ _ _ _); refine Kit.w_slT (by walk_at "sqT") ?_; intro _ _ _ _)
  | ((with_reducible show L2.rCatA _ _ _ _ _); refine Kit.w_catT (by walk_at "sqT") (by walk_at "sqT") (by walk_at "len2") ?_; intro _ _ _ _)
  | ((with_reducible show L2.rCat _ _ _ _); refine Kit.w_catL (by walk_at "hp") (by walk_at "hp") (by walk_at "len2") ?_; intro _ _ _ _ _)
  | with_reducible refine Kit.w_bm ?_
  | with_reducible refine Kit.w_bm0 ?_
  | ((with_reducible show L2.tyV _ "list" _ _ ∧ _); refine Kit.w_tyL (by walk_at "sqL") ?_)
  | with_reducible refine Kit.w_make ?_
  | ((with_reducible refine Kit.w_made ?_); intro _ _ _ _ _ _)
  | with_reducible refine Kit.w_neI ?_
  | with_reducible refine Kit.w_un ?_
  | with_reducible refine Kit.w_U ?_
  | with_reducible refine Kit.w_andV ?_
  | with_reducible refine Kit.w_orV ?_
  | with_reducible refine Kit.w_notV ?_
  | with_reducible refine Kit.w_eqB ?_
  | with_reducible refine Kit.w_max ?_
  | with_reducible refine Kit.w_min ?_
  | with_reducible refine Kit.w_abs ?_
  | ((with_reducible show Evl.rLenS _ _ _ _); refine Kit.w_len (by walk_at "sq2") ?_)
  | ((with_reducible show Evl.rListS _ _ _ _); refine Kit.w_list (by walk_at "sq2") ?_; intro _ _ _ _ _)
  | ((with_reducible show Kit.rTupS _ _ _ _); first | (refine Kit.w_tuple (by walk_at "sqL") ?_; intro _ _ _ _ _) | refine Kit.w_tupleT (by walk_at "sqT") ?_)
  | ((with_reducible show Kit.rIsNo _ _ _ _); first | with_reducible refine Kit.w_isNN ?_ | with_reducible refine Kit.w_isNI ?_ | with_reducible refine Kit.w_isNB ?_ | with_reducible refine Kit.w_isNR ?_)
  | ((with_reducible show Kit.rNotNo _ _ _ _); first | with_reducible refine Kit.w_notNN ?_ | with_reducible refine Kit.w_notNI ?_ | with_reducible refine Kit.w_notNB ?_ | with_reducible refine Kit.w_notNR ?_)
  | with_reducible refine Kit.m_gsub ?_
  | ((with_reducible show L2.rSetL _ (V.int _) _ _ _); refine Kit.w_setL (by walk_at "hp") (by first | exact rfl | exact Evl.ixN_nat (by omega)) (by first | (simp only [List.set_cons_succ, List.set_cons_zero]; exact rfl) | exact rfl) ?_; intro _ _ _)
  | ((with_reducible show L2.rIsi _ _ _ _); first | refine Kit.w_isiInt (b := true) (by decide +kernel) ?_ | refine Kit.w_isiInt (b := false) (by decide +kernel) ?_ | refine Kit.w_isiNon (b := true) (by decide +kernel) ?_ | refine Kit.w_isiNon (b := false) (by decide +kernel) ?_ | refine Kit.w_isiBl (b := true) (by decide +kernel) ?_ | refine Kit.w_isiBl (b := false) (by decide +kernel) ?_ | refine Kit.w_isiStr (b := true) (by decide +kernel) ?_ | refine Kit.w_isiStr (b := false) (by decide +kernel) ?_ | refine Kit.w_isiTup (b := true) (by walk_at "sqT") (by decide +kernel) ?_ | refine Kit.w_isiTup (b := false) (by walk_at "sqT") (by decide +kernel) ?_ | refine Kit.w_isiLst (b := true) (by walk_at "sqL") (by decide +kernel) ?_ | refine Kit.w_isiLst (b := false) (by walk_at "sqL") (by decide +kernel) ?_)
  | ((with_reducible show L2.rNeD _ _ _ _ _); first | refine Kit.w_neTT (by walk_at "sqT") (by walk_at "sqT") ?_ | refine Kit.w_neLL (by walk_at "sqL") (by walk_at "sqL") ?_)
  | ((with_reducible show L2.rEqD _ _ _ _ _); first | refine Kit.w_eqTT (by walk_at "sqT") (by walk_at "sqT") ?_ | refine Kit.w_eqLL (by walk_at "sqL") (by walk_at "sqL") ?_)
  | with_reducible refine Kit.w_dget ?_
  | ((with_reducible refine Kit.w_disp ?_); intro _ _ _ _ _)
  | with_reducible refine Kit.w_pp ?_
  | with_reducible refine Kit.w_pn ?_
  | with_reducible refine Kit.w_rng1 ?_
  | with_reducible refine Kit.w_rng2 ?_
  | with_reducible refine Kit.w_rng3 ?_
  | with_reducible refine Kit.w_lc ?_
  | with_reducible refine Kit.w_itl ?_
  | with_reducible refine Kit.w_itt ?_
  | ((with_reducible refine Kit.i_B ?_ ?_) <;> intro _))
local macro_rules | `(tactic| walk_at "wp") => `(tactic| repeat' (walk_at "wp1"))

/-! ### the text by places -/
def topS (i : Nat) : Stmt := PySem.Challenge.pw_onestepcourt_k14_one_step_of_registers.main.body.getD i (.Pass ⟨0, 0, 0, 0⟩)
abbrev s_op : Stmt := topS 6
abbrev N_op : List Str := ["sign", "a", "b"]
theorem sc_op : FnScope N_op ["sign", "a", "b"] (defScope s_op) := ⟨rfl, rfl, rfl, by decide +kernel, rfl, by decide +kernel, by decide +kernel⟩
abbrev s_divided : Stmt := topS 7
abbrev N_divided : List Str := ["sign", "a", "b"]
theorem sc_divided : FnScope N_divided ["sign", "a", "b"] (defScope s_divided) := ⟨rfl, rfl, rfl, by decide +kernel, rfl, by decide +kernel, by decide +kernel⟩
abbrev s_wrapped : Stmt := topS 8
abbrev N_wrapped : List Str := ["sign", "a", "b", "result"]
theorem sc_wrapped : FnScope N_wrapped ["sign", "a", "b"] (defScope s_wrapped) := ⟨rfl, rfl, rfl, by decide +kernel, rfl, by decide +kernel, by decide +kernel⟩
abbrev s_holds : Stmt := topS 9
abbrev N_holds : List Str := ["sign", "a", "b"]
theorem sc_holds : FnScope N_holds ["sign", "a", "b"] (defScope s_holds) := ⟨rfl, rfl, rfl, by decide +kernel, rfl, by decide +kernel, by decide +kernel⟩
abbrev s_out_behind : Stmt := topS 13
abbrev N_out_behind : List Str := ["digests", "out", "word"]
theorem sc_out_behind : FnScope N_out_behind ["digests", "out", "word"] (defScope s_out_behind) := ⟨rfl, rfl, rfl, by decide +kernel, rfl, by decide +kernel, by decide +kernel⟩
abbrev s_name_of : Stmt := topS 14
abbrev N_name_of : List Str := ["word", "number"]
theorem sc_name_of : FnScope N_name_of ["word"] (defScope s_name_of) := ⟨rfl, rfl, rfl, by decide +kernel, rfl, by decide +kernel, by decide +kernel⟩
abbrev s_behind : Stmt := topS 15
abbrev N_behind : List Str := ["place"]
theorem sc_behind : FnScope N_behind ["place"] (defScope s_behind) := ⟨rfl, rfl, rfl, by decide +kernel, rfl, by decide +kernel, by decide +kernel⟩
abbrev s_data_of : Stmt := topS 16
abbrev N_data_of : List Str := ["registers", "word", "name", "place", "place_by_x"]
theorem sc_data_of : FnScope N_data_of ["registers", "word"] (defScope s_data_of) := ⟨rfl, rfl, rfl, by decide +kernel, rfl, by decide +kernel, by decide +kernel⟩
abbrev s_done_by : Stmt := topS 17
abbrev N_done_by : List Str := ["digests", "registers", "word", "data", "pc", "acc", "x", "mark", "out", "count", "name", "halt", "pc_then", "acc_then", "x_then"]
theorem sc_done_by : FnScope N_done_by ["digests", "registers", "word", "data"] (defScope s_done_by) := ⟨rfl, rfl, rfl, by decide +kernel, rfl, by decide +kernel, by decide +kernel⟩
abbrev s_halt_by : Stmt := topS 18
abbrev N_halt_by : List Str := ["name", "registers", "word", "data", "pc", "acc", "x", "mark", "out", "count"]
theorem sc_halt_by : FnScope N_halt_by ["name", "registers", "word", "data"] (defScope s_halt_by) := ⟨rfl, rfl, rfl, by decide +kernel, rfl, by decide +kernel, by decide +kernel⟩
abbrev s_pc_by : Stmt := topS 19
abbrev N_pc_by : List Str := ["name", "registers", "word", "data", "pc", "acc", "place"]
theorem sc_pc_by : FnScope N_pc_by ["name", "registers", "word", "data"] (defScope s_pc_by) := ⟨rfl, rfl, rfl, by decide +kernel, rfl, by decide +kernel, by decide +kernel⟩
abbrev s_acc_by : Stmt := topS 20
abbrev N_acc_by : List Str := ["name", "registers", "word", "data", "acc"]
theorem sc_acc_by : FnScope N_acc_by ["name", "registers", "word", "data"] (defScope s_acc_by) := ⟨rfl, rfl, rfl, by decide +kernel, rfl, by decide +kernel, by decide +kernel⟩
abbrev s_x_by : Stmt := topS 21
abbrev N_x_by : List Str := ["name", "registers", "data"]
theorem sc_x_by : FnScope N_x_by ["name", "registers", "data"] (defScope s_x_by) := ⟨rfl, rfl, rfl, by decide +kernel, rfl, by decide +kernel, by decide +kernel⟩
abbrev s_changed_by : Stmt := topS 22
abbrev N_changed_by : List Str := ["name", "registers"]
theorem sc_changed_by : FnScope N_changed_by ["name", "registers"] (defScope s_changed_by) := ⟨rfl, rfl, rfl, by decide +kernel, rfl, by decide +kernel, by decide +kernel⟩
abbrev s_Digests___init : Stmt := inClass (topS 24) 0
abbrev N_Digests___init : List Str := ["self", "bits", "book"]
theorem sc_Digests___init : FnScope N_Digests___init ["self", "bits", "book"] (defScope s_Digests___init) := ⟨rfl, rfl, rfl, by decide +kernel, rfl, by decide +kernel, by decide +kernel⟩
abbrev s_Digests_leaf : Stmt := inClass (topS 24) 1
abbrev N_Digests_leaf : List Str := ["self", "word"]
theorem sc_Digests_leaf : FnScope N_Digests_leaf ["self", "word"] (defScope s_Digests_leaf) := ⟨rfl, rfl, rfl, by decide +kernel, rfl, by decide +kernel, by decide +kernel⟩
abbrev s_Digests_fold : Stmt := inClass (topS 24) 2
abbrev N_Digests_fold : List Str := ["self", "left", "right", "mixed", "digest"]
theorem sc_Digests_fold : FnScope N_Digests_fold ["self", "left", "right"] (defScope s_Digests_fold) := ⟨rfl, rfl, rfl, by decide +kernel, rfl, by decide +kernel, by decide +kernel⟩
abbrev s_Digests_state : Stmt := inClass (topS 24) 3
abbrev N_Digests_state : List Str := ["self", "numbers", "digest", "number"]
theorem sc_Digests_state : FnScope N_Digests_state ["self", "numbers"] (defScope s_Digests_state) := ⟨rfl, rfl, rfl, by decide +kernel, rfl, by decide +kernel, by decide +kernel⟩
abbrev s_Digests__noted : Stmt := inClass (topS 24) 7
abbrev N_Digests__noted : List Str := ["self", "kind", "text", "digest"]
theorem sc_Digests__noted : FnScope N_Digests__noted ["self", "kind", "text", "digest"] (defScope s_Digests__noted) := ⟨rfl, rfl, rfl, by decide +kernel, rfl, by decide +kernel, by decide +kernel⟩
abbrev s_law_bag : Stmt := topS 26
abbrev N_law_bag : List Str := ["script"]
theorem sc_law_bag : FnScope N_law_bag ["script"] (defScope s_law_bag) := ⟨rfl, rfl, rfl, by decide +kernel, rfl, by decide +kernel, by decide +kernel⟩
abbrev s_law_draw : Stmt := topS 27
abbrev N_law_draw : List Str := ["bag", "many", "cell", "cells", "seed", "rest"]
theorem sc_law_draw : FnScope N_law_draw ["bag", "many"] (defScope s_law_draw) := ⟨rfl, rfl, rfl, by decide +kernel, rfl, by decide +kernel, by decide +kernel⟩
abbrev s_law_leaf : Stmt := topS 28
abbrev N_law_leaf : List Str := ["m", "word"]
theorem sc_law_leaf : FnScope N_law_leaf ["m", "word"] (defScope s_law_leaf) := ⟨rfl, rfl, rfl, by decide +kernel, rfl, by decide +kernel, by decide +kernel⟩
abbrev s_law_fold : Stmt := topS 29
abbrev N_law_fold : List Str := ["m", "x", "y", "z"]
theorem sc_law_fold : FnScope N_law_fold ["m", "x", "y"] (defScope s_law_fold) := ⟨rfl, rfl, rfl, by decide +kernel, rfl, by decide +kernel, by decide +kernel⟩
abbrev s_law_signs : Stmt := topS 32
abbrev N_law_signs : List Str := []
theorem sc_law_signs : FnScope N_law_signs [] (defScope s_law_signs) := ⟨rfl, rfl, rfl, by decide +kernel, rfl, by decide +kernel, by decide +kernel⟩
abbrev s_law_result : Stmt := topS 33
abbrev N_law_result : List Str := ["sign", "a", "b", "results"]
theorem sc_law_result : FnScope N_law_result ["sign", "a", "b"] (defScope s_law_result) := ⟨rfl, rfl, rfl, by decide +kernel, rfl, by decide +kernel, by decide +kernel⟩
abbrev s_law_halt : Stmt := topS 34
abbrev N_law_halt : List Str := ["state", "mark"]
theorem sc_law_halt : FnScope N_law_halt ["state", "mark"] (defScope s_law_halt) := ⟨rfl, rfl, rfl, by decide +kernel, rfl, by decide +kernel, by decide +kernel⟩
abbrev s_law_other : Stmt := topS 35
abbrev N_law_other : List Str := ["state", "n", "a"]
theorem sc_law_other : FnScope N_law_other ["state", "n", "a"] (defScope s_law_other) := ⟨rfl, rfl, rfl, by decide +kernel, rfl, by decide +kernel, by decide +kernel⟩
abbrev s_law_moved : Stmt := topS 36
abbrev N_law_moved : List Str := ["m", "state", "n", "a", "words", "p", "acc"]
theorem sc_law_moved : FnScope N_law_moved ["m", "state", "n", "a"] (defScope s_law_moved) := ⟨rfl, rfl, rfl, by decide +kernel, rfl, by decide +kernel, by decide +kernel⟩
abbrev s_law_worked : Stmt := topS 37
abbrev N_law_worked : List Str := ["m", "state", "n", "a", "words", "p", "acc", "found"]
theorem sc_law_worked : FnScope N_law_worked ["m", "state", "n", "a"] (defScope s_law_worked) := ⟨rfl, rfl, rfl, by decide +kernel, rfl, by decide +kernel, by decide +kernel⟩
abbrev s_law_registers : Stmt := topS 39
abbrev N_law_registers : List Str := ["state"]
theorem sc_law_registers : FnScope N_law_registers ["state"] (defScope s_law_registers) := ⟨rfl, rfl, rfl, by decide +kernel, rfl, by decide +kernel, by decide +kernel⟩
abbrev s_law_word : Stmt := topS 40
abbrev N_law_word : List Str := ["bag", "pick"]
theorem sc_law_word : FnScope N_law_word ["bag"] (defScope s_law_word) := ⟨rfl, rfl, rfl, by decide +kernel, rfl, by decide +kernel, by decide +kernel⟩
abbrev s_law_start : Stmt := topS 42
abbrev N_law_start : List Str := ["bag", "m", "small", "pc", "count", "out", "mark"]
theorem sc_law_start : FnScope N_law_start ["bag", "m"] (defScope s_law_start) := ⟨rfl, rfl, rfl, by decide +kernel, rfl, by decide +kernel, by decide +kernel⟩
abbrev s_law_model : Stmt := topS 43
abbrev N_law_model : List Str := ["registers", "words", "pc", "acc", "x", "mark", "out", "count"]
theorem sc_law_model : FnScope N_law_model ["registers", "words"] (defScope s_law_model) := ⟨rfl, rfl, rfl, by decide +kernel, rfl, by decide +kernel, by decide +kernel⟩
abbrev s_law_data : Stmt := topS 44
abbrev N_law_data : List Str := ["state", "word", "n", "p"]
theorem sc_law_data : FnScope N_law_data ["state", "word"] (defScope s_law_data) := ⟨rfl, rfl, rfl, by decide +kernel, rfl, by decide +kernel, by decide +kernel⟩
abbrev s_law_right : Stmt := topS 45
abbrev N_law_right : List Str := ["bag", "digests", "m", "registers", "word", "data", "state", "other", "written", "k"]
theorem sc_law_right : FnScope N_law_right ["bag", "digests", "m"] (defScope s_law_right) := ⟨rfl, rfl, rfl, by decide +kernel, rfl, by decide +kernel, by decide +kernel⟩
abbrev s_law : Stmt := topS 46
abbrev N_law : List Str := ["script", "bag", "bits", "m", "digests", "turn"]
theorem sc_law : FnScope N_law ["script"] (defScope s_law) := ⟨rfl, rfl, rfl, by decide +kernel, rfl, by decide +kernel, by decide +kernel⟩
/-! ### what the top has written -/
structure Txt (K : PySem.W.Frag) (mg : Str → Option Value) where
  f_op : Kit.GFn' K mg "op" "op" s_op ["sign", "a", "b"]
  f_divided : Kit.GFn' K mg "divided" "divided" s_divided ["sign", "a", "b"]
  f_wrapped : Kit.GFn' K mg "wrapped" "wrapped" s_wrapped ["sign", "a", "b"]
  f_holds : Kit.GFn' K mg "holds" "holds" s_holds ["sign", "a", "b"]
  f_out_behind : Kit.GFn' K mg "out_behind" "out_behind" s_out_behind ["digests", "out", "word"]
  f_name_of : Kit.GFn' K mg "name_of" "name_of" s_name_of ["word"]
  f_behind : Kit.GFn' K mg "behind" "behind" s_behind ["place"]
  f_data_of : Kit.GFn' K mg "data_of" "data_of" s_data_of ["registers", "word"]
  f_done_by : Kit.GFn' K mg "done_by" "done_by" s_done_by ["digests", "registers", "word", "data"]
  f_halt_by : Kit.GFn' K mg "halt_by" "halt_by" s_halt_by ["name", "registers", "word", "data"]
  f_pc_by : Kit.GFn' K mg "pc_by" "pc_by" s_pc_by ["name", "registers", "word", "data"]
  f_acc_by : Kit.GFn' K mg "acc_by" "acc_by" s_acc_by ["name", "registers", "word", "data"]
  f_x_by : Kit.GFn' K mg "x_by" "x_by" s_x_by ["name", "registers", "data"]
  f_changed_by : Kit.GFn' K mg "changed_by" "changed_by" s_changed_by ["name", "registers"]
  f_Digests___init : Kit.GFn K "__init__" "Digests.__init__" s_Digests___init ["self", "bits", "book"]
  f_Digests_leaf : Kit.GFn K "leaf" "Digests.leaf" s_Digests_leaf ["self", "word"]
  f_Digests_fold : Kit.GFn K "fold" "Digests.fold" s_Digests_fold ["self", "left", "right"]
  f_Digests_state : Kit.GFn K "state" "Digests.state" s_Digests_state ["self", "numbers"]
  f_Digests__noted : Kit.GFn K "_noted" "Digests._noted" s_Digests__noted ["self", "kind", "text", "digest"]
  f_law_bag : Kit.GFn' K mg "_law_bag" "_law_bag" s_law_bag ["script"]
  f_law_draw : Kit.GFn' K mg "_law_draw" "_law_draw" s_law_draw ["bag", "many"]
  f_law_leaf : Kit.GFn' K mg "_law_leaf" "_law_leaf" s_law_leaf ["m", "word"]
  f_law_fold : Kit.GFn' K mg "_law_fold" "_law_fold" s_law_fold ["m", "x", "y"]
  f_law_signs : Kit.GFn' K mg "_law_signs" "_law_signs" s_law_signs []
  f_law_result : Kit.GFn' K mg "_law_result" "_law_result" s_law_result ["sign", "a", "b"]
  f_law_halt : Kit.GFn' K mg "_law_halt" "_law_halt" s_law_halt ["state", "mark"]
  f_law_other : Kit.GFn' K mg "_law_other" "_law_other" s_law_other ["state", "n", "a"]
  f_law_moved : Kit.GFn' K mg "_law_moved" "_law_moved" s_law_moved ["m", "state", "n", "a"]
  f_law_worked : Kit.GFn' K mg "_law_worked" "_law_worked" s_law_worked ["m", "state", "n", "a"]
  f_law_registers : Kit.GFn' K mg "_law_registers" "_law_registers" s_law_registers ["state"]
  f_law_word : Kit.GFn' K mg "_law_word" "_law_word" s_law_word ["bag"]
  f_law_start : Kit.GFn' K mg "_law_start" "_law_start" s_law_start ["bag", "m"]
  f_law_model : Kit.GFn' K mg "_law_model" "_law_model" s_law_model ["registers", "words"]
  f_law_data : Kit.GFn' K mg "_law_data" "_law_data" s_law_data ["state", "word"]
  f_law_right : Kit.GFn' K mg "_law_right" "_law_right" s_law_right ["bag", "digests", "m"]
  f_law : Kit.GFn' K mg "law" "law" s_law ["script"]
  c_Digests : Kit.GCl K mg "Digests" f_Digests___init.f
  m_Digests_leaf : Meth K c_Digests.C "leaf" f_Digests_leaf.f
  m_Digests_fold : Meth K c_Digests.C "fold" f_Digests_fold.f
  m_Digests_state : Meth K c_Digests.C "state" f_Digests_state.f
  m_Digests__noted : Meth K c_Digests.C "_noted" f_Digests__noted.f
  n_Digests_bits : NoAttr K c_Digests.C "_bits"
  n_Digests_book : NoAttr K c_Digests.C "_book"
  n_Digests_modulus : NoAttr K c_Digests.C "_modulus"
  a_MARKS : Addr
  g_MARKS : mg "MARKS" = some (.ref a_MARKS)
  w_MARKS : Kit.KTup K a_MARKS [.str "long", .str "done", .str "divided", .str "place", .str "input", .str "full", .str "bad"]
  t_MOST_TOLD : Tok
  g_MOST_TOLD : mg "MOST_TOLD" = some (.int 16 t_MOST_TOLD)
  t_MOST_WORD : Tok
  g_MOST_WORD : mg "MOST_WORD" = some (.int 65535 t_MOST_WORD)
  a_NAMES : Addr
  g_NAMES : mg "NAMES" = some (.ref a_NAMES)
  w_NAMES : Kit.KTup K a_NAMES [.str "bad", .str "halt", .str "lit", .str "load", .str "store", .str "loadx", .str "storex", .str "tox", .str "index", .str "bound", .str "within", .str "not", .str "+", .str "-", .str "*", .str "/", .str "mod", .str "==", .str "!=", .str "<", .str "<=", .str ">", .str ">=", .str "jump", .str "zero", .str "some", .str "call", .str "back", .str "tell"]
  t_PLACES : Tok
  g_PLACES : mg "PLACES" = some (.int 256 t_PLACES)
  a_SIGNS : Addr
  g_SIGNS : mg "SIGNS" = some (.ref a_SIGNS)
  w_SIGNS : Kit.KTup K a_SIGNS [.str "+", .str "-", .str "*", .str "/", .str "mod", .str "==", .str "!=", .str "<", .str "<=", .str ">", .str ">="]
  y_MARKS : ∃ o, K.lookup a_MARKS = some o ∧ o.cls = .type "tuple" ∧ o.dict = none
  z_int : mg "int" = none
  z_len : mg "len" = none
  z_list : mg "list" = none
  z_max : mg "max" = none
  z_range : mg "range" = none
def fl_Digests (v0 v1 v2 : V) : List (Str × V) := [("_bits", v0), ("_book", v1), ("_modulus", v2)]
section
variable {K : PySem.W.Frag} {mg : Str → Option Value} {H : Hp} {p C dx : Addr} {v0 v1 v2 : V} {Q : VK} {R : Prop}
theorem rd_Digests_bits (T : Txt K mg) (h : H p = some (.ins T.c_Digests.C dx (fl_Digests v0 v1 v2))) (q : Q v0 H) : Kit.FldOf K "_bits" (.ref p) H Q := Kit.w_rd h T.c_Digests.cl T.n_Digests_bits rfl q
theorem pt_Digests_bits (T : Txt K mg) {y : V} {W : Hp → Prop} (h : H p = some (.ins T.c_Digests.C dx (fl_Digests v0 v1 v2))) (q : ∀ H2, Kit.ExBut p H H2 → H2 p = some (.ins T.c_Digests.C dx (fl_Digests y v1 v2)) → W H2) : Kit.PutOf K "_bits" y (.ref p) H W := Kit.w_put h T.c_Digests.cl T.n_Digests_bits (Nat.lt_of_lt_of_le (Nat.lt_of_le_of_lt (Nat.le_refl 3) (by decide : 3 < 100)) (by decide)) rfl q
theorem in_Digests_bits (T : Txt K mg) {y : V} {W : Hp → Prop} (h : H p = some (.ins T.c_Digests.C dx [])) (q : ∀ H2, Kit.ExBut p H H2 → H2 p = some (.ins T.c_Digests.C dx ([("_bits", y)])) → W H2) : Kit.PutOf K "_bits" y (.ref p) H W := Kit.w_put h T.c_Digests.cl T.n_Digests_bits (Nat.lt_of_lt_of_le (Nat.lt_of_le_of_lt (Nat.le_refl 0) (by decide : 0 < 100)) (by decide)) rfl q
theorem rd_Digests_book (T : Txt K mg) (h : H p = some (.ins T.c_Digests.C dx (fl_Digests v0 v1 v2))) (q : Q v1 H) : Kit.FldOf K "_book" (.ref p) H Q := Kit.w_rd h T.c_Digests.cl T.n_Digests_book rfl q
theorem pt_Digests_book (T : Txt K mg) {y : V} {W : Hp → Prop} (h : H p = some (.ins T.c_Digests.C dx (fl_Digests v0 v1 v2))) (q : ∀ H2, Kit.ExBut p H H2 → H2 p = some (.ins T.c_Digests.C dx (fl_Digests v0 y v2)) → W H2) : Kit.PutOf K "_book" y (.ref p) H W := Kit.w_put h T.c_Digests.cl T.n_Digests_book (Nat.lt_of_lt_of_le (Nat.lt_of_le_of_lt (Nat.le_refl 3) (by decide : 3 < 100)) (by decide)) rfl q
theorem in_Digests_book (T : Txt K mg) {y : V} {W : Hp → Prop} (h : H p = some (.ins T.c_Digests.C dx [("_bits", v0)])) (q : ∀ H2, Kit.ExBut p H H2 → H2 p = some (.ins T.c_Digests.C dx ([("_bits", v0), ("_book", y)])) → W H2) : Kit.PutOf K "_book" y (.ref p) H W := Kit.w_put h T.c_Digests.cl T.n_Digests_book (Nat.lt_of_lt_of_le (Nat.lt_of_le_of_lt (Nat.le_refl 1) (by decide : 1 < 100)) (by decide)) rfl q
theorem rd_Digests_modulus (T : Txt K mg) (h : H p = some (.ins T.c_Digests.C dx (fl_Digests v0 v1 v2))) (q : Q v2 H) : Kit.FldOf K "_modulus" (.ref p) H Q := Kit.w_rd h T.c_Digests.cl T.n_Digests_modulus rfl q
theorem pt_Digests_modulus (T : Txt K mg) {y : V} {W : Hp → Prop} (h : H p = some (.ins T.c_Digests.C dx (fl_Digests v0 v1 v2))) (q : ∀ H2, Kit.ExBut p H H2 → H2 p = some (.ins T.c_Digests.C dx (fl_Digests v0 v1 y)) → W H2) : Kit.PutOf K "_modulus" y (.ref p) H W := Kit.w_put h T.c_Digests.cl T.n_Digests_modulus (Nat.lt_of_lt_of_le (Nat.lt_of_le_of_lt (Nat.le_refl 3) (by decide : 3 < 100)) (by decide)) rfl q
theorem in_Digests_modulus (T : Txt K mg) {y : V} {W : Hp → Prop} (h : H p = some (.ins T.c_Digests.C dx [("_bits", v0), ("_book", v1)])) (q : ∀ H2, Kit.ExBut p H H2 → H2 p = some (.ins T.c_Digests.C dx (fl_Digests v0 v1 y)) → W H2) : Kit.PutOf K "_modulus" y (.ref p) H W := Kit.w_put h T.c_Digests.cl T.n_Digests_modulus (Nat.lt_of_lt_of_le (Nat.lt_of_le_of_lt (Nat.le_refl 2) (by decide : 2 < 100)) (by decide)) rfl q
theorem me_Digests_leaf (h : H p = some (.ins C dx (fl_Digests v0 v1 v2))) (r : R) : Kit.InsOf C "leaf" (.ref p) H R := Kit.w_ins h rfl r
theorem me_Digests_fold (h : H p = some (.ins C dx (fl_Digests v0 v1 v2))) (r : R) : Kit.InsOf C "fold" (.ref p) H R := Kit.w_ins h rfl r
theorem me_Digests_state (h : H p = some (.ins C dx (fl_Digests v0 v1 v2))) (r : R) : Kit.InsOf C "state" (.ref p) H R := Kit.w_ins h rfl r
theorem me_Digests__noted (h : H p = some (.ins C dx (fl_Digests v0 v1 v2))) (r : R) : Kit.InsOf C "_noted" (.ref p) H R := Kit.w_ins h rfl r
end
local macro_rules | `(tactic| walk_at "wp1") => `(tactic| ((with_reducible show Kit.FldOf _ _ _ _ _); first | with_reducible refine rd_Digests_bits _ (by walk_at "hp") ?_ | with_reducible refine rd_Digests_book _ (by walk_at "hp") ?_ | with_reducible refine rd_Digests_modulus _ (by walk_at "hp") ?_))
local macro_rules | `(tactic| walk_at "wp1") => `(tactic| ((with_reducible show Kit.InsOf _ _ _ _ _); first | with_reducible refine me_Digests_leaf (by walk_at "hp") ?_ | with_reducible refine me_Digests_fold (by walk_at "hp") ?_ | with_reducible refine me_Digests_state (by walk_at "hp") ?_ | with_reducible refine me_Digests__noted (by walk_at "hp") ?_))
local macro_rules | `(tactic| walk_at "wp1") => `(tactic| ((with_reducible show Kit.PutOf _ _ _ _ _ _); first | (with_reducible refine pt_Digests_bits _ (by walk_at "hp") ?_; intro _ _ _) | (with_reducible refine in_Digests_bits _ (by walk_at "hp") ?_; intro _ _ _) | (with_reducible refine pt_Digests_book _ (by walk_at "hp") ?_; intro _ _ _) | (with_reducible refine in_Digests_book _ (by walk_at "hp") ?_; intro _ _ _) | (with_reducible refine pt_Digests_modulus _ (by walk_at "hp") ?_; intro _ _ _) | (with_reducible refine in_Digests_modulus _ (by walk_at "hp") ?_; intro _ _ _)))
theorem ex_done {Q : VK} {v u : V} {H H' : Hp} (q : ∀ H', Evl.Ex H H' → Q v H') (e : Evl.Ex H H') (h : v = u) : Q u H' := h ▸ q H' e
section
variable {P : Program} {w : World} {K : PySem.W.Frag} {mg : Str → Option Value} {base : Heap}

/-! ### the mathematics -/
inductive Sg where | add | sub | mul | div | mod | eq | ne | lt | le | gt | ge
deriving DecidableEq
def Sg.str : Sg → Str
  | .add => "+" | .sub => "-" | .mul => "*" | .div => "/" | .mod => "mod" | .eq => "==" | .ne => "!=" | .lt => "<" | .le => "<=" | .gt => ">" | .ge => ">="
def sp_divided : Sp := fun vs H Q _ => ∃ (s : Str) (a b : Int), vs = [.str s, .int a, .int b] ∧ (s = "/" ∨ s = "mod") ∧ 0 ≤ b ∧ b < 65536 ∧ ∀ H', Evl.Ex H H' → Q (if b = 0 then .non else if s = "/" then .int (a / b) else .int (a % b)) H'
theorem ok_divided (T : Txt K mg) : FnOk P w K mg base CX0 1 T.f_divided.f T.f_divided.fd ["sign", "a", "b"] (sp_divided) := by
  refine T.f_divided.F.ok sc_divided (fun vs H Q E h => ?_) (fun cdv A outer s H vs Q E hr h => ?_)
  · obtain ⟨s, a, b, rfl, hs, h0, h1, q⟩ := h
    rfl
  obtain ⟨s, a, b, rfl, hs, h0, h1, q⟩ := h
  have nd := sc_divided.nd
  refine Kit.ok_body (σ := [some _, some _, some _]) ((pss_cons (ps_if (pt_cmpR op_eq (pv 2) pe_int (nomark _))
    (pss_one (ps_ret pe_non))
    pss_nil)
    (pss_one (ps_ret (pe_ifExp (pt_cmpR op_eq (pv 0) pe_str (nomark _)) (pe_op op_fdivW (pv 1) (pv 2)) (pe_op op_mod (pv 1) (pv 2))))))) rfl ?_
  rcases hs with rfl | rfl <;> walk_at "wp"
  all_goals rename_i hb
  · rw [if_pos hb] at q
    exact q _ (Evl.Ex.refl _)
  · rw [if_neg hb, if_pos rfl] at q
    exact q _ (Evl.Ex.refl _)
  · rw [if_pos hb] at q
    exact q _ (Evl.Ex.refl _)
  · rw [if_neg hb, if_neg (by decide +kernel)] at q
    exact q _ (Evl.Ex.refl _)
def sp_wrapped : Sp := fun vs H Q _ => ∃ (s : Str) (a b : Int), vs = [.str s, .int a, .int b] ∧ (s = "+" ∨ s = "-" ∨ s = "*") ∧ 0 ≤ a ∧ a < 65536 ∧ 0 ≤ b ∧ b < 65536 ∧ ∀ H', Evl.Ex H H' → Q (.int ((if s = "+" then a + b else if s = "-" then a - b else a * b) % 65536)) H'
theorem ok_wrapped (T : Txt K mg) : FnOk P w K mg base CX0 1 T.f_wrapped.f T.f_wrapped.fd ["sign", "a", "b"] (sp_wrapped) := by
  refine T.f_wrapped.F.ok sc_wrapped (fun vs H Q E h => ?_) (fun cdv A outer s H vs Q E hr h => ?_)
  · obtain ⟨s, a, b, rfl, hs, ha0, ha1, h0, h1, q⟩ := h
    rfl
  obtain ⟨s, a, b, rfl, hs, ha0, ha1, h0, h1, q⟩ := h
  have nd := sc_wrapped.nd
  refine Kit.ok_body (σ := [some _, some _, some _, none]) ((pss_cons (ps_if (pt_cmpR op_eq (pv 0) pe_str (nomark _))
    (pss_one (ps_set (i := 3) nd rfl (Or.inl rfl) (pe_op op_add (pv 1) (pv 2))))
    (pss_one (ps_if (pt_cmpR op_eq (pv 0) pe_str (nomark _))
    (pss_one (ps_set (i := 3) nd rfl (Or.inl rfl) (pe_op op_sub (pv 1) (pv 2))))
    (pss_one (ps_set (i := 3) nd rfl (Or.inl rfl) (pe_op op_mul (pv 1) (pv 2)))))))
    (pss_one (ps_ret (pe_op op_mod (pv 3) (pe_op op_add (pe_glob (v := .int 65535) rfl T.g_MOST_WORD ⟨_, rfl⟩) pe_int)))))) rfl ?_
  rcases hs with rfl | rfl | rfl <;> walk_at "wp"
  · rw [if_pos rfl] at q
    exact q _ (Evl.Ex.refl _)
  · rw [if_neg (by decide +kernel), if_pos rfl] at q
    exact q _ (Evl.Ex.refl _)
  · rw [if_neg (by decide +kernel), if_neg (by decide +kernel)] at q
    exact q _ (Evl.Ex.refl _)
def cmpB : Sg → Int → Int → Bool
  | .eq, a, b => decide (a = b)
  | .ne, a, b => !decide (a = b)
  | .lt, a, b => decide (a < b)
  | .le, a, b => decide (a ≤ b)
  | .gt, a, b => decide (b < a)
  | .ge, a, b => decide (b ≤ a)
  | _, _, _ => false
def Sg.isCmp : Sg → Bool
  | .eq | .ne | .lt | .le | .gt | .ge => true
  | _ => false
def sp_holds : Sp := fun vs H Q _ => ∃ (g : Sg) (a b : Int), vs = [.str g.str, .int a, .int b] ∧ g.isCmp = true ∧ ∀ H', Evl.Ex H H' → Q (.bl (cmpB g a b)) H'
theorem ok_holds (T : Txt K mg) : FnOk P w K mg base CX0 1 T.f_holds.f T.f_holds.fd ["sign", "a", "b"] (sp_holds) := by
  refine T.f_holds.F.ok sc_holds (fun vs H Q E h => ?_) (fun cdv A outer s H vs Q E hr h => ?_)
  · obtain ⟨g, a, b, rfl, hs, q⟩ := h
    rfl
  obtain ⟨g, a, b, rfl, hs, q⟩ := h
  have nd := sc_holds.nd
  refine Kit.ok_body (σ := [some _, some _, some _]) ((pss_cons (ps_if (pt_cmpR op_eq (pv 0) pe_str (nomark _))
    (pss_one (ps_ret (pe_cmpR op_eq (pv 1) (pv 2) (nomark _))))
    pss_nil)
    (pss_cons (ps_if (pt_cmpR op_eq (pv 0) pe_str (nomark _))
    (pss_one (ps_ret (pe_cmpR op_ne (pv 1) (pv 2) (nomark _))))
    pss_nil)
    (pss_cons (ps_if (pt_cmpR op_eq (pv 0) pe_str (nomark _))
    (pss_one (ps_ret (pe_cmpR op_lt (pv 1) (pv 2) (nomark _))))
    pss_nil)
    (pss_cons (ps_if (pt_cmpR op_eq (pv 0) pe_str (nomark _))
    (pss_one (ps_ret (pe_cmpR op_le (pv 1) (pv 2) (nomark _))))
    pss_nil)
    (pss_cons (ps_if (pt_cmpR op_eq (pv 0) pe_str (nomark _))
    (pss_one (ps_ret (pe_cmpR op_gt (pv 1) (pv 2) (nomark _))))
    pss_nil)
    (pss_one (ps_ret (pe_cmpR op_ge (pv 1) (pv 2) (nomark _)))))))))) rfl ?_
  have q := q _ (Evl.Ex.refl _)
  cases g <;> first | (cases hs; done) | skip
  all_goals dsimp only [Sg.str]
  all_goals walk_at "wp"
  all_goals exact q
def opV : Sg → Int → Int → V
  | .add, a, b => .int ((a + b) % 65536)
  | .sub, a, b => .int ((a - b) % 65536)
  | .mul, a, b => .int ((a * b) % 65536)
  | .div, a, b => if b = 0 then .non else .int (a / b)
  | .mod, a, b => if b = 0 then .non else .int (a % b)
  | g, a, b => if cmpB g a b = true then .int 1 else .int 0
theorem use_divided {s : Str} {a b : Int} {H : Hp} {Q : VK} {E : XK} (hs : s = "/" ∨ s = "mod") (h0 : 0 ≤ b) (h1 : b < 65536) (k : ∀ H', Evl.Ex H H' → Q (if b = 0 then .non else if s = "/" then .int (a / b) else .int (a % b)) H') : sp_divided [.str s, .int a, .int b] H Q E := ⟨s, a, b, rfl, hs, h0, h1, k⟩
theorem use_wrapped {s : Str} {a b : Int} {H : Hp} {Q : VK} {E : XK} (hs : s = "+" ∨ s = "-" ∨ s = "*") (ha0 : 0 ≤ a) (ha1 : a < 65536) (h0 : 0 ≤ b) (h1 : b < 65536) (k : ∀ H', Evl.Ex H H' → Q (.int ((if s = "+" then a + b else if s = "-" then a - b else a * b) % 65536)) H') : sp_wrapped [.str s, .int a, .int b] H Q E := ⟨s, a, b, rfl, hs, ha0, ha1, h0, h1, k⟩
theorem opV_cmp {g : Sg} {a b : Int} (hg : g.isCmp = true) : opV g a b = if cmpB g a b = true then .int 1 else .int 0 := by cases g <;> first | rfl | cases hg
def sp_op : Sp := fun vs H Q _ => ∃ (g : Sg) (a b : Int), vs = [.str g.str, .int a, .int b] ∧ 0 ≤ a ∧ a < 65536 ∧ 0 ≤ b ∧ b < 65536 ∧ ∀ H', Evl.Ex H H' → Q (opV g a b) H'
local macro_rules | `(tactic| walk_at "wp1") => `(tactic| ((with_reducible refine use_divided (by first | exact .inl rfl | exact .inr rfl) (by assumption) (by assumption) ?_); intro _ _))
local macro_rules | `(tactic| walk_at "wp1") => `(tactic| ((with_reducible refine use_wrapped (by first | exact .inl rfl | exact .inr (.inl rfl) | exact .inr (.inr rfl)) (by assumption) (by assumption) (by assumption) (by assumption) ?_); intro _ _))
theorem use_holds {g : Sg} {a b : Int} {H : Hp} {Q : VK} {E : XK} (s : Str) (hs : g.str = s) (hg : g.isCmp = true) (k : ∀ H', Evl.Ex H H' → Q (.bl (cmpB g a b)) H') : sp_holds [.str s, .int a, .int b] H Q E := ⟨g, a, b, by rw [hs], hg, k⟩
theorem ok_op (T : Txt K mg) : FnOk P w K mg base CX0 2 T.f_op.f T.f_op.fd ["sign", "a", "b"] (sp_op) := by
  have G_divided := ok_divided (P := P) (w := w) (base := base) T
  have G_holds := ok_holds (P := P) (w := w) (base := base) T
  have G_wrapped := ok_wrapped (P := P) (w := w) (base := base) T
  refine T.f_op.F.ok sc_op (fun vs H Q E h => ?_) (fun cdv A outer s H vs Q E hr h => ?_)
  · obtain ⟨g, a, b, rfl, ha0, ha1, h0, h1, q⟩ := h
    rfl
  obtain ⟨g, a, b, rfl, ha0, ha1, h0, h1, q⟩ := h
  have nd := sc_op.nd
  have hr1 : Room 1 _ := hr.mono (by decide)
  refine Kit.ok_body (σ := [some _, some _, some _]) ((pss_cons (ps_if (pt_cmpR (Kit.kIn K) (pv 0) (pe_tup (pa_cons pe_str (pa_cons pe_str pa_nil))) (by rfl))
    (pss_one (ps_ret (pe_call G_divided hr1 (by rfl) T.f_divided.g T.f_divided.F.kp T.f_divided.b .nil pass0 (pa_cons (pv 0) (pa_cons (pv 1) (pa_cons (pv 2) pa_nil))))))
    pss_nil)
    (pss_cons (ps_if (pt_cmpR (Kit.kIn K) (pv 0) (pe_tup (pa_cons pe_str (pa_cons pe_str (pa_cons pe_str pa_nil)))) (by rfl))
    (pss_one (ps_ret (pe_call G_wrapped hr1 (by rfl) T.f_wrapped.g T.f_wrapped.F.kp T.f_wrapped.b .nil pass0 (pa_cons (pv 0) (pa_cons (pv 1) (pa_cons (pv 2) pa_nil))))))
    pss_nil)
    (pss_one (ps_ret (pe_ifExp (pt_val (pe_call G_holds hr1 (by rfl) T.f_holds.g T.f_holds.F.kp T.f_holds.b .nil pass0 (pa_cons (pv 0) (pa_cons (pv 1) (pa_cons (pv 2) pa_nil))))) pe_int pe_int)))))) rfl ?_
  cases g
  all_goals dsimp only [Sg.str]
  all_goals walk_at "wp"
  all_goals try exact ex_done q (by walk_at "ex") rfl
  · refine use_holds (g := .eq) _ rfl rfl fun H' e => ?_
    walk_at "wp" <;> (rename_i hc; exact ex_done q (by walk_at "ex") (by rw [opV_cmp rfl, hc]; rfl))
  · refine use_holds (g := .ne) _ rfl rfl fun H' e => ?_
    walk_at "wp" <;> (rename_i hc; exact ex_done q (by walk_at "ex") (by rw [opV_cmp rfl, hc]; rfl))
  · refine use_holds (g := .lt) _ rfl rfl fun H' e => ?_
    walk_at "wp" <;> (rename_i hc; exact ex_done q (by walk_at "ex") (by rw [opV_cmp rfl, hc]; rfl))
  · refine use_holds (g := .le) _ rfl rfl fun H' e => ?_
    walk_at "wp" <;> (rename_i hc; exact ex_done q (by walk_at "ex") (by rw [opV_cmp rfl, hc]; rfl))
  · refine use_holds (g := .gt) _ rfl rfl fun H' e => ?_
    walk_at "wp" <;> (rename_i hc; exact ex_done q (by walk_at "ex") (by rw [opV_cmp rfl, hc]; rfl))
  · refine use_holds (g := .ge) _ rfl rfl fun H' e => ?_
    walk_at "wp" <;> (rename_i hc; exact ex_done q (by walk_at "ex") (by rw [opV_cmp rfl, hc]; rfl))
/-! ### the law's own reckoning -/

/-! ### the machine's names, by texts -/
def strL : List V → List Str := fun xs => xs.filterMap fun v => match v with
  | .str s => some s
  | _ => none
def isStr : V → Bool
  | .str _ => true
  | _ => false
theorem inV_strs {s : Str} : ∀ {xs : List V}, xs.all isStr = true → inV (.str s) xs = decide (s ∈ strL xs) ∧ xs.all flatV = true
  | [], _ => ⟨rfl, rfl⟩
  | v :: xs, h => by
    rw [List.all_cons, Bool.and_eq_true] at h
    obtain ⟨h1, h2⟩ := inV_strs (s := s) h.2
    cases v with
    | str t =>
      refine ⟨?_, by rw [List.all_cons, h2]; rfl⟩
      show (eqV (.str t) (.str s) || inV (.str s) xs) = decide (s ∈ t :: strL xs)
      rw [h1]
      show ((t == s) || decide (s ∈ strL xs)) = _
      rw [Bool.eq_iff_iff, Bool.or_eq_true, beq_iff_eq, decide_eq_true_iff, decide_eq_true_iff, List.mem_cons]
      exact ⟨fun h => h.imp Eq.symm id, fun h => h.imp Eq.symm id⟩
    | _ => cases h.1
theorem w_inS {K : PySem.W.Frag} {s : Str} {p : Addr} {xs : List V} {H : Hp} {Q : VK} (h : SqL K H p xs ∨ SqT K H p xs) (hs : xs.all isStr = true) (q : Q (.bl (decide (s ∈ strL xs))) H) : rIn K false (.str s) (.ref p) H Q := by
  obtain ⟨h1, h2⟩ := inV_strs (s := s) hs
  refine ⟨p, xs, rfl, h, rfl, h2, ?_⟩
  rw [if_neg Bool.false_ne_true, h1]
  exact q
theorem w_gtup {K : PySem.W.Frag} {a : Addr} {xs : List V} {n : Nat} {t : TGs} {σ : L2.St} {H : Hp} {Q : L2.St → Hp → Prop} (h : SqT K H a xs) (hl : xs.length = n) (q : t xs σ H Q) : gTup K n t (.ref a) σ H Q := ⟨a, xs, rfl, h, hl, q⟩
theorem w_gcons {t : TG} {u : TGs} {v : V} {r : List V} {σ : L2.St} {H : Hp} {Q : L2.St → Hp → Prop} (q : t v σ H fun σ' H' => u r σ' H' Q) : gCons t u (v :: r) σ H Q := ⟨v, r, rfl, q⟩
local macro_rules | `(tactic| walk_at "wp1") => `(tactic| first
  | ((with_reducible show L2.rEq (V.str _) _ _ _); refine Kit.w_eqSd ?_)
  | ((with_reducible show L2.rIn _ false (V.str _) _ _ _); refine w_inS (by walk_at "sq2") (by rfl) ?_)
  | ((with_reducible show L2.gTup _ _ _ _ _ _ _); refine w_gtup (by walk_at "sqT") (by rfl) ?_)
  | with_reducible refine w_gcons ?_)
def sgs : List Str := ["+", "-", "*", "/", "mod", "==", "!=", "<", "<=", ">", ">="]
def nms : List Str := ["bad", "halt", "lit", "load", "store", "loadx", "storex", "tox", "index", "bound", "within", "not", "+", "-", "*", "/", "mod", "==", "!=", "<", "<=", ">", ">=", "jump", "zero", "some", "call", "back", "tell"]
def nm (n : Int) : Str := nms.getD n.toNat "bad"
theorem nm_at {n : Int} (h0 : 0 ≤ n) (h1 : n < 29) : atI (nms.map V.str) n = some (.str (nm n)) := by
  obtain ⟨j, rfl⟩ := Int.eq_ofNat_of_zero_le h0
  refine L2.atI_nat (j := j) ?_
  have hj : j < nms.length := by show j < 29; omega
  rw [List.getElem?_map, List.getElem?_eq_getElem hj]
  unfold nm
  show some (V.str nms[j]) = some (V.str (nms.getD (Int.toNat (j : Int)) "bad"))
  rw [Int.toNat_natCast, List.getD_eq_getElem?_getD, List.getElem?_eq_getElem hj]
  rfl
theorem nm_bad {n : Int} (h1 : ¬ n < 29) : nm n = "bad" := by
  unfold nm
  rw [List.getD_eq_getElem?_getD, List.getElem?_eq_none (by show 29 ≤ _; omega)]
  rfl
def sp_name_of : Sp := fun vs H Q _ => ∃ word : Int, vs = [.int word] ∧ 0 ≤ word ∧ word < 65536 ∧ Q (.str (nm (word / 1024))) H
theorem ok_name_of (T : Txt K mg) : FnOk P w K mg base CX0 1 T.f_name_of.f T.f_name_of.fd ["word"] (sp_name_of) := by
  refine T.f_name_of.F.ok sc_name_of (fun vs H Q E h => ?_) (fun cdv A outer s H vs Q E hr h => ?_)
  · obtain ⟨word, rfl, h0, h1, q⟩ := h
    rfl
  obtain ⟨word, rfl, h0, h1, q⟩ := h
  have nd := sc_name_of.nd
  refine Kit.ok_body (σ := [some _, none]) ((pss_cons (ps_set (i := 1) nd rfl (Or.inl rfl) (pe_op op_fdiv (pv 0) pe_int))
    (pss_one (ps_ret (pe_ifExp (pt_cmpR op_lt (pv 1) (pe_callB (Kit.kLen K) (by rfl) T.z_len (by decide +kernel) (pa_cons (pe_glob (v := .ref T.a_NAMES) rfl T.g_NAMES rfl) pa_nil)) (nomark _)) (pe_ix (Kit.ixT K) (pe_glob (v := .ref T.a_NAMES) rfl T.g_NAMES rfl) (pv 1) (fun _ _ => rfl)) pe_str))))) rfl ?_
  walk_at "wp"
  refine Kit.w_len (.inr (T.w_NAMES.sq _)) ?_
  walk_at "wp"
  · rename_i h
    have h : word / 1024 < 29 := h
    exact Kit.w_ixT (xs := nms.map V.str) (T.w_NAMES.sq _) (nm_at (by omega) h) q
  · rename_i h
    have h : ¬ word / 1024 < 29 := h
    rw [nm_bad h] at q
    exact q
def sp_behind : Sp := fun vs H Q _ => ∃ p : Int, vs = [.int p] ∧ Q (.int ((p + 1) % 256)) H
theorem ok_behind (T : Txt K mg) : FnOk P w K mg base CX0 1 T.f_behind.f T.f_behind.fd ["place"] (sp_behind) := by
  refine T.f_behind.F.ok sc_behind (fun vs H Q E h => ?_) (fun cdv A outer s H vs Q E hr h => ?_)
  · obtain ⟨p, rfl, q⟩ := h
    rfl
  obtain ⟨p, rfl, q⟩ := h
  have nd := sc_behind.nd
  refine Kit.ok_body (σ := [some _]) ((pss_one (ps_ret (pe_op op_mod (pe_op op_add (pv 0) pe_int) (pe_glob (v := .int 256) rfl T.g_PLACES ⟨_, rfl⟩))))) rfl ?_
  walk_at "wp"
  exact q
local macro_rules | `(tactic| walk_at "wp1") => `(tactic| ((with_reducible show sp_behind _ _ _ _); refine ⟨_, rfl, ?_⟩))
/-- the place of the other word, and whether it is changed -/
def dataM (s : Str) (word x : Int) : Option (Int × Bool) :=
  if s ∈ (["load", "index", "within", "back"] : List Str) ∨ s ∈ sgs then some (word % 256, false)
  else if s = "loadx" then some ((word % 256 + x) % 256, false)
  else if s ∈ (["store", "call"] : List Str) then some (word % 256, true)
  else if s = "storex" then some ((word % 256 + x) % 256, true)
  else none
def VData (H : Hp) : Option (Int × Bool) → V → Prop
  | none, v => v = .non
  | some (p, b), v => ∃ t, v = .ref t ∧ H t = some (.tup [.int p, .bl b])
def regsV (pc acc x mark out count : Int) : List V := [.int pc, .int acc, .int x, .int mark, .int out, .int count]
def sp_data_of (K : PySem.W.Frag) : Sp := fun vs H Q _ => ∃ (r : Addr) (word pc acc x mark out count : Int), vs = [.ref r, .int word] ∧ SqT K H r [.int pc, .int acc, .int x, .int mark, .int out, .int count] ∧ 0 ≤ word ∧ word < 65536 ∧ ∀ v H', Evl.Ex H H' → VData H' (dataM (nm (word / 1024)) word x) v → Q v H'
theorem ok_data_of (T : Txt K mg) : FnOk P w K mg base CX0 2 T.f_data_of.f T.f_data_of.fd ["registers", "word"] (sp_data_of K) := by
  have G_name_of := ok_name_of (P := P) (w := w) (base := base) T
  refine T.f_data_of.F.ok sc_data_of (fun vs H Q E h => ?_) (fun cdv A outer s H vs Q E hr h => ?_)
  · obtain ⟨r, word, pc, acc, x, mark, out, count, rfl, hr6, h0, h1, q⟩ := h
    rfl
  obtain ⟨r, word, pc, acc, x, mark, out, count, rfl, hr6, h0, h1, q⟩ := h
  have nd := sc_data_of.nd
  have hr1 : Room 1 _ := hr.mono (by decide)
  refine Kit.ok_body (σ := [some _, some _, none, none, none]) ((pss_cons (ps_set (i := 2) nd rfl (Or.inl rfl) (pe_call G_name_of hr1 (by rfl) T.f_name_of.g T.f_name_of.F.kp T.f_name_of.b .nil pass0 (pa_cons (pv 1) pa_nil)))
    (pss_cons (ps_set (i := 3) nd rfl (Or.inl rfl) (pe_op op_mod (pv 1) (pe_glob (v := .int 256) rfl T.g_PLACES ⟨_, rfl⟩)))
    (pss_cons (ps_set (i := 4) nd rfl (Or.inl rfl) (pe_op op_mod (pe_op op_add (pv 3) (pe_ix (Kit.ixT K) (pv 0) pe_int (fun _ _ => rfl))) (pe_glob (v := .int 256) rfl T.g_PLACES ⟨_, rfl⟩)))
    (pss_cons (ps_if (PW.pt (pw_or (pt_cmpR (Kit.kIn K) (pv 2) (pe_tup (pa_cons pe_str (pa_cons pe_str (pa_cons pe_str (pa_cons pe_str pa_nil))))) (by rfl)) (pw_or1 (pt_cmpR (Kit.kIn K) (pv 2) (pe_glob (v := .ref T.a_SIGNS) rfl T.g_SIGNS rfl) (by rfl)))))
    (pss_one (ps_ret (pe_tup (pa_cons (pv 3) (pa_cons pe_bl pa_nil)))))
    pss_nil)
    (pss_cons (ps_if (pt_cmpR op_eq (pv 2) pe_str (nomark _))
    (pss_one (ps_ret (pe_tup (pa_cons (pv 4) (pa_cons pe_bl pa_nil)))))
    pss_nil)
    (pss_cons (ps_if (pt_cmpR (Kit.kIn K) (pv 2) (pe_tup (pa_cons pe_str (pa_cons pe_str pa_nil))) (by rfl))
    (pss_one (ps_ret (pe_tup (pa_cons (pv 3) (pa_cons pe_bl pa_nil)))))
    pss_nil)
    (pss_cons (ps_if (pt_cmpR op_eq (pv 2) pe_str (nomark _))
    (pss_one (ps_ret (pe_tup (pa_cons (pv 4) (pa_cons pe_bl pa_nil)))))
    pss_nil)
    (pss_one (ps_ret pe_non)))))))))) rfl ?_
  walk_at "wp"
  refine ⟨word, rfl, h0, h1, ?_⟩
  generalize nm (word / 1024) = s at *
  have go : ∀ (p : Int) (b : Bool) (t : Addr) (H' : Hp), dataM s word x = some (p, b) → Evl.Ex H H' → H' t = some (.tup [.int p, .bl b]) → Q (.ref t) H' := fun p b t H' e1 e2 e3 => q _ _ e2 (by rw [e1]; exact ⟨t, rfl, e3⟩)
  walk_at "wp"
  · refine go _ _ _ _ ?_ (by walk_at "ex") (by assumption)
    unfold dataM
    rw [if_pos (.inl ‹_›)]
  rename_i p1 H1 n1 e1 f1 hn1
  refine w_inS (.inr (T.w_SIGNS.sq _)) (by rfl) ?_
  walk_at "wp"
  · refine go _ _ _ _ ?_ (by walk_at "ex") (by assumption)
    unfold dataM
    rw [if_pos (.inr ‹_›)]
  all_goals (try (refine go _ _ _ _ ?_ (by walk_at "ex") (by assumption)))
  all_goals (try (refine q _ _ (by walk_at "ex") ?_; rw [show dataM s word x = none from ?_]; first | rfl | skip))
  all_goals
    unfold dataM
    rw [if_neg (fun z => z.elim (by assumption) (by assumption))]
  · rw [if_pos (by assumption)]
  · rw [if_neg (by assumption), if_pos (by assumption)]
  · rw [if_neg (by assumption), if_neg (by assumption), if_pos (by assumption)]
  · rw [if_neg (by assumption), if_neg (by assumption), if_neg (by assumption)]

def ParOf (i j : Nat) (vs : List V) (σ : L2.St) (H : Hp) (nx : L2.St → Hp → Prop) : Prop := ∃ v w, vs = [v, w] ∧ nx ((σ.set i (some v)).set j (some w)) H
theorem m_par {i j : Nat} {ta : TA} {nx bk ct : L2.St → Hp → Prop} {rt : VK} {σ : L2.St} {H : Hp} (h : ta σ H fun vs H1 => ParOf i j vs σ H1 nx) : Kit.Sm (tPar i j ta) nx rt bk ct σ H := h
theorem w_par {i j : Nat} {v u : V} {σ σ' : L2.St} {H : Hp} {nx : L2.St → Hp → Prop} (e : (σ.set i (some v)).set j (some u) = σ') (h : nx σ' H) : ParOf i j [v, u] σ H nx := ⟨v, u, rfl, by rw [e]; exact h⟩
theorem w_gname {i : Nat} {v : V} {σ σ' : L2.St} {H : Hp} {Q : L2.St → Hp → Prop} (e : σ.set i (some v) = σ') (h : Q σ' H) : gName i v σ H Q := by subst e; exact h
theorem w_gnil {σ : L2.St} {H : Hp} {Q : L2.St → Hp → Prop} (h : Q σ H) : gNil [] σ H Q := ⟨rfl, h⟩
local macro_rules | `(tactic| walk_at "wp1") => `(tactic| first
  | ((with_reducible show L2.gName _ _ _ _ _); refine w_gname (by simp only [List.set_cons_succ, List.set_cons_zero]; exact rfl) ?_)
  | with_reducible refine w_gnil ?_
  | with_reducible refine m_par ?_
  | ((with_reducible show ParOf _ _ _ _ _ _); refine w_par (by simp only [List.set_cons_succ, List.set_cons_zero]; exact rfl) ?_))
local macro_rules | `(tactic| walk_at "ex2") => `(tactic| first | with_reducible exact Evl.Ex.refl _ | (walk_at "ex"))
/-! ### the registers behind a step -/
def xM (s : Str) (acc x : Int) (data : V) : V := if s = "tox" then .int acc else if s = "index" then data else .int x
def sp_x_by (K : PySem.W.Frag) : Sp := fun vs H Q _ => ∃ (s : Str) (r : Addr) (pc acc x mark out count : Int) (data : V), vs = [.str s, .ref r, data] ∧ SqT K H r [.int pc, .int acc, .int x, .int mark, .int out, .int count] ∧ ∀ H', Evl.Ex H H' → Q (xM s acc x data) H'
theorem ok_x_by (T : Txt K mg) : FnOk P w K mg base CX0 1 T.f_x_by.f T.f_x_by.fd ["name", "registers", "data"] (sp_x_by K) := by
  refine T.f_x_by.F.ok sc_x_by (fun vs H Q E h => ?_) (fun cdv A outer s H vs Q E hr h => ?_)
  · obtain ⟨s, r, pc, acc, x, mark, out, count, data, rfl, hr6, q⟩ := h
    rfl
  obtain ⟨s, r, pc, acc, x, mark, out, count, data, rfl, hr6, q⟩ := h
  have nd := sc_x_by.nd
  refine Kit.ok_body (σ := [some _, some _, some _]) ((pss_cons (ps_if (pt_cmpR op_eq (pv 0) pe_str (nomark _))
    (pss_one (ps_ret (pe_ix (Kit.ixT K) (pv 1) pe_int (fun _ _ => rfl))))
    pss_nil)
    (pss_cons (ps_if (pt_cmpR op_eq (pv 0) pe_str (nomark _))
    (pss_one (ps_ret (pv 2)))
    pss_nil)
    (pss_one (ps_ret (pe_ix (Kit.ixT K) (pv 1) pe_int (fun _ _ => rfl))))))) rfl ?_
  walk_at "wp"
  all_goals (refine ex_done q (by walk_at "ex2") ?_; unfold xM)
  · rw [if_pos (by assumption)]
  · rw [if_neg (by assumption), if_pos (by assumption)]
  · rw [if_neg (by assumption), if_neg (by assumption)]
def chM (s : Str) (pc acc : Int) : V := if s ∈ (["store", "storex"] : List Str) then .int acc else if s = "call" then .int ((pc + 1) % 256) else .non
def sp_changed_by (K : PySem.W.Frag) : Sp := fun vs H Q _ => ∃ (s : Str) (r : Addr) (pc acc x mark out count : Int), vs = [.str s, .ref r] ∧ SqT K H r [.int pc, .int acc, .int x, .int mark, .int out, .int count] ∧ ∀ H', Evl.Ex H H' → Q (chM s pc acc) H'
theorem ok_changed_by (T : Txt K mg) : FnOk P w K mg base CX0 2 T.f_changed_by.f T.f_changed_by.fd ["name", "registers"] (sp_changed_by K) := by
  have G_behind := ok_behind (P := P) (w := w) (base := base) T
  refine T.f_changed_by.F.ok sc_changed_by (fun vs H Q E h => ?_) (fun cdv A outer s H vs Q E hr h => ?_)
  · obtain ⟨s, r, pc, acc, x, mark, out, count, rfl, hr6, q⟩ := h
    rfl
  obtain ⟨s, r, pc, acc, x, mark, out, count, rfl, hr6, q⟩ := h
  have nd := sc_changed_by.nd
  have hr1 : Room 1 _ := hr.mono (by decide)
  refine Kit.ok_body (σ := [some _, some _]) ((pss_cons (ps_if (pt_cmpR (Kit.kIn K) (pv 0) (pe_tup (pa_cons pe_str (pa_cons pe_str pa_nil))) (by rfl))
    (pss_one (ps_ret (pe_ix (Kit.ixT K) (pv 1) pe_int (fun _ _ => rfl))))
    pss_nil)
    (pss_cons (ps_if (pt_cmpR op_eq (pv 0) pe_str (nomark _))
    (pss_one (ps_ret (pe_call G_behind hr1 (by rfl) T.f_behind.g T.f_behind.F.kp T.f_behind.b .nil pass0 (pa_cons (pe_ix (Kit.ixT K) (pv 1) pe_int (fun _ _ => rfl)) pa_nil))))
    pss_nil)
    (pss_one (ps_ret pe_non))))) rfl ?_
  walk_at "wp"
  all_goals (refine ex_done q (by walk_at "ex2") ?_; unfold chM)
  · rw [if_pos (by assumption)]
  · rw [if_neg (by assumption), if_pos (by assumption)]
  · rw [if_neg (by assumption), if_neg (by assumption)]
def pcM (s : Str) (pc acc word d : Int) : Int :=
  if s = "jump" ∨ (s = "zero" ∧ acc = 0) ∨ (s = "some" ∧ ¬ acc = 0) then word % 256 else if s = "call" then (word % 256 + 1) % 256 else if s = "back" then d % 256 else (pc + 1) % 256
def sp_pc_by (K : PySem.W.Frag) : Sp := fun vs H Q _ => ∃ (s : Str) (r : Addr) (pc acc x mark out count word d : Int) (data : V), vs = [.str s, .ref r, .int word, data] ∧ SqT K H r [.int pc, .int acc, .int x, .int mark, .int out, .int count] ∧ (s = "back" → data = .int d) ∧ ∀ H', Evl.Ex H H' → Q (.int (pcM s pc acc word d)) H'
theorem ok_pc_by (T : Txt K mg) : FnOk P w K mg base CX0 2 T.f_pc_by.f T.f_pc_by.fd ["name", "registers", "word", "data"] (sp_pc_by K) := by
  have G_behind := ok_behind (P := P) (w := w) (base := base) T
  refine T.f_pc_by.F.ok sc_pc_by (fun vs H Q E h => ?_) (fun cdv A outer s H vs Q E hr h => ?_)
  · obtain ⟨s, r, pc, acc, x, mark, out, count, word, d, data, rfl, hr6, hd, q⟩ := h
    rfl
  obtain ⟨s, r, pc, acc, x, mark, out, count, word, d, data, rfl, hr6, hd, q⟩ := h
  have nd := sc_pc_by.nd
  have hr1 : Room 1 _ := hr.mono (by decide)
  refine Kit.ok_body (σ := [some _, some _, some _, some _, none, none, none]) ((pss_cons (ps_par (i := 4) (j := 5) rfl nd rfl rfl (by decide) rfl rfl (pa_cons (pe_ix (Kit.ixT K) (pv 1) pe_int (fun _ _ => rfl)) (pa_cons (pe_ix (Kit.ixT K) (pv 1) pe_int (fun _ _ => rfl)) pa_nil)) rfl)
    (pss_cons (ps_set (i := 6) nd rfl (Or.inl rfl) (pe_op op_mod (pv 2) (pe_glob (v := .int 256) rfl T.g_PLACES ⟨_, rfl⟩)))
    (pss_cons (ps_if (PW.pt (pw_or (pt_cmpR op_eq (pv 0) pe_str (nomark _)) (pw_or (PW.pt (pw_and (pt_cmpR op_eq (pv 0) pe_str (nomark _)) (pw_and1 (pt_cmpR op_eq (pv 5) pe_int (nomark _))))) (pw_or1 (PW.pt (pw_and (pt_cmpR op_eq (pv 0) pe_str (nomark _)) (pw_and1 (pt_cmpR op_ne (pv 5) pe_int (nomark _)))))))))
    (pss_one (ps_ret (pv 6)))
    pss_nil)
    (pss_cons (ps_if (pt_cmpR op_eq (pv 0) pe_str (nomark _))
    (pss_one (ps_ret (pe_call G_behind hr1 (by rfl) T.f_behind.g T.f_behind.F.kp T.f_behind.b .nil pass0 (pa_cons (pv 6) pa_nil))))
    pss_nil)
    (pss_cons (ps_if (pt_cmpR op_eq (pv 0) pe_str (nomark _))
    (pss_one (ps_ret (pe_op op_mod (pv 3) (pe_glob (v := .int 256) rfl T.g_PLACES ⟨_, rfl⟩))))
    pss_nil)
    (pss_one (ps_ret (pe_call G_behind hr1 (by rfl) T.f_behind.g T.f_behind.F.kp T.f_behind.b .nil pass0 (pa_cons (pv 4) pa_nil)))))))))) rfl ?_
  walk_at "wp"
  all_goals (try contradiction)
  all_goals (try (rw [hd (by assumption)]; walk_at "wp"))
  all_goals (refine ex_done q (by walk_at "ex2") ?_; unfold pcM)
  all_goals first
    | rw [if_pos (by first | exact .inl (by assumption) | exact .inr (.inl ⟨by assumption, by assumption⟩) | exact .inr (.inr ⟨by assumption, by assumption⟩))]
    | (rw [if_neg (by intro z; rcases z with z | ⟨z, z'⟩ | ⟨z, z'⟩ <;> contradiction)]; first | rw [if_pos (by assumption)] | (rw [if_neg (by assumption)]; first | rw [if_pos (by assumption)] | rw [if_neg (by assumption)]))
theorem opV_cases (g : Sg) (a b : Int) : opV g a b = .non ∨ ∃ n, opV g a b = .int n := by
  by_cases hg : g.isCmp = true
  · rw [opV_cmp hg]
    by_cases h : cmpB g a b = true
    · rw [if_pos h]; exact .inr ⟨_, rfl⟩
    · rw [if_neg h]; exact .inr ⟨_, rfl⟩
  · cases g <;> first | exact .inr ⟨_, rfl⟩ | exact (hg rfl).elim | (by_cases h : b = 0 <;> first | exact .inl (if_pos h) | exact .inr ⟨_, if_neg h⟩)
def sgOf (s : Str) : Sg := if s = "+" then .add else if s = "-" then .sub else if s = "*" then .mul else if s = "/" then .div else if s = "mod" then .mod else if s = "==" then .eq else if s = "!=" then .ne else if s = "<" then .lt else if s = "<=" then .le else if s = ">" then .gt else .ge
theorem sgOf_str : ∀ g : Sg, sgOf g.str = g := by intro g; cases g <;> decide +kernel
theorem sg_of {s : Str} (h : s ∈ sgs) : ∃ g : Sg, s = g.str := by
  simp only [sgs, List.mem_cons, List.not_mem_nil, or_false] at h
  rcases h with rfl | rfl | rfl | rfl | rfl | rfl | rfl | rfl | rfl | rfl | rfl
  · exact ⟨.add, rfl⟩
  · exact ⟨.sub, rfl⟩
  · exact ⟨.mul, rfl⟩
  · exact ⟨.div, rfl⟩
  · exact ⟨.mod, rfl⟩
  · exact ⟨.eq, rfl⟩
  · exact ⟨.ne, rfl⟩
  · exact ⟨.lt, rfl⟩
  · exact ⟨.le, rfl⟩
  · exact ⟨.gt, rfl⟩
  · exact ⟨.ge, rfl⟩
theorem use_op {s : Str} {a b : Int} {H : Hp} {Q : VK} {E : XK} (hs : s ∈ sgs) (h1 : 0 ≤ a ∧ a < 65536) (h2 : 0 ≤ b ∧ b < 65536) (k : ∀ H', Evl.Ex H H' → Q (opV (sgOf s) a b) H') : sp_op [.str s, .int a, .int b] H Q E := by
  obtain ⟨g, rfl⟩ := sg_of hs
  rw [sgOf_str] at k
  exact ⟨g, a, b, rfl, h1.1, h1.2, h2.1, h2.2, k⟩
def accM (s : Str) (acc word d : Int) (data : V) : V :=
  if s = "lit" then .int (word % 1024) else if s ∈ (["load", "loadx"] : List Str) then data else if s = "not" then (if acc = 0 then .int 1 else .int 0) else if s ∈ sgs then opV (sgOf s) acc d else .int acc
def sp_acc_by (K : PySem.W.Frag) : Sp := fun vs H Q _ => ∃ (s : Str) (r : Addr) (pc acc x mark out count word d : Int) (data : V), vs = [.str s, .ref r, .int word, data] ∧ SqT K H r [.int pc, .int acc, .int x, .int mark, .int out, .int count] ∧ 0 ≤ acc ∧ acc < 65536 ∧ (s ∈ sgs → data = .int d ∧ 0 ≤ d ∧ d < 65536) ∧ ∀ H', Evl.Ex H H' → Q (accM s acc word d data) H'
theorem ok_acc_by (T : Txt K mg) : FnOk P w K mg base CX0 3 T.f_acc_by.f T.f_acc_by.fd ["name", "registers", "word", "data"] (sp_acc_by K) := by
  have G_op := ok_op (P := P) (w := w) (base := base) T
  refine T.f_acc_by.F.ok sc_acc_by (fun vs H Q E h => ?_) (fun cdv A outer s H vs Q E hr h => ?_)
  · obtain ⟨s, r, pc, acc, x, mark, out, count, word, d, data, rfl, hr6, a0, a1, hd, q⟩ := h
    rfl
  obtain ⟨s, r, pc, acc, x, mark, out, count, word, d, data, rfl, hr6, a0, a1, hd, q⟩ := h
  have nd := sc_acc_by.nd
  have hr2 : Room 2 _ := hr.mono (by decide)
  refine Kit.ok_body (σ := [some _, some _, some _, some _, none]) ((pss_cons (ps_set (i := 4) nd rfl (Or.inl rfl) (pe_ix (Kit.ixT K) (pv 1) pe_int (fun _ _ => rfl)))
    (pss_cons (ps_if (pt_cmpR op_eq (pv 0) pe_str (nomark _))
    (pss_one (ps_ret (pe_op op_mod (pv 2) pe_int)))
    pss_nil)
    (pss_cons (ps_if (pt_cmpR (Kit.kIn K) (pv 0) (pe_tup (pa_cons pe_str (pa_cons pe_str pa_nil))) (by rfl))
    (pss_one (ps_ret (pv 3)))
    pss_nil)
    (pss_cons (ps_if (pt_cmpR op_eq (pv 0) pe_str (nomark _))
    (pss_one (ps_ret (pe_ifExp (pt_cmpR op_eq (pv 4) pe_int (nomark _)) pe_int pe_int)))
    pss_nil)
    (pss_cons (ps_if (pt_cmpR (Kit.kIn K) (pv 0) (pe_glob (v := .ref T.a_SIGNS) rfl T.g_SIGNS rfl) (by rfl))
    (pss_one (ps_ret (pe_call G_op hr2 (by rfl) T.f_op.g T.f_op.F.kp T.f_op.b .nil pass0 (pa_cons (pv 0) (pa_cons (pv 4) (pa_cons (pv 3) pa_nil))))))
    pss_nil)
    (pss_one (ps_ret (pv 4))))))))) rfl ?_
  walk_at "wp"
  · refine ex_done q (by walk_at "ex2") ?_
    unfold accM
    rw [if_pos (by assumption)]
  · refine ex_done q (by walk_at "ex2") ?_
    unfold accM
    rw [if_neg (by assumption), if_pos (by assumption)]
  · refine ex_done q (by walk_at "ex2") ?_
    unfold accM
    rw [if_neg (by assumption), if_neg (by assumption), if_pos (by assumption), if_pos (by assumption)]
  · refine ex_done q (by walk_at "ex2") ?_
    unfold accM
    rw [if_neg (by assumption), if_neg (by assumption), if_pos (by assumption), if_neg (by assumption)]
  · refine w_inS (.inr (T.w_SIGNS.sq _)) (by rfl) ?_
    walk_at "wp"
    · rename_i hs
      obtain ⟨rfl, d0, d1⟩ := hd hs
      refine use_op hs ⟨a0, a1⟩ ⟨d0, d1⟩ fun H2 e2 => ex_done q (by walk_at "ex2") ?_
      unfold accM
      rw [if_neg (by assumption), if_neg (by assumption), if_neg (by assumption), if_pos (by assumption)]
    · refine ex_done q (by walk_at "ex2") ?_
      unfold accM
      rw [if_neg (by assumption), if_neg (by assumption), if_neg (by assumption), if_neg (by assumption)]
def haltM (s : Str) (word acc x count d : Int) : V :=
  if s = "bad" then .str "bad" else if s = "halt" then .str "done" else if s = "bound" ∧ word % 1024 ≤ x then .str "place" else if s = "within" ∧ d ≤ x then .str "input"
  else if s ∈ sgs ∧ opV (sgOf s) acc d = .non then .str "divided" else if s = "tell" ∧ count = 16 then .str "full" else .non
def sp_halt_by (K : PySem.W.Frag) : Sp := fun vs H Q _ => ∃ (s : Str) (r : Addr) (pc acc x mark out count word d : Int) (data : V), vs = [.str s, .ref r, .int word, data] ∧ SqT K H r [.int pc, .int acc, .int x, .int mark, .int out, .int count] ∧ 0 ≤ acc ∧ acc < 65536 ∧ (s = "within" ∨ s ∈ sgs → data = .int d ∧ 0 ≤ d ∧ d < 65536) ∧ ∀ H', Evl.Ex H H' → Q (haltM s word acc x count d) H'
local macro_rules | `(tactic| walk_at "chain") => `(tactic| repeat (first
  | rw [if_pos (by first | assumption | exact ⟨by assumption, by assumption⟩)]
  | rw [if_neg (by first | assumption | (intro z; first | exact absurd z.1 (by assumption) | exact absurd z.2 (by assumption)))]))
theorem ok_halt_by (T : Txt K mg) : FnOk P w K mg base CX0 3 T.f_halt_by.f T.f_halt_by.fd ["name", "registers", "word", "data"] (sp_halt_by K) := by
  have G_op := ok_op (P := P) (w := w) (base := base) T
  refine T.f_halt_by.F.ok sc_halt_by (fun vs H Q E h => ?_) (fun cdv A outer s H vs Q E hr h => ?_)
  · obtain ⟨s, r, pc, acc, x, mark, out, count, word, d, data, rfl, hr6, a0, a1, hd, q⟩ := h
    rfl
  obtain ⟨s, r, pc, acc, x, mark, out, count, word, d, data, rfl, hr6, a0, a1, hd, q⟩ := h
  have nd := sc_halt_by.nd
  have hr2 : Room 2 _ := hr.mono (by decide)
  refine Kit.ok_body (σ := [some _, some _, some _, some _, none, none, none, none, none, none]) ((pss_cons (ps_asg (pv 1) (Kit.kgTup K rfl (pgs_cons (pg_name (i := 4) nd rfl (Or.inl rfl)) (pgs_cons (pg_name (i := 5) nd rfl (Or.inl rfl)) (pgs_cons (pg_name (i := 6) nd rfl (Or.inl rfl)) (pgs_cons (pg_name (i := 7) nd rfl (Or.inl rfl)) (pgs_cons (pg_name (i := 8) nd rfl (Or.inl rfl)) (pgs_cons (pg_name (i := 9) nd rfl (Or.inl rfl)) pgs_nil))))))))
    (pss_cons (ps_if (pt_cmpR op_eq (pv 0) pe_str (nomark _))
    (pss_one (ps_ret pe_str))
    pss_nil)
    (pss_cons (ps_if (pt_cmpR op_eq (pv 0) pe_str (nomark _))
    (pss_one (ps_ret pe_str))
    pss_nil)
    (pss_cons (ps_if (PW.pt (pw_and (pt_cmpR op_eq (pv 0) pe_str (nomark _)) (pw_and1 (pt_cmpR op_ge (pv 6) (pe_op op_mod (pv 2) pe_int) (nomark _)))))
    (pss_one (ps_ret pe_str))
    pss_nil)
    (pss_cons (ps_if (PW.pt (pw_and (pt_cmpR op_eq (pv 0) pe_str (nomark _)) (pw_and1 (pt_cmpR op_ge (pv 6) (pv 3) (nomark _)))))
    (pss_one (ps_ret pe_str))
    pss_nil)
    (pss_cons (ps_if (PW.pt (pw_and (pt_cmpR (Kit.kIn K) (pv 0) (pe_glob (v := .ref T.a_SIGNS) rfl T.g_SIGNS rfl) (by rfl)) (pw_and1 (pt_cmpR Kit.k_isN (pe_call G_op hr2 (by rfl) T.f_op.g T.f_op.F.kp T.f_op.b .nil pass0 (pa_cons (pv 0) (pa_cons (pv 5) (pa_cons (pv 3) pa_nil)))) pe_non (nomark _)))))
    (pss_one (ps_ret pe_str))
    pss_nil)
    (pss_cons (ps_if (PW.pt (pw_and (pt_cmpR op_eq (pv 0) pe_str (nomark _)) (pw_and1 (pt_cmpR op_eq (pv 9) (pe_glob (v := .int 16) rfl T.g_MOST_TOLD ⟨_, rfl⟩) (nomark _)))))
    (pss_one (ps_ret pe_str))
    pss_nil)
    (pss_one (ps_ret pe_non)))))))))) rfl ?_
  walk_at "wp"
  all_goals (try ((with_reducible show rI0 _ _ _ _ _); have hw : s = ("within" : Str) := (by assumption); have e := hd (.inl hw); obtain ⟨e, d0, d1⟩ := e; cases e; walk_at "wp"))
  all_goals (try (refine w_inS (.inr (T.w_SIGNS.sq _)) (by rfl) ?_; walk_at "wp"))
  all_goals (try ((with_reducible show sp_op _ _ _ _); rename_i hs; have e := hd (.inr hs); obtain ⟨e, d0, d1⟩ := e; cases e; refine use_op hs ⟨a0, a1⟩ ⟨d0, d1⟩ fun H2 e2 => ?_; rcases opV_cases (sgOf s) acc d with hN | ⟨nn, hM⟩))
  all_goals (try (rw [hN]; walk_at "wp"))
  all_goals (try (have hn : ¬ opV (sgOf s) acc d = .non := (by rw [hM]; exact fun z => nomatch z)); try (rw [hM]; walk_at "wp"))
  all_goals (refine ex_done q (by walk_at "ex2") ?_; unfold haltM; walk_at "chain")

/-! ### digests without a book -/
def leafI (m x : Int) : Int := (48271 * x + 11) % m
def foldI (m x y : Int) : Int := (y * y + 3 * x + 7 * y + 1 + (69621 * x + 16807 * y + 5) * (69621 * x + 16807 * y + 5)) % m
def stepI (m d n : Int) : Int := ((d + n) * (d + 48611) + 52774 * n + 19) % m
def stateI (m : Int) (ns : List Int) : Int := ns.foldl (stepI m) 3
def Dg (m x : Int) : Prop := 0 ≤ x ∧ x < m
inductive IsBits : Int → Prop where
  | b7 : IsBits 7 | b13 : IsBits 13 | b31 : IsBits 31 | b61 : IsBits 61
theorem IsBits.or {b : Int} (h : IsBits b) : b = 7 ∨ b = 13 ∨ b = 31 ∨ b = 61 := by cases h <;> simp
theorem IsBits.m {b : Int} (h : IsBits b) : 0 < 2 ^ b.toNat - (1 : Int) ∧ 2 ^ b.toNat - (1 : Int) < 2 ^ 62 := by cases h <;> decide
structure DigN (C : Addr) (H : Hp) (d : Addr) (m : Int) : Prop where
  at_ : ∃ dx b, H d = some (.ins C dx (fl_Digests b .non (.int m)))
  pos : 0 < m
  lt : m < 2 ^ 62
theorem DigN.ex {C d : Addr} {H H' : Hp} {m : Int} (e : Evl.Ex H H') (h : DigN C H d m) : DigN C H' d m := let ⟨⟨dx, b, h⟩, p, l⟩ := h; ⟨⟨dx, b, e _ _ h⟩, p, l⟩
theorem DigN.but {C d p : Addr} {H H' : Hp} {m : Int} (e : Kit.ExBut p H H') (n : d ≠ p) (h : DigN C H d m) : DigN C H' d m := let ⟨⟨dx, b, h⟩, p, l⟩ := h; ⟨⟨dx, b, e _ _ n h⟩, p, l⟩
local macro_rules | `(tactic| walk_at "dig") => `(tactic| first | with_reducible assumption | exact DigN.ex (by with_reducible assumption) (by walk_at "dig") | fail)
theorem DigN.ins {C d : Addr} {H : Hp} {m : Int} {x : Str} {R : Prop} (h : DigN C H d m) (l : ∀ b, (fl_Digests b .non (.int m)).lookup x = none) (r : R) : Kit.InsOf C x (.ref d) H R := let ⟨⟨_, b, h⟩, _, _⟩ := h; Kit.w_ins h (l b) r
local macro_rules | `(tactic| walk_at "wp1") => `(tactic| ((with_reducible show Kit.InsOf _ _ _ _ _); refine DigN.ins (by walk_at "dig") (fun _ => rfl) ?_))
theorem fold_dg {m x y : Int} (h : 0 < m) : Dg m (foldI m x y) := ⟨Int.emod_nonneg _ (by omega), Int.emod_lt_of_pos _ h⟩
theorem leaf_dg {m x : Int} (h : 0 < m) : Dg m (leafI m x) := ⟨Int.emod_nonneg _ (by omega), Int.emod_lt_of_pos _ h⟩
def sp_Digests_init (C : Addr) : Sp := fun vs H Q _ => ∃ (p dx : Addr) (b : Int) (bk : V), vs = [.ref p, .int b, bk] ∧ H p = some (.ins C dx []) ∧ 0 ≤ b ∧ b ≤ 61 ∧ ∀ H', Kit.ExBut p H H' → H' p = some (.ins C dx (fl_Digests (.int b) bk (.int (2 ^ b.toNat - 1)))) → Q .non H'
theorem ok_Digests___init (T : Txt K mg) : FnOk P w K mg base CX0 1 T.f_Digests___init.f T.f_Digests___init.fd ["self", "bits", "book"] (sp_Digests_init T.c_Digests.C) := by
  refine T.f_Digests___init.F.ok sc_Digests___init (fun vs H Q E h => ?_) (fun cdv A outer s H vs Q E hr h => ?_)
  · obtain ⟨p, dx, b, bk, rfl, hp, b0, b1, q⟩ := h
    rfl
  obtain ⟨p, dx, b, bk, rfl, hp, b0, b1, q⟩ := h
  have nd := sc_Digests___init.nd
  refine Kit.ok_body (σ := [some _, some _, some _]) ((pss_cons (Kit.kSet K (pv 0) (pv 1) rfl)
    (pss_cons (Kit.kSet K (pv 0) (pv 2) rfl)
    (pss_one (Kit.kSet K (pv 0) (pe_op op_sub (pe_op op_shl pe_int (pv 1)) pe_int) rfl))))) rfl ?_
  walk_at "wp"
  refine Kit.w_I (show CPow 1 b from ⟨b0, by omega, by decide⟩) ?_
  walk_at "wp"
  rename_i f
  refine q _ (by walk_at "but") ?_
  rw [Int.one_mul] at f
  exact f
theorem use_Digests {C : Addr} {b : Int} {H : Hp} {Q : VK} {E : XK} (hb : IsBits b) (k : ∀ p H', H p = none → Evl.Ex H H' → DigN C H' p (2 ^ b.toNat - 1) → Q (.ref p) H') : Kit.MakeOf C (sp_Digests_init C) E [.int b, .non] H Q := by
  have b0 := hb.or
  refine Kit.w_made fun x dx H2 hx e h => ?_
  refine ⟨x, dx, b, .non, rfl, h, by omega, by omega, fun H3 m h3 => ⟨rfl, k x H3 hx (Kit.ex_but m hx e) ⟨⟨dx, _, h3⟩, ?_, ?_⟩⟩⟩
  all_goals rcases b0 with rfl | rfl | rfl | rfl <;> decide
local macro_rules | `(tactic| walk_at "wp1") => `(tactic| ((with_reducible show Kit.MakeOf _ (sp_Digests_init _) _ [_, V.non] _ _); refine use_Digests (by assumption) ?_; intro _ _ _ _ _))
def sp_noted (C : Addr) : Sp := fun vs H Q _ => ∃ (p dx : Addr) (b m k t d : V), vs = [.ref p, k, t, d] ∧ H p = some (.ins C dx (fl_Digests b .non m)) ∧ ∀ H', Evl.Ex H H' → Q d H'
theorem ok_Digests__noted (T : Txt K mg) : FnOk P w K mg base CX0 1 T.f_Digests__noted.f T.f_Digests__noted.fd ["self", "kind", "text", "digest"] (sp_noted T.c_Digests.C) := by
  refine T.f_Digests__noted.F.ok sc_Digests__noted (fun vs H Q E h => ?_) (fun cdv A outer s H vs Q E hr h => ?_)
  · obtain ⟨p, dx, b, m, k, t, d, rfl, hp, q⟩ := h
    rfl
  obtain ⟨p, dx, b, m, k, t, d, rfl, hp, q⟩ := h
  have nd := sc_Digests__noted.nd
  refine Kit.ok_body (σ := [some _, some _, some _, some _]) ((pss_cons (ps_if (pt_cmpR Kit.k_notN (Kit.kFld K (pv 0) rfl) pe_non (nomark _))
    (pss_one ps_never)
    pss_nil)
    (pss_one (ps_ret (pv 3))))) rfl ?_
  walk_at "wp"
  exact q _ (by walk_at "ex")
theorem use_noted {C p dx : Addr} {b m k t d : V} {H : Hp} {Q : VK} {E : XK} (hp : H p = some (.ins C dx (fl_Digests b .non m))) (q : ∀ H', Evl.Ex H H' → Q d H') : sp_noted C [.ref p, k, t, d] H Q E := ⟨p, dx, b, m, k, t, d, rfl, hp, q⟩
local macro_rules | `(tactic| walk_at "wp1") => `(tactic| ((with_reducible show sp_noted _ _ _ _ _); refine use_noted (by walk_at "hp") ?_; intro _ _))
theorem mulW {i j : Int} (ha : i.natAbs < 2 ^ 100) (hb : j.natAbs < 2 ^ 100) : CMulW i j := wide_mul (a := 100) (b := 100) ha hb (by decide) (by decide) (by decide)

def sp_fold (C : Addr) : Sp := fun vs H Q _ => ∃ (p : Addr) (m x y : Int), vs = [.ref p, .int x, .int y] ∧ DigN C H p m ∧ Dg m x ∧ Dg m y ∧ ∀ H', Evl.Ex H H' → Q (.int (foldI m x y)) H'
theorem ok_Digests_fold (T : Txt K mg) : FnOk P w K mg base CX0 2 T.f_Digests_fold.f T.f_Digests_fold.fd ["self", "left", "right"] (sp_fold T.c_Digests.C) := by
  have G_Digests__noted := ok_Digests__noted (P := P) (w := w) (base := base) T
  refine T.f_Digests_fold.F.ok sc_Digests_fold (fun vs H Q E h => ?_) (fun cdv A outer s H vs Q E hr h => ?_)
  · obtain ⟨p, m, x, y, rfl, ⟨⟨dx, b, hp⟩, m0, m1⟩, ⟨x0, x1⟩, ⟨y0, y1⟩, q⟩ := h
    rfl
  obtain ⟨p, m, x, y, rfl, ⟨⟨dx, b, hp⟩, m0, m1⟩, ⟨x0, x1⟩, ⟨y0, y1⟩, q⟩ := h
  have nd := sc_Digests_fold.nd
  have hr1 : Room 1 _ := hr.mono (by decide)
  refine Kit.ok_body (σ := [some _, some _, some _, none, none]) ((pss_cons (ps_set (i := 3) nd rfl (Or.inl rfl) (pe_op op_add (pe_op op_add (pe_op op_mul pe_int (pv 1)) (pe_op op_mul pe_int (pv 2))) pe_int))
    (pss_cons (ps_set (i := 4) nd rfl (Or.inl rfl) (pe_op op_add (pe_op op_add (pe_op op_add (pe_op op_add (pe_op op_mul (pv 2) (pv 2)) (pe_op op_mul pe_int (pv 1))) (pe_op op_mul pe_int (pv 2))) pe_int) (pe_op op_mulW (pv 3) (pv 3))))
    (pss_one (ps_ret (pe_meth (pv 0) T.c_Digests.cl T.m_Digests__noted G_Digests__noted hr1 T.f_Digests__noted.b .nil pass0 (pa_cons pe_str (pa_cons (pe_tup (pa_cons (pv 1) (pa_cons (pv 2) pa_nil))) (pa_cons (pe_op op_mod (pv 4) (Kit.kFld K (pv 0) rfl)) pa_nil))))))))) rfl ?_
  try dsimp only [L2.cxOf, L2.Cx.nox]
  walk_at "wp"
  refine Kit.w_I (mulW (by omega) (by omega)) ?_
  walk_at "wp"
  exact ex_done q (by walk_at "ex") rfl
theorem use_fold {C p : Addr} {m x y : Int} {H : Hp} {Q : VK} {E : XK} (h : DigN C H p m) (hx : Dg m x) (hy : Dg m y) (q : ∀ H', Evl.Ex H H' → Q (.int (foldI m x y)) H') : sp_fold C [.ref p, .int x, .int y] H Q E := ⟨p, m, x, y, rfl, h, hx, hy, q⟩

def IsWord (v : Int) : Prop := 0 ≤ v ∧ v < 65536
def sp_leaf (C : Addr) : Sp := fun vs H Q _ => ∃ (p : Addr) (m x : Int), vs = [.ref p, .int x] ∧ DigN C H p m ∧ ∀ H', Evl.Ex H H' → Q (.int (leafI m x)) H'
theorem ok_Digests_leaf (T : Txt K mg) : FnOk P w K mg base CX0 2 T.f_Digests_leaf.f T.f_Digests_leaf.fd ["self", "word"] (sp_leaf T.c_Digests.C) := by
  have G_Digests__noted := ok_Digests__noted (P := P) (w := w) (base := base) T
  refine T.f_Digests_leaf.F.ok sc_Digests_leaf (fun vs H Q E h => ?_) (fun cdv A outer s H vs Q E hr h => ?_)
  · obtain ⟨p, m, x, rfl, ⟨⟨dx, b, hp⟩, m0, m1⟩, q⟩ := h
    rfl
  obtain ⟨p, m, x, rfl, ⟨⟨dx, b, hp⟩, m0, m1⟩, q⟩ := h
  have nd := sc_Digests_leaf.nd
  have hr1 : Room 1 _ := hr.mono (by decide)
  refine Kit.ok_body (σ := [some _, some _]) ((pss_one (ps_ret (pe_meth (pv 0) T.c_Digests.cl T.m_Digests__noted G_Digests__noted hr1 T.f_Digests__noted.b .nil pass0 (pa_cons pe_str (pa_cons (pv 1) (pa_cons (pe_op op_mod (pe_op op_add (pe_op op_mul pe_int (pv 1)) pe_int) (Kit.kFld K (pv 0) rfl)) pa_nil))))))) rfl ?_
  try dsimp only [L2.cxOf, L2.Cx.nox]
  walk_at "wp"
  exact ex_done q (by walk_at "ex") rfl
theorem use_leaf {C p : Addr} {m x : Int} {H : Hp} {Q : VK} {E : XK} (h : DigN C H p m) (q : ∀ H', Evl.Ex H H' → Q (.int (leafI m x)) H') : sp_leaf C [.ref p, .int x] H Q E := ⟨p, m, x, rfl, h, q⟩

def sp_out_behind (C : Addr) : Sp := fun vs H Q _ => ∃ (p : Addr) (m o x : Int), vs = [.ref p, .int o, .int x] ∧ DigN C H p m ∧ Dg m o ∧ ∀ H', Evl.Ex H H' → Q (.int (foldI m o (leafI m x))) H'
theorem ok_out_behind (T : Txt K mg) : FnOk P w K mg base CX0 3 T.f_out_behind.f T.f_out_behind.fd ["digests", "out", "word"] (sp_out_behind T.c_Digests.C) := by
  have G_Digests_fold := ok_Digests_fold (P := P) (w := w) (base := base) T
  have G_Digests_leaf := ok_Digests_leaf (P := P) (w := w) (base := base) T
  refine T.f_out_behind.F.ok sc_out_behind (fun vs H Q E h => ?_) (fun cdv A outer s H vs Q E hr h => ?_)
  · obtain ⟨p, m, o, x, rfl, hd, ho, q⟩ := h
    rfl
  obtain ⟨p, m, o, x, rfl, hd, ho, q⟩ := h
  have nd := sc_out_behind.nd
  have hr2 : Room 2 _ := hr.mono (by decide)
  refine Kit.ok_body (σ := [some _, some _, some _]) ((pss_one (ps_ret (pe_meth (pv 0) T.c_Digests.cl T.m_Digests_fold G_Digests_fold hr2 T.f_Digests_fold.b .nil pass0 (pa_cons (pv 1) (pa_cons (pe_meth (pv 0) T.c_Digests.cl T.m_Digests_leaf G_Digests_leaf hr2 T.f_Digests_leaf.b .nil pass0 (pa_cons (pv 2) pa_nil)) pa_nil)))))) rfl ?_
  try dsimp only [L2.cxOf, L2.Cx.nox]
  walk_at "wp"
  refine use_leaf hd fun H1 e1 => ?_
  walk_at "wp"
  exact use_fold (hd.ex e1) ho (leaf_dg hd.pos) fun H2 e2 => q H2 (e1.trans e2)
def rTupI (K : PySem.W.Frag) : V → List V → Hp → VK → Prop := fun x xs H Q => ∃ p, ∃ ys : List Str, ∃ z j, x = .ref p ∧ xs = [.str z] ∧ SqT K H p (ys.map V.str) ∧ ys[j]? = some z ∧ (∀ m, m < j → ys[m]? ≠ some z) ∧ Q (.int (j : Nat)) H
theorem kTupIndex (K : PySem.W.Frag) {X : Cx} (h : X.K = K := by rfl) : MtR X "tuple.index" (rTupI K) := h ▸ mt_tup_index
def marks : List Str := ["long", "done", "divided", "place", "input", "full", "bad"]
theorem marks_first : ∀ j : Fin 7, ∀ m : Fin 7, m.1 < j.1 → marks[m.1]? ≠ marks[j.1]? := by decide +kernel
theorem w_tupI {K : PySem.W.Frag} {p : Addr} {H : Hp} {Q : VK} (j : Nat) (hj : j < 7) {z : Str} (hz : marks[j]? = some z) (h : SqT K H p (marks.map V.str)) (q : Q (.int (j : Int)) H) : rTupI K (.ref p) [.str z] H Q :=
  ⟨p, marks, z, j, rfl, rfl, h, hz, fun m hm => by rw [← hz]; exact marks_first ⟨j, hj⟩ ⟨m, by omega⟩ hm, q⟩
theorem w_notNS {s : Str} {H : Hp} {Q : VK} (q : Q (.bl true) H) : Kit.rNotNo (.str s) .non H Q := ⟨rfl, q⟩
theorem w_tyT {K : PySem.W.Frag} {p : Addr} {H : Hp} {W : Prop} (h : ∃ o, K.lookup p = some o ∧ o.cls = .type "tuple" ∧ o.dict = none) (r : W) : tyV K "tuple" (.ref p) H ∧ W := ⟨Or.inr (Or.inl ⟨rfl, h⟩), r⟩
/-- the mark of a halt, 0 for none -/
def haltN (s : Str) (word acc x count d : Int) : Nat :=
  if s = "bad" then 6 else if s = "halt" then 1 else if s = "bound" ∧ word % 1024 ≤ x then 3 else if s = "within" ∧ d ≤ x then 4
  else if s ∈ sgs ∧ opV (sgOf s) acc d = .non then 2 else if s = "tell" ∧ count = 16 then 5 else 0
theorem halt_two (s : Str) (word acc x count d : Int) : (haltN s word acc x count d = 0 ∧ haltM s word acc x count d = .non) ∨ ∃ z, haltN s word acc x count d < 7 ∧ haltN s word acc x count d ≠ 0 ∧ marks[haltN s word acc x count d]? = some z ∧ haltM s word acc x count d = .str z := by
  unfold haltN haltM
  split
  · exact .inr ⟨_, by decide, by decide, rfl, rfl⟩
  · split
    · exact .inr ⟨_, by decide, by decide, rfl, rfl⟩
    · split
      · exact .inr ⟨_, by decide, by decide, rfl, rfl⟩
      · split
        · exact .inr ⟨_, by decide, by decide, rfl, rfl⟩
        · split
          · exact .inr ⟨_, by decide, by decide, rfl, rfl⟩
          · split
            · exact .inr ⟨_, by decide, by decide, rfl, rfl⟩
            · exact .inl ⟨rfl, rfl⟩
def doneM (m : Int) (s : Str) (pc acc x mark out count word d : Int) (data : V) : List V × V :=
  if haltN s word acc x count d = 0 then
    ([.int (pcM s pc acc word d), accM s acc word d data, xM s acc x data, .int mark, .int (if s = "tell" then foldI m out (leafI m acc) else out), .int (if s = "tell" then count + 1 else count)], chM s pc acc)
  else ([.int pc, .int acc, .int x, .int (haltN s word acc x count d : Nat), .int out, .int count], .non)
def sp_done_by (K : PySem.W.Frag) (C : Addr) : Sp := fun vs H Q _ => ∃ (g r : Addr) (m pc acc x mark out count word d : Int) (data : V), vs = [.ref g, .ref r, .int word, data] ∧ DigN C H g m ∧ SqT K H r [.int pc, .int acc, .int x, .int mark, .int out, .int count] ∧ 0 ≤ word ∧ word < 65536 ∧ 0 ≤ acc ∧ acc < 65536 ∧ Dg m out ∧
  (nm (word / 1024) = "back" ∨ nm (word / 1024) = "within" ∨ nm (word / 1024) ∈ sgs → data = .int d ∧ 0 ≤ d ∧ d < 65536) ∧
  ∀ t1 t2 H', Evl.Ex H H' → H' t1 = some (.tup (doneM m (nm (word / 1024)) pc acc x mark out count word d data).1) → H' t2 = some (.tup [.ref t1, (doneM m (nm (word / 1024)) pc acc x mark out count word d data).2]) → Q (.ref t2) H'
theorem ok_done_by (T : Txt K mg) : FnOk P w K mg base CX0 4 T.f_done_by.f T.f_done_by.fd ["digests", "registers", "word", "data"] (sp_done_by K T.c_Digests.C) := by
  have G_acc_by := ok_acc_by (P := P) (w := w) (base := base) T
  have G_changed_by := ok_changed_by (P := P) (w := w) (base := base) T
  have G_halt_by := ok_halt_by (P := P) (w := w) (base := base) T
  have G_name_of := ok_name_of (P := P) (w := w) (base := base) T
  have G_out_behind := ok_out_behind (P := P) (w := w) (base := base) T
  have G_pc_by := ok_pc_by (P := P) (w := w) (base := base) T
  have G_x_by := ok_x_by (P := P) (w := w) (base := base) T
  refine T.f_done_by.F.ok sc_done_by (fun vs H Q E h => ?_) (fun cdv A outer s H vs Q E hr h => ?_)
  · obtain ⟨g, r, m, pc, acc, x, mark, out, count, word, d, data, rfl, hg, hr6, w0, w1, a0, a1, ho, hd, q⟩ := h
    rfl
  obtain ⟨g, r, m, pc, acc, x, mark, out, count, word, d, data, rfl, hg, hr6, w0, w1, a0, a1, ho, hd, q⟩ := h
  have nd := sc_done_by.nd
  have hr1 : Room 1 _ := hr.mono (by decide)
  have hr2 : Room 2 _ := hr.mono (by decide)
  have hr3 : Room 3 _ := hr.mono (by decide)
  refine Kit.ok_body (σ := [some _, some _, some _, some _, none, none, none, none, none, none, none, none, none, none, none]) ((pss_cons (ps_asg (pv 1) (Kit.kgTup K rfl (pgs_cons (pg_name (i := 4) nd rfl (Or.inl rfl)) (pgs_cons (pg_name (i := 5) nd rfl (Or.inl rfl)) (pgs_cons (pg_name (i := 6) nd rfl (Or.inl rfl)) (pgs_cons (pg_name (i := 7) nd rfl (Or.inl rfl)) (pgs_cons (pg_name (i := 8) nd rfl (Or.inl rfl)) (pgs_cons (pg_name (i := 9) nd rfl (Or.inl rfl)) pgs_nil))))))))
    (pss_cons (ps_set (i := 10) nd rfl (Or.inl rfl) (pe_call G_name_of hr1 (by rfl) T.f_name_of.g T.f_name_of.F.kp T.f_name_of.b .nil pass0 (pa_cons (pv 2) pa_nil)))
    (pss_cons (ps_set (i := 11) nd rfl (Or.inl rfl) (pe_call G_halt_by hr3 (by rfl) T.f_halt_by.g T.f_halt_by.F.kp T.f_halt_by.b .nil pass0 (pa_cons (pv 10) (pa_cons (pv 1) (pa_cons (pv 2) (pa_cons (pv 3) pa_nil))))))
    (pss_cons (ps_if (pt_cmpR Kit.k_notN (pv 11) pe_non (nomark _))
    (pss_one (ps_ret (pe_tup (pa_cons (pe_tup (pa_cons (pv 4) (pa_cons (pv 5) (pa_cons (pv 6) (pa_cons (pe_bm PySem.F.plainAttrs_tuple PySem.F.slot_tuple_index PySem.F.type_tuple_index (kTupIndex K) (pe_glob (v := .ref T.a_MARKS) rfl T.g_MARKS rfl) (pa_cons (pv 11) pa_nil)) (pa_cons (pv 8) (pa_cons (pv 9) pa_nil))))))) (pa_cons pe_non pa_nil)))))
    pss_nil)
    (pss_cons (ps_if (pt_cmpR op_eq (pv 10) pe_str (nomark _))
    (pss_cons (ps_set (i := 8) nd rfl (Or.inl rfl) (pe_call G_out_behind hr3 (by rfl) T.f_out_behind.g T.f_out_behind.F.kp T.f_out_behind.b .nil pass0 (pa_cons (pv 0) (pa_cons (pv 8) (pa_cons (pv 5) pa_nil)))))
    (pss_one (ps_set (i := 9) nd rfl (Or.inl rfl) (pe_op op_add (pv 9) pe_int))))
    pss_nil)
    (pss_cons (ps_set (i := 12) nd rfl (Or.inl rfl) (pe_call G_pc_by hr2 (by rfl) T.f_pc_by.g T.f_pc_by.F.kp T.f_pc_by.b .nil pass0 (pa_cons (pv 10) (pa_cons (pv 1) (pa_cons (pv 2) (pa_cons (pv 3) pa_nil))))))
    (pss_cons (ps_set (i := 13) nd rfl (Or.inl rfl) (pe_call G_acc_by hr3 (by rfl) T.f_acc_by.g T.f_acc_by.F.kp T.f_acc_by.b .nil pass0 (pa_cons (pv 10) (pa_cons (pv 1) (pa_cons (pv 2) (pa_cons (pv 3) pa_nil))))))
    (pss_cons (ps_set (i := 14) nd rfl (Or.inl rfl) (pe_call G_x_by hr1 (by rfl) T.f_x_by.g T.f_x_by.F.kp T.f_x_by.b .nil pass0 (pa_cons (pv 10) (pa_cons (pv 1) (pa_cons (pv 3) pa_nil)))))
    (pss_one (ps_ret (pe_tup (pa_cons (pe_tup (pa_cons (pv 12) (pa_cons (pv 13) (pa_cons (pv 14) (pa_cons (pv 7) (pa_cons (pv 8) (pa_cons (pv 9) pa_nil))))))) (pa_cons (pe_call G_changed_by hr2 (by rfl) T.f_changed_by.g T.f_changed_by.F.kp T.f_changed_by.b .nil pass0 (pa_cons (pv 10) (pa_cons (pv 1) pa_nil))) pa_nil)))))))))))))) rfl ?_
  try dsimp only [L2.cxOf, L2.Cx.nox]
  walk_at "wp"
  refine ⟨word, rfl, w0, w1, ?_⟩
  generalize nm (word / 1024) = s at *
  walk_at "wp"
  refine ⟨s, r, pc, acc, x, mark, out, count, word, d, data, rfl, hr6, a0, a1, fun h => hd (.inr h), fun H1 e1 => ?_⟩
  rcases halt_two s word acc x count d with ⟨hn, hm⟩ | ⟨z, h7, hn, hz, hm⟩
  · rw [hm]
    have eD : doneM m s pc acc x mark out count word d data = ([.int (pcM s pc acc word d), accM s acc word d data, xM s acc x data, .int mark, .int (if s = "tell" then foldI m out (leafI m acc) else out), .int (if s = "tell" then count + 1 else count)], chM s pc acc) := if_pos hn
    rw [eD] at q
    walk_at "wp"
    · rename_i ht
      refine ⟨g, m, out, acc, rfl, hg.ex e1, ho, fun H2 e2 => ?_⟩
      have E2 := e1.trans e2
      walk_at "wp"
      refine ⟨s, r, pc, acc, x, mark, out, count, word, d, data, rfl, Evl.ex_t E2 hr6, fun h => (hd (.inl h)).1, fun H3 e3 => ?_⟩
      have E3 := E2.trans e3
      walk_at "wp"
      refine ⟨s, r, pc, acc, x, mark, out, count, word, d, data, rfl, Evl.ex_t E3 hr6, a0, a1, fun h => hd (.inr (.inr h)), fun H4 e4 => ?_⟩
      have E4 := E3.trans e4
      walk_at "wp"
      refine ⟨s, r, pc, acc, x, mark, out, count, data, rfl, Evl.ex_t E4 hr6, fun H5 e5 => ?_⟩
      have E5 := E4.trans e5
      walk_at "wp"
      rename_i t1 H6 n6 e6 f6
      have E6 := E5.trans e6
      refine ⟨s, r, pc, acc, x, mark, out, count, rfl, Evl.ex_t E6 hr6, fun H7 e7 => ?_⟩
      have E7 := E6.trans e7
      walk_at "wp"
      rename_i t2 H8 n8 e8 f8
      refine q t1 t2 H8 (E7.trans e8) ?_ f8
      rw [if_pos ht, if_pos ht]
      exact e8 _ _ (e7 _ _ f6)
    · rename_i ht
      refine ⟨s, r, pc, acc, x, mark, out, count, word, d, data, rfl, Evl.ex_t e1 hr6, fun h => (hd (.inl h)).1, fun H3 e3 => ?_⟩
      have E3 := e1.trans e3
      walk_at "wp"
      refine ⟨s, r, pc, acc, x, mark, out, count, word, d, data, rfl, Evl.ex_t E3 hr6, a0, a1, fun h => hd (.inr (.inr h)), fun H4 e4 => ?_⟩
      have E4 := E3.trans e4
      walk_at "wp"
      refine ⟨s, r, pc, acc, x, mark, out, count, data, rfl, Evl.ex_t E4 hr6, fun H5 e5 => ?_⟩
      have E5 := E4.trans e5
      walk_at "wp"
      rename_i t1 H6 n6 e6 f6
      have E6 := E5.trans e6
      refine ⟨s, r, pc, acc, x, mark, out, count, rfl, Evl.ex_t E6 hr6, fun H7 e7 => ?_⟩
      have E7 := E6.trans e7
      walk_at "wp"
      rename_i t2 H8 n8 e8 f8
      refine q t1 t2 H8 (E7.trans e8) ?_ f8
      rw [if_neg ht, if_neg ht]
      exact e8 _ _ (e7 _ _ f6)
  · rw [hm]
    have eD : doneM m s pc acc x mark out count word d data = ([.int pc, .int acc, .int x, .int (haltN s word acc x count d : Nat), .int out, .int count], .non) := if_neg hn
    rw [eD] at q
    walk_at "wp"
    refine w_notNS ?_
    walk_at "wp"
    refine w_tyT T.y_MARKS ?_
    walk_at "wp"
    refine w_tupI _ h7 hz (T.w_MARKS.sq _) ?_
    walk_at "wp"
    rename_i t1 H2 n2 e2 f2 t2 H3 n3 e3 f3
    exact q t1 t2 H3 ((e1.trans e2).trans e3) (e3 _ _ f2) f3

/-! ### draws out of a bag of five: any value in its bounds -/
def Bag5 (H : Hp) (p : Addr) : Prop := ∃ (rest seed place : Int) (c : Addr) (cells : List Int), H p = some (.lst [.int rest, .int seed, .int place, .int 0, .ref c]) ∧ H c = some (.lst (cells.map V.int)) ∧ 0 ≤ place ∧ c ≠ p
theorem Bag5.ex {p : Addr} {H H' : Hp} (e : Evl.Ex H H') (b : Bag5 H p) : Bag5 H' p := let ⟨r, s, k, c, cs, h1, h2, h3, h4⟩ := b; ⟨r, s, k, c, cs, e _ _ h1, e _ _ h2, h3, h4⟩
theorem Bag5.is {p : Addr} {H : Hp} (b : Bag5 H p) : ∃ o, H p = some o := let ⟨_, _, _, _, _, h, _⟩ := b; ⟨_, h⟩
def sp_law_bag (K : PySem.W.Frag) : Sp := fun vs H Q _ => ∃ (a : Addr) (ns : List Int), vs = [.ref a] ∧ SqL K H a (ns.map V.int) ∧ ∀ p H', H p = none → Evl.Ex H H' → Bag5 H' p → Q (.ref p) H'
theorem ok_law_bag (T : Txt K mg) : FnOk P w K mg base CX0 1 T.f_law_bag.f T.f_law_bag.fd ["script"] (sp_law_bag K) := by
  refine T.f_law_bag.F.ok sc_law_bag (fun vs H Q E h => ?_) (fun cdv A outer s H vs Q E hr h => ?_)
  · obtain ⟨a, ns, rfl, hS, q⟩ := h
    rfl
  obtain ⟨a, ns, rfl, hS, q⟩ := h
  have nd := sc_law_bag.nd
  refine Kit.ok_body (σ := [some _]) ((pss_one (ps_ret (pe_lst (pa_cons pe_int (pa_cons pe_int (pa_cons pe_int (pa_cons pe_int (pa_cons (pe_callTy (Kit.kList K) (by rfl) T.z_list (by decide +kernel) (pa_cons (pv 0) pa_nil)) pa_nil))))))))) rfl ?_
  walk_at "wp"
  rename_i c H1 n1 e1 f1 p H2 n2 e2 f2
  exact q p H2 (Evl.fresh_back e1 n2) (e1.trans e2) ⟨0, 7, 0, c, ns, f2, e2 _ _ f1, Int.le_refl 0, ne_of_none f1 n2⟩
def sp_law_draw : Sp := fun vs H Q _ => ∃ (p : Addr) (m : Int), vs = [.ref p, .int m] ∧ Bag5 H p ∧ 0 < m ∧ m < 2 ^ 250 ∧ ∀ v H', 0 ≤ v → v < m → Kit.ExBut p H H' → Bag5 H' p → Q (.int v) H'
theorem use_draw {p : Addr} {m : Int} {H : Hp} {Q : VK} {E : XK} (b : Bag5 H p) (h0 : 0 < m) (h1 : m < 2 ^ 250) (k : ∀ v H', 0 ≤ v → v < m → Kit.ExBut p H H' → Bag5 H' p → Q (.int v) H') : sp_law_draw [.ref p, .int m] H Q E := ⟨p, m, rfl, b, h0, h1, k⟩
theorem big_nat : (0 : Int) ≤ 10 ^ (18 : Int).toNat := by decide
theorem ok_law_draw (T : Txt K mg) : FnOk P w K mg base CX0 1 T.f_law_draw.f T.f_law_draw.fd ["bag", "many"] (sp_law_draw) := by
  refine T.f_law_draw.F.ok sc_law_draw (fun vs H Q E h => ?_) (fun cdv A outer s H vs Q E hr h => ?_)
  · obtain ⟨p, m, rfl, ⟨r, s, k, c, cs, hp, hc, hk, hcp⟩, hm0, hm1, q⟩ := h
    rfl
  obtain ⟨p, m, rfl, ⟨r, s, k, c, cs, hp, hc, hk, hcp⟩, hm0, hm1, q⟩ := h
  have nd := sc_law_draw.nd
  refine Kit.ok_body (σ := [some _, some _, none, none, none, none]) ((pss_cons (ps_if (pt_cmpR op_eq (pe_ix (Kit.ixL K) (pv 0) pe_int (fun _ _ => rfl)) pe_int (nomark _))
    (pss_cons (ps_set (i := 2) nd rfl (Or.inl rfl) (pe_callTy Kit.k_int (by rfl) T.z_int (by decide +kernel) (pa_cons (pe_ix (Kit.ixL K) (pv 0) pe_int (fun _ _ => rfl)) pa_nil)))
    (pss_cons (ps_set (i := 3) nd rfl (Or.inl rfl) (pe_ix (Kit.ixL K) (pv 0) pe_int (fun _ _ => rfl)))
    (pss_cons (ps_if (pt_cmpR op_lt (pe_ix (Kit.ixL K) (pv 0) pe_int (fun _ _ => rfl)) (pe_callB (Kit.kLen K) (by rfl) T.z_len (by decide +kernel) (pa_cons (pv 3) pa_nil)) (nomark _))
    (pss_one (ps_set (i := 2) nd rfl (Or.inl rfl) (pe_callTy Kit.k_int (by rfl) T.z_int (by decide +kernel) (pa_cons (pe_ix (Kit.ixL K) (pv 3) (pe_ix (Kit.ixL K) (pv 0) pe_int (fun _ _ => rfl)) (fun _ _ => rfl)) pa_nil))))
    pss_nil)
    (pss_cons (ps_asg (pe_op op_add (pe_ix (Kit.ixL K) (pv 0) pe_int (fun _ _ => rfl)) pe_int) (pg_sub (pv 0) pe_int set_list))
    (pss_cons (ps_set (i := 4) nd rfl (Or.inl rfl) (pe_op op_mod (pe_callTy Kit.k_int (by rfl) T.z_int (by decide +kernel) (pa_cons (pe_op op_add (pe_op op_add (pe_op op_add (pe_op op_mul (pe_ix (Kit.ixL K) (pv 0) pe_int (fun _ _ => rfl)) pe_int) (pe_op op_mul (pv 2) pe_int)) (pe_op op_mul (pe_ix (Kit.ixL K) (pv 0) pe_int (fun _ _ => rfl)) pe_int)) pe_int) pa_nil)) pe_int))
    (pss_cons (ps_asg (pe_op op_add (pe_op op_mul (pv 4) pe_int) (pe_op op_mod (pe_callTy Kit.k_int (by rfl) T.z_int (by decide +kernel) (pa_cons (pe_op op_add (pe_op op_mul (pv 4) (pv 4)) (pv 2)) pa_nil)) pe_int)) (pg_sub (pv 0) pe_int set_list))
    (pss_cons (ps_if (pt_cmpR op_ge (pv 2) (pe_op op_pow pe_int pe_int) (nomark _))
    (pss_one (ps_asg (pv 2) (pg_sub (pv 0) pe_int set_list)))
    pss_nil)
    (pss_one (ps_asg (pv 4) (pg_sub (pv 0) pe_int set_list))))))))))
    pss_nil)
    (pss_cons (ps_set (i := 5) nd rfl (Or.inl rfl) (pe_ix (Kit.ixL K) (pv 0) pe_int (fun _ _ => rfl)))
    (pss_cons (ps_asg (pe_op op_fdivW (pv 5) (pv 1)) (pg_sub (pv 0) pe_int set_list))
    (pss_one (ps_ret (pe_op op_mod (pe_callTy Kit.k_int (by rfl) T.z_int (by decide +kernel) (pa_cons (pv 5) pa_nil)) (pv 1)))))))) rfl ?_
  walk_at "wp"
  · rename_i hlt
    obtain ⟨c0, hc0⟩ := Kit.int_at hk hlt
    refine Kit.w_ixL (Evl.sq_of hc) hc0 ?_
    walk_at "wp"
    all_goals exact q _ _ (Int.emod_nonneg _ (by omega)) (Int.emod_lt_of_pos _ hm0) (by walk_at "but") ⟨_, _, _, c, cs, (by assumption), Kit.but_get (by walk_at "but") hcp hc, (by omega), hcp⟩
  all_goals exact q _ _ (Int.emod_nonneg _ (by omega)) (Int.emod_lt_of_pos _ hm0) (by walk_at "but") ⟨_, _, _, c, cs, (by assumption), Kit.but_get (by walk_at "but") hcp hc, (by omega), hcp⟩
local macro_rules | `(tactic| walk_at "bag") => `(tactic| first | with_reducible assumption | exact Bag5.ex (by with_reducible assumption) (by walk_at "bag") | fail)
local macro_rules | `(tactic| walk_at "wp1") => `(tactic| ((with_reducible show sp_law_draw _ _ _ _); refine use_draw (by walk_at "bag") (by first | decide | omega) (by first | decide | omega) ?_; intro _ _ _ _ _ _))
def IsW (v : Int) : Prop := 0 ≤ v ∧ v < 65536
theorem Bag5.ne {p a : Addr} {H : Hp} (b : Bag5 H p) (h : H a = none) : a ≠ p := by
  obtain ⟨o, ho⟩ := b.is
  exact (ne_of_none ho h).symm
theorem pick_of {P : Int → Prop} {xs : List Int} (h : ∀ x ∈ xs, P x) {i : Int} (h0 : 0 ≤ i) (h1 : i < (xs.length : Int)) : ∃ x, atI (xs.map V.int) i = some (.int x) ∧ P x := by
  obtain ⟨j, rfl⟩ := Int.eq_ofNat_of_zero_le h0
  have hj : j < xs.length := by omega
  refine ⟨xs[j], L2.atI_nat (j := j) ?_, h _ (List.getElem_mem hj)⟩
  rw [List.getElem?_map, List.getElem?_eq_getElem hj]
  rfl
def sp_law_word : Sp := fun vs H Q _ => ∃ (p : Addr), vs = [.ref p] ∧ Bag5 H p ∧ ∀ v H', IsW v → Kit.ExBut p H H' → Bag5 H' p → Q (.int v) H'
theorem use_word {p : Addr} {H : Hp} {Q : VK} {E : XK} (b : Bag5 H p) (k : ∀ v H', IsW v → Kit.ExBut p H H' → Bag5 H' p → Q (.int v) H') : sp_law_word [.ref p] H Q E := ⟨p, rfl, b, k⟩
theorem ok_law_word (T : Txt K mg) : FnOk P w K mg base CX0 2 T.f_law_word.f T.f_law_word.fd ["bag"] (sp_law_word) := by
  have G_law_draw := ok_law_draw (P := P) (w := w) (base := base) T
  refine T.f_law_word.F.ok sc_law_word (fun vs H Q E h => ?_) (fun cdv A outer s H vs Q E hr h => ?_)
  · obtain ⟨p, rfl, hb, q⟩ := h
    rfl
  obtain ⟨p, rfl, hb, q⟩ := h
  have nd := sc_law_word.nd
  have hr1 : Room 1 _ := hr.mono (by decide)
  refine Kit.ok_body (σ := [some _, none]) ((pss_cons (ps_set (i := 1) nd rfl (Or.inl rfl) (pe_call G_law_draw hr1 (by rfl) T.f_law_draw.g T.f_law_draw.F.kp T.f_law_draw.b .nil pass0 (pa_cons (pv 0) (pa_cons pe_int pa_nil))))
    (pss_cons (ps_if (pt_cmpR op_lt (pv 1) pe_int (nomark _))
    (pss_one (ps_ret (pe_op op_add (pe_op op_mul pe_int (pe_call G_law_draw hr1 (by rfl) T.f_law_draw.g T.f_law_draw.F.kp T.f_law_draw.b .nil pass0 (pa_cons (pv 0) (pa_cons pe_int pa_nil)))) (pe_ix (Kit.ixL K) (pe_lst (pa_cons (pe_call G_law_draw hr1 (by rfl) T.f_law_draw.g T.f_law_draw.F.kp T.f_law_draw.b .nil pass0 (pa_cons (pv 0) (pa_cons pe_int pa_nil))) (pa_cons (pe_call G_law_draw hr1 (by rfl) T.f_law_draw.g T.f_law_draw.F.kp T.f_law_draw.b .nil pass0 (pa_cons (pv 0) (pa_cons pe_int pa_nil))) (pa_cons (pe_call G_law_draw hr1 (by rfl) T.f_law_draw.g T.f_law_draw.F.kp T.f_law_draw.b .nil pass0 (pa_cons (pv 0) (pa_cons pe_int pa_nil))) pa_nil)))) (pe_call G_law_draw hr1 (by rfl) T.f_law_draw.g T.f_law_draw.F.kp T.f_law_draw.b .nil pass0 (pa_cons (pv 0) (pa_cons pe_int pa_nil))) (fun _ _ => rfl)))))
    pss_nil)
    (pss_one (ps_ret (pe_ix (Kit.ixL K) (pe_lst (pa_cons pe_int (pa_cons pe_int (pa_cons pe_int (pa_cons pe_int (pa_cons (pe_call G_law_draw hr1 (by rfl) T.f_law_draw.g T.f_law_draw.F.kp T.f_law_draw.b .nil pass0 (pa_cons (pv 0) (pa_cons pe_int pa_nil))) pa_nil)))))) (pe_call G_law_draw hr1 (by rfl) T.f_law_draw.g T.f_law_draw.F.kp T.f_law_draw.b .nil pass0 (pa_cons (pv 0) (pa_cons pe_int pa_nil))) (fun _ _ => rfl))))))) rfl ?_
  walk_at "wp"
  · rename_i _ _ _ _ _ _ _ w1 _ wa wb _ _ x3 _ xa xb _ _ x2 _ ya yb _ _ x1 _ za zb _ bb pl Hl nl el fl i _ i0 i1 mi bi
    obtain ⟨z, hz, z0, z1⟩ := pick_of (P := fun x => 0 ≤ x ∧ x < 1024) (xs := [x3, x2, x1]) (by intro x hx; simp only [List.mem_cons, List.not_mem_nil, or_false] at hx; rcases hx with rfl | rfl | rfl <;> omega) i0 i1
    refine Kit.w_ixL (xs := [x3, x2, x1].map V.int) (Evl.sq_of (mi _ _ (bb.ne nl) fl)) hz ?_
    walk_at "wp"
    exact q _ _ ⟨by omega, by omega⟩ (by walk_at "but") bi
  · rename_i _ _ _ _ _ _ _ w1 _ wa wb _ bb pl Hl nl el fl i _ i0 i1 mi bi
    obtain ⟨z, hz, z0, z1⟩ := pick_of (P := fun x => 0 ≤ x ∧ x < 65536) (xs := [0, 1, 15, 65535, w1]) (by intro x hx; simp only [List.mem_cons, List.not_mem_nil, or_false] at hx; rcases hx with rfl | rfl | rfl | rfl | rfl <;> omega) i0 i1
    refine Kit.w_ixL (xs := [0, 1, 15, 65535, w1].map V.int) (Evl.sq_of (mi _ _ (bb.ne nl) fl)) hz ?_
    exact q _ _ ⟨z0, z1⟩ (by walk_at "but") bi
local macro_rules | `(tactic| walk_at "wp1") => `(tactic| ((with_reducible show sp_law_word _ _ _ _); refine use_word (by walk_at "bag") ?_; intro _ _ _ _ _))

theorem w_pick {K : PySem.W.Frag} {a : Addr} (xs : List Int) {ys : List V} {i : Int} {H : Hp} {Q : VK} (h : H a = some (.lst ys)) (e : ys = xs.map V.int) (h0 : 0 ≤ i) (h1 : i < (xs.length : Int)) (q : ∀ x, x ∈ xs → Q (.int x) H) : rIxL K (.ref a) (.int i) H Q := by
  subst e
  obtain ⟨x, hx, hm⟩ := pick_of (P := fun x => x ∈ xs) (fun x h => h) h0 h1
  exact Kit.w_ixL (Evl.sq_of h) hx (q x hm)
theorem bag_ne2 {p a : Addr} {H : Hp} (h : H a = none) (b : Bag5 H p) : a ≠ p := b.ne h
local macro_rules | `(tactic| walk_at "hpB") => `(tactic| first | assumption | exact Kit.ex_get (by with_reducible assumption) (by walk_at "hpB") | exact Kit.but_get (by with_reducible assumption) (bag_ne2 (by with_reducible assumption) (by walk_at "bag")) (by walk_at "hpB") | fail)
structure StartOk (m pc acc x mark out count : Int) : Prop where
  pc : 0 ≤ pc ∧ pc < 256
  acc : IsW acc
  x : IsW x
  mark : 0 ≤ mark ∧ mark < 7
  out : Dg m out
  count : 0 ≤ count ∧ count ≤ 16
theorem start_pc {a b x : Int} (ha : 0 ≤ a ∧ a < 16) (hb : 0 ≤ b ∧ b < 256) (h : x ∈ [0, 255, a, b]) : 0 ≤ x ∧ x < 256 := by
  simp only [List.mem_cons, List.not_mem_nil, or_false] at h
  rcases h with rfl | rfl | rfl | rfl <;> omega
theorem start_w {a x : Int} (ha : 0 ≤ a ∧ a < 65536) (h : x ∈ [0, 1, 3, 255, 256, 65535, a]) : IsW x := by
  simp only [List.mem_cons, List.not_mem_nil, or_false] at h
  rcases h with rfl | rfl | rfl | rfl | rfl | rfl | rfl <;> exact ⟨by omega, by omega⟩
theorem start_mark {a x : Int} (ha : 0 ≤ a ∧ a < 7) (h : x ∈ [0, 0, 0, 0, 0, 0, 0, a]) : 0 ≤ x ∧ x < 7 := by
  simp only [List.mem_cons, List.not_mem_nil, or_false] at h
  rcases h with rfl | rfl | rfl | rfl | rfl | rfl | rfl | rfl <;> omega
theorem start_out {m a x : Int} (hm : 100 < m) (ha : 0 ≤ a ∧ a < m) (h : x ∈ [7, m - 1, a]) : Dg m x := by
  simp only [List.mem_cons, List.not_mem_nil, or_false] at h
  rcases h with rfl | rfl | rfl <;> exact ⟨by omega, by omega⟩
theorem start_count {a x : Int} (ha : 0 ≤ a ∧ a < 17) (h : x ∈ [0, 15, 16, a]) : 0 ≤ x ∧ x ≤ 16 := by
  simp only [List.mem_cons, List.not_mem_nil, or_false] at h
  rcases h with rfl | rfl | rfl | rfl <;> omega
def sp_law_start : Sp := fun vs H Q _ => ∃ (p : Addr) (m : Int), vs = [.ref p, .int m] ∧ Bag5 H p ∧ 100 < m ∧ m < 2 ^ 62 ∧ ∀ t pc acc x mark out count H', StartOk m pc acc x mark out count → H t = none → Kit.ExBut p H H' → Bag5 H' p → H' t = some (.tup [.int pc, .int acc, .int x, .int mark, .int out, .int count]) → Q (.ref t) H'
theorem ok_law_start (T : Txt K mg) : FnOk P w K mg base CX0 2 T.f_law_start.f T.f_law_start.fd ["bag", "m"] (sp_law_start) := by
  have G_law_draw := ok_law_draw (P := P) (w := w) (base := base) T
  refine T.f_law_start.F.ok sc_law_start (fun vs H Q E h => ?_) (fun cdv A outer s H vs Q E hr h => ?_)
  · obtain ⟨p, m, rfl, hb, m0, m1, q⟩ := h
    rfl
  obtain ⟨p, m, rfl, hb, m0, m1, q⟩ := h
  have nd := sc_law_start.nd
  have hr1 : Room 1 _ := hr.mono (by decide)
  refine Kit.ok_body (σ := [some _, some _, none, none, none, none, none]) ((pss_cons (ps_set (i := 2) nd rfl (Or.inl rfl) (pe_lst (pa_cons pe_int (pa_cons pe_int (pa_cons pe_int (pa_cons pe_int (pa_cons pe_int (pa_cons pe_int (pa_cons (pe_call G_law_draw hr1 (by rfl) T.f_law_draw.g T.f_law_draw.F.kp T.f_law_draw.b .nil pass0 (pa_cons (pv 0) (pa_cons pe_int pa_nil))) pa_nil)))))))))
    (pss_cons (ps_set (i := 3) nd rfl (Or.inl rfl) (pe_ix (Kit.ixL K) (pe_lst (pa_cons pe_int (pa_cons pe_int (pa_cons (pe_call G_law_draw hr1 (by rfl) T.f_law_draw.g T.f_law_draw.F.kp T.f_law_draw.b .nil pass0 (pa_cons (pv 0) (pa_cons pe_int pa_nil))) (pa_cons (pe_call G_law_draw hr1 (by rfl) T.f_law_draw.g T.f_law_draw.F.kp T.f_law_draw.b .nil pass0 (pa_cons (pv 0) (pa_cons pe_int pa_nil))) pa_nil))))) (pe_call G_law_draw hr1 (by rfl) T.f_law_draw.g T.f_law_draw.F.kp T.f_law_draw.b .nil pass0 (pa_cons (pv 0) (pa_cons pe_int pa_nil))) (fun _ _ => rfl)))
    (pss_cons (ps_set (i := 4) nd rfl (Or.inl rfl) (pe_ix (Kit.ixL K) (pe_lst (pa_cons pe_int (pa_cons pe_int (pa_cons pe_int (pa_cons (pe_call G_law_draw hr1 (by rfl) T.f_law_draw.g T.f_law_draw.F.kp T.f_law_draw.b .nil pass0 (pa_cons (pv 0) (pa_cons pe_int pa_nil))) pa_nil))))) (pe_call G_law_draw hr1 (by rfl) T.f_law_draw.g T.f_law_draw.F.kp T.f_law_draw.b .nil pass0 (pa_cons (pv 0) (pa_cons pe_int pa_nil))) (fun _ _ => rfl)))
    (pss_cons (ps_set (i := 5) nd rfl (Or.inl rfl) (pe_ix (Kit.ixL K) (pe_lst (pa_cons pe_int (pa_cons (pe_op op_sub (pv 1) pe_int) (pa_cons (pe_call G_law_draw hr1 (by rfl) T.f_law_draw.g T.f_law_draw.F.kp T.f_law_draw.b .nil pass0 (pa_cons (pv 0) (pa_cons (pv 1) pa_nil))) pa_nil)))) (pe_call G_law_draw hr1 (by rfl) T.f_law_draw.g T.f_law_draw.F.kp T.f_law_draw.b .nil pass0 (pa_cons (pv 0) (pa_cons pe_int pa_nil))) (fun _ _ => rfl)))
    (pss_cons (ps_set (i := 6) nd rfl (Or.inl rfl) (pe_ix (Kit.ixL K) (pe_lst (pa_cons pe_int (pa_cons pe_int (pa_cons pe_int (pa_cons pe_int (pa_cons pe_int (pa_cons pe_int (pa_cons pe_int (pa_cons (pe_call G_law_draw hr1 (by rfl) T.f_law_draw.g T.f_law_draw.F.kp T.f_law_draw.b .nil pass0 (pa_cons (pv 0) (pa_cons pe_int pa_nil))) pa_nil))))))))) (pe_call G_law_draw hr1 (by rfl) T.f_law_draw.g T.f_law_draw.F.kp T.f_law_draw.b .nil pass0 (pa_cons (pv 0) (pa_cons pe_int pa_nil))) (fun _ _ => rfl)))
    (pss_one (ps_ret (pe_tup (pa_cons (pv 3) (pa_cons (pe_ix (Kit.ixL K) (pv 2) (pe_call G_law_draw hr1 (by rfl) T.f_law_draw.g T.f_law_draw.F.kp T.f_law_draw.b .nil pass0 (pa_cons (pv 0) (pa_cons pe_int pa_nil))) (fun _ _ => rfl)) (pa_cons (pe_ix (Kit.ixL K) (pv 2) (pe_call G_law_draw hr1 (by rfl) T.f_law_draw.g T.f_law_draw.F.kp T.f_law_draw.b .nil pass0 (pa_cons (pv 0) (pa_cons pe_int pa_nil))) (fun _ _ => rfl)) (pa_cons (pv 6) (pa_cons (pv 5) (pa_cons (pv 4) pa_nil))))))))))))))) rfl ?_
  walk_at "wp"
  rename_i w1 Ha wa wb ba bb1 ps H1 n1 e1 f1 w2 _ _ _ _ bb2 w3 _ _ _ _ bb3 pp H2 n2 e2 f2 i1 H3 i0 i3 m3 b3
  refine w_pick [0, 255, w2, w3] (by walk_at "hpB") rfl i0 i3 fun pc hpc => ?_
  walk_at "wp"
  rename_i w4 _ _ _ _ bb4 pc2 H4 n4 e4 f4 i5 H5 i6 i7 m5 b5
  refine w_pick [0, 15, 16, w4] (by walk_at "hpB") rfl i6 i7 fun count hcount => ?_
  walk_at "wp"
  rename_i w5 _ _ _ _ bb5 po H6 n6 e6 f6 j1 H7 j2 j3 m7 b7
  refine w_pick [7, m - 1, w5] (by walk_at "hpB") rfl j2 j3 fun out hout => ?_
  walk_at "wp"
  rename_i w6 _ _ _ _ bb6 pm H8 n8 e8 f8 j4 H9 j5 j6 m9 b9
  refine w_pick [0, 0, 0, 0, 0, 0, 0, w6] (by walk_at "hpB") rfl j5 j6 fun mark hmark => ?_
  walk_at "wp"
  rename_i j7 H10 j8 j9 m10 b10
  refine w_pick [0, 1, 3, 255, 256, 65535, w1] (by walk_at "hpB") rfl j8 j9 fun acc hacc => ?_
  walk_at "wp"
  rename_i k7 H11 k8 k9 m11 b11
  refine w_pick [0, 1, 3, 255, 256, 65535, w1] (by walk_at "hpB") rfl k8 k9 fun x hx => ?_
  walk_at "wp"
  rename_i t H12 n12 e12 f12
  have w1ok : 0 ≤ w1 ∧ w1 < 65536 := ⟨by assumption, by assumption⟩
  have w5ok : 0 ≤ w5 ∧ w5 < m := ⟨by assumption, by assumption⟩
  have w2ok : 0 ≤ w2 ∧ w2 < 16 := ⟨by assumption, by assumption⟩
  have w3ok : 0 ≤ w3 ∧ w3 < 256 := ⟨by assumption, by assumption⟩
  have w4ok : 0 ≤ w4 ∧ w4 < 17 := ⟨by assumption, by assumption⟩
  have w6ok : 0 ≤ w6 ∧ w6 < 7 := ⟨by assumption, by assumption⟩
  exact q t pc acc x mark out count H12 ⟨start_pc w2ok w3ok hpc, start_w w1ok hacc, start_w w1ok hx, start_mark w6ok hmark, start_out m0 w5ok hout, start_count w4ok hcount⟩ (by
    cases hz : H t with
    | none => rfl
    | some o =>
      have hz2 := (show Kit.ExBut p H H11 from by walk_at "but") t o (by rintro rfl; obtain ⟨o2, ho2⟩ := b11.is; rw [n12] at ho2; cases ho2) hz
      rw [n12] at hz2
      cases hz2) (by walk_at "but") (by walk_at "bag") f12

theorem kIndexL (K : PySem.W.Frag) {X : Cx} (h : X.K = K := by rfl) : MtR X "list.index" (rIndex K) := h ▸ mt_index
theorem flat_strs : ∀ ss : List Str, (ss.map V.str).all flatV = true
  | [] => rfl
  | _ :: ss => by rw [List.map_cons, List.all_cons, flat_strs ss]; rfl
theorem w_indexS {K : PySem.W.Frag} {p : Addr} {H : Hp} {Q : VK} {ss : List Str} {j : Nat} {z : Str} (h : SqL K H p (ss.map V.str)) (hz : ss[j]? = some z) (hlt : ∀ m, m < j → ss[m]? ≠ some z) (q : Q (.int (j : Int)) H) : rIndex K (.ref p) [.str z] H Q := by
  refine ⟨p, ss.map V.str, .str z, j, .str z, rfl, rfl, h, rfl, flat_strs ss, by rw [List.getElem?_map, hz]; rfl, by show (z == z) = true; exact beq_self_eq_true z, fun m z' hm e => ?_, q⟩
  rw [List.getElem?_map] at e
  cases ht : ss[m]? with
  | none => rw [ht] at e; cases e
  | some t =>
    rw [ht] at e
    cases e
    show (t == z) = false
    exact beq_eq_false_iff_ne.mpr fun c => hlt m hm (by rw [ht, c])
def sgIx : Sg → Nat
  | .add => 0 | .sub => 1 | .mul => 2 | .div => 3 | .mod => 4 | .eq => 5 | .ne => 6 | .lt => 7 | .le => 8 | .gt => 9 | .ge => 10
theorem sgIx_at : ∀ g : Sg, sgs[sgIx g]? = some g.str := by intro g; cases g <;> rfl
theorem sgs_first : ∀ j : Fin 11, ∀ m : Fin 11, m.1 < j.1 → sgs[m.1]? ≠ sgs[j.1]? := by decide +kernel
theorem sgIx_lt (g : Sg) : sgIx g < 11 := by cases g <;> decide
theorem sgIx_first (g : Sg) : ∀ m, m < sgIx g → sgs[m]? ≠ some g.str := fun m hm => by
  rw [← sgIx_at g]
  exact sgs_first ⟨sgIx g, sgIx_lt g⟩ ⟨m, by have := sgIx_lt g; omega⟩ hm
def sp_law_leaf : Sp := fun vs H Q _ => ∃ m x : Int, vs = [.int m, .int x] ∧ 0 < m ∧ Q (.int (leafI m x)) H
theorem ok_law_leaf (T : Txt K mg) : FnOk P w K mg base CX0 1 T.f_law_leaf.f T.f_law_leaf.fd ["m", "word"] (sp_law_leaf) := by
  refine T.f_law_leaf.F.ok sc_law_leaf (fun vs H Q E h => ?_) (fun cdv A outer s H vs Q E hr h => ?_)
  · obtain ⟨m, x, rfl, hm, q⟩ := h
    rfl
  obtain ⟨m, x, rfl, hm, q⟩ := h
  have nd := sc_law_leaf.nd
  refine Kit.ok_body (σ := [some _, some _]) ((pss_one (ps_ret (pe_op op_mod (pe_callTy Kit.k_int (by rfl) T.z_int (by decide +kernel) (pa_cons (pe_op op_add (pe_op op_mul pe_int (pv 1)) pe_int) pa_nil)) (pv 0))))) rfl ?_
  walk_at "wp"
  exact q
def sp_law_fold : Sp := fun vs H Q _ => ∃ m x y : Int, vs = [.int m, .int x, .int y] ∧ Dg m x ∧ Dg m y ∧ m < 2 ^ 62 ∧ ∀ H', Evl.Ex H H' → Q (.int (foldI m x y)) H'
theorem ok_law_fold (T : Txt K mg) : FnOk P w K mg base CX0 1 T.f_law_fold.f T.f_law_fold.fd ["m", "x", "y"] (sp_law_fold) := by
  refine T.f_law_fold.F.ok sc_law_fold (fun vs H Q E h => ?_) (fun cdv A outer s H vs Q E hr h => ?_)
  · obtain ⟨m, x, y, rfl, ⟨x0, x1⟩, ⟨y0, y1⟩, hm, q⟩ := h
    rfl
  obtain ⟨m, x, y, rfl, ⟨x0, x1⟩, ⟨y0, y1⟩, hm, q⟩ := h
  have nd := sc_law_fold.nd
  refine Kit.ok_body (σ := [some _, some _, some _, none]) ((pss_cons (ps_set (i := 3) nd rfl (Or.inl rfl) (pe_op op_add (pe_op op_add (pe_op op_mul pe_int (pv 1)) (pe_op op_mul pe_int (pv 2))) pe_int))
    (pss_one (ps_ret (pe_op op_mod (pe_callTy Kit.k_int (by rfl) T.z_int (by decide +kernel) (pa_cons (pe_op op_add (pe_op op_add (pe_op op_add (pe_op op_add (pe_op op_mul (pv 2) (pv 2)) (pe_op op_mul pe_int (pv 1))) (pe_op op_mul pe_int (pv 2))) pe_int) (pe_op op_mulW (pv 3) (pv 3))) pa_nil)) (pv 0)))))) rfl ?_
  walk_at "wp"
  refine Kit.w_I (mulW (by omega) (by omega)) ?_
  walk_at "wp"
  exact ex_done q (Evl.Ex.refl _) rfl
theorem use_law_fold {m x y : Int} {H : Hp} {Q : VK} {E : XK} (hx : Dg m x) (hy : Dg m y) (hm : m < 2 ^ 62) (q : ∀ H', Evl.Ex H H' → Q (.int (foldI m x y)) H') : sp_law_fold [.int m, .int x, .int y] H Q E := ⟨m, x, y, rfl, hx, hy, hm, q⟩

def sp_law_signs : Sp := fun vs H Q _ => vs = [] ∧ ∀ p H', H p = none → Evl.Ex H H' → H' p = some (.lst (sgs.map V.str)) → Q (.ref p) H'
theorem ok_law_signs (T : Txt K mg) : FnOk P w K mg base CX0 1 T.f_law_signs.f T.f_law_signs.fd [] (sp_law_signs) := by
  refine T.f_law_signs.F.ok sc_law_signs (fun vs H Q E h => ?_) (fun cdv A outer s H vs Q E hr h => ?_)
  · obtain ⟨rfl, q⟩ := h
    rfl
  obtain ⟨rfl, q⟩ := h
  have nd := sc_law_signs.nd
  refine Kit.ok_body (σ := []) ((pss_one (ps_ret (pe_lst (pa_cons pe_str (pa_cons pe_str (pa_cons pe_str (pa_cons pe_str (pa_cons pe_str (pa_cons pe_str (pa_cons pe_str (pa_cons pe_str (pa_cons pe_str (pa_cons pe_str (pa_cons pe_str pa_nil))))))))))))))) rfl ?_
  walk_at "wp"
  exact q _ _ (by assumption) (by assumption) (by assumption)
local macro_rules | `(tactic| walk_at "wp1") => `(tactic| ((with_reducible show sp_law_signs _ _ _ _); refine ⟨rfl, ?_⟩; intro _ _ _ _ _))

/-! ### the law's own machine: a dict -/
structure MSt where
  (pc acc x mark out count : Int)
  mem : List Int
  told : List Int
def MSt.kvs (s : MSt) (wa ta : Addr) : List (Key × V) := [(.inr "pc", .int s.pc), (.inr "acc", .int s.acc), (.inr "x", .int s.x), (.inr "mark", .int s.mark), (.inr "out", .int s.out), (.inr "count", .int s.count), (.inr "words", .ref wa), (.inr "told", .ref ta)]
def MSt.at (s : MSt) (k : Int) : Int := (s.mem[k.toNat]?).getD 0
structure StAt (K : PySem.W.Frag) (H : Hp) (p wa ta : Addr) (s : MSt) : Prop where
  at_ : H p = some (.dK (s.kvs wa ta))
  mem : H wa = some (.lst (s.mem.map V.int))
  told : SqT K H ta (s.told.map V.int)
  len : s.mem.length = 256
/-- all but two objects as they were -/
def Ex2 (p q : Addr) (H H' : Hp) : Prop := ∀ b o, b ≠ p → b ≠ q → H b = some o → H' b = some o
theorem Ex2.refl (p q : Addr) (H : Hp) : Ex2 p q H H := fun _ _ _ _ h => h
theorem Ex2.of {p q : Addr} {H H' : Hp} (e : Evl.Ex H H') : Ex2 p q H H' := fun b o _ _ h => e b o h
theorem Ex2.trans {p q : Addr} {H H1 H2 : Hp} (a : Ex2 p q H H1) (b : Ex2 p q H1 H2) : Ex2 p q H H2 := fun c o n m h => b c o n m (a c o n m h)
theorem Ex2.snoc {p q : Addr} {H H1 H2 : Hp} (b : Ex2 p q H1 H2) (a : Ex2 p q H H1) : Ex2 p q H H2 := a.trans b
theorem Ex2.snocE {p q : Addr} {H H1 H2 : Hp} (b : Evl.Ex H1 H2) (a : Ex2 p q H H1) : Ex2 p q H H2 := a.trans (.of b)
theorem Ex2.snocP {p q : Addr} {H H1 H2 : Hp} (b : Kit.ExBut p H1 H2) (a : Ex2 p q H H1) : Ex2 p q H H2 := a.trans fun c o n _ h => b c o n h
theorem Ex2.snocQ {p q : Addr} {H H1 H2 : Hp} (b : Kit.ExBut q H1 H2) (a : Ex2 p q H H1) : Ex2 p q H H2 := a.trans fun c o _ m h => b c o m h
theorem Ex2.ex {p q : Addr} {H0 H H' : Hp} (m : Ex2 p q H H') (h1 : H0 p = none) (h2 : H0 q = none) (e : Evl.Ex H0 H) : Evl.Ex H0 H' := fun b o hb => m b o (ne_of_none hb h1) (ne_of_none hb h2) (e b o hb)
local macro_rules | `(tactic| walk_at "e2") => `(tactic| first | with_reducible assumption | with_reducible exact Ex2.refl _ _ _ | exact Ex2.snoc (by with_reducible assumption) (by walk_at "e2") | exact Ex2.snocE (by with_reducible assumption) (by walk_at "e2") | exact Ex2.snocP (by with_reducible assumption) (by walk_at "e2") | exact Ex2.snocQ (by with_reducible assumption) (by walk_at "e2") | fail)
theorem tup_stay {H H' : Hp} {q a : Addr} {xs : List V} {o : HO} (m : Kit.ExBut q H H') (hq : H q = some o) (h1 : ∀ ys, o ≠ .tup ys) (h2 : ∀ z u, o ≠ .frz z u) (h : SqT K H a xs) : SqT K H' a xs := by
  rcases h with (h | ⟨z, h⟩) | h
  · exact .inl (.inl (m _ _ (by rintro rfl; rw [hq] at h; exact h1 _ (Option.some.inj h)) h))
  · exact .inl (.inr ⟨z, m _ _ (by rintro rfl; rw [hq] at h; exact h2 _ _ (Option.some.inj h)) h⟩)
  · exact .inr h
section
variable {H H' : Hp} {p wa ta : Addr} {s : MSt} {Q : VK}
theorem StAt.ex (e : Evl.Ex H H') (h : StAt K H p wa ta s) : StAt K H' p wa ta s := ⟨e _ _ h.at_, e _ _ h.mem, Evl.ex_t e h.told, h.len⟩
theorem StAt.ne (h : StAt K H p wa ta s) : wa ≠ p := by
  rintro rfl
  have := h.at_.symm.trans h.mem
  cases this
theorem StAt.putP {s' : MSt} {ta' : Addr} (h : StAt K H p wa ta s) (m : Kit.ExBut p H H') (h' : H' p = some (.dK (s'.kvs wa ta'))) (e : s'.mem = s.mem) (t : SqT K H ta' (s'.told.map V.int)) : StAt K H' p wa ta' s' :=
  ⟨h', by rw [e]; exact m _ _ h.ne h.mem, tup_stay m h.at_ (fun _ z => nomatch z) (fun _ _ z => nomatch z) t, by rw [e]; exact h.len⟩
theorem StAt.putM {mem : List Int} (h : StAt K H p wa ta s) (m : Kit.ExBut wa H H') (h' : H' wa = some (.lst (mem.map V.int))) (hl : mem.length = 256) : StAt K H' p wa ta { s with mem := mem } :=
  ⟨m _ _ h.ne.symm h.at_, h', tup_stay m h.mem (fun _ z => nomatch z) (fun _ _ z => nomatch z) h.told, hl⟩
/-- an item of a dict; an item stored -/
def GetOf (x y : V) (H : Hp) (Q : VK) : Prop := ∃ a v, x = .ref a ∧ DGet H a y (some v) ∧ Q v H
theorem w_dgetG {td ty : TE} {σ : L2.St} (h : td σ H fun x H1 => ty σ H1 fun y H2 => GetOf x y H2 Q) : tDGet td ty σ H Q := h
theorem w_get {kvs : List (Key × V)} {f : Str} {v : V} (h : H p = some (.dK kvs)) (l : valV kvs (.inr f) = some v) (q : Q v H) : GetOf (.ref p) (.str f) H Q := ⟨p, v, rfl, l ▸ DGet.k (k := .inr f) h, q⟩
def PutD (x y v : V) (H : Hp) (R : Hp → Prop) : Prop := ∃ a H4, x = .ref a ∧ DPut H a y v H4 ∧ R H4
theorem m_dput {td ty tv : TE} {nx bk ct : L2.St → Hp → Prop} {rt : VK} {σ : L2.St} (h : tv σ H fun v H1 => td σ H1 fun x H2 => ty σ H2 fun y H3 => PutD x y v H3 (nx σ)) : Kit.Sm (sDPut td ty tv) nx rt bk ct σ H := h
theorem w_putD {kvs kvs' : List (Key × V)} {f : Str} {v : V} {R : Hp → Prop} (h : H p = some (.dK kvs)) (hl : kvs.length < 100) (e : putK kvs (.inr f) v = kvs') (q : ∀ H2, Kit.ExBut p H H2 → H2 p = some (.dK kvs') → R H2) : PutD (.ref p) (.str f) v H R :=
  ⟨p, _, rfl, DPut.k (k := .inr f) h (Evl.sz_lt (by omega)), q _ (Kit.ExBut.upd (Kit.ExBut.refl p H)) (by rw [e]; exact upd_same)⟩
variable {R : Hp → Prop} (h : StAt K H p wa ta s)
include h
theorem g_pc (q : Q (.int s.pc) H) : GetOf (.ref p) (.str "pc") H Q := w_get h.at_ rfl q
theorem g_acc (q : Q (.int s.acc) H) : GetOf (.ref p) (.str "acc") H Q := w_get h.at_ rfl q
theorem g_x (q : Q (.int s.x) H) : GetOf (.ref p) (.str "x") H Q := w_get h.at_ rfl q
theorem g_mark (q : Q (.int s.mark) H) : GetOf (.ref p) (.str "mark") H Q := w_get h.at_ rfl q
theorem g_out (q : Q (.int s.out) H) : GetOf (.ref p) (.str "out") H Q := w_get h.at_ rfl q
theorem g_count (q : Q (.int s.count) H) : GetOf (.ref p) (.str "count") H Q := w_get h.at_ rfl q
theorem g_words (q : Q (.ref wa) H) : GetOf (.ref p) (.str "words") H Q := w_get h.at_ rfl q
theorem g_told (q : Q (.ref ta) H) : GetOf (.ref p) (.str "told") H Q := w_get h.at_ rfl q
theorem p_pc {v : Int} (q : ∀ H2, Kit.ExBut p H H2 → StAt K H2 p wa ta { s with pc := v } → R H2) : PutD (.ref p) (.str "pc") (.int v) H R := w_putD h.at_ (show 8 < 100 by decide) rfl fun H2 m h2 => q H2 m (h.putP m h2 rfl h.told)
theorem p_acc {v : Int} (q : ∀ H2, Kit.ExBut p H H2 → StAt K H2 p wa ta { s with acc := v } → R H2) : PutD (.ref p) (.str "acc") (.int v) H R := w_putD h.at_ (show 8 < 100 by decide) rfl fun H2 m h2 => q H2 m (h.putP m h2 rfl h.told)
theorem p_x {v : Int} (q : ∀ H2, Kit.ExBut p H H2 → StAt K H2 p wa ta { s with x := v } → R H2) : PutD (.ref p) (.str "x") (.int v) H R := w_putD h.at_ (show 8 < 100 by decide) rfl fun H2 m h2 => q H2 m (h.putP m h2 rfl h.told)
theorem p_mark {v : Int} (q : ∀ H2, Kit.ExBut p H H2 → StAt K H2 p wa ta { s with mark := v } → R H2) : PutD (.ref p) (.str "mark") (.int v) H R := w_putD h.at_ (show 8 < 100 by decide) rfl fun H2 m h2 => q H2 m (h.putP m h2 rfl h.told)
theorem p_out {v : Int} (q : ∀ H2, Kit.ExBut p H H2 → StAt K H2 p wa ta { s with out := v } → R H2) : PutD (.ref p) (.str "out") (.int v) H R := w_putD h.at_ (show 8 < 100 by decide) rfl fun H2 m h2 => q H2 m (h.putP m h2 rfl h.told)
theorem p_count {v : Int} (q : ∀ H2, Kit.ExBut p H H2 → StAt K H2 p wa ta { s with count := v } → R H2) : PutD (.ref p) (.str "count") (.int v) H R := w_putD h.at_ (show 8 < 100 by decide) rfl fun H2 m h2 => q H2 m (h.putP m h2 rfl h.told)
theorem p_told {ta' : Addr} {ts : List Int} (t : SqT K H ta' (ts.map V.int)) (q : ∀ H2, Kit.ExBut p H H2 → StAt K H2 p wa ta' { s with told := ts } → R H2) : PutD (.ref p) (.str "told") (.ref ta') H R := w_putD h.at_ (show 8 < 100 by decide) rfl fun H2 m h2 => q H2 m (h.putP m h2 rfl t)
theorem at_mem {k : Int} (h0 : 0 ≤ k) (h1 : k < 256) : atI (s.mem.map V.int) k = some (.int (s.at k)) := by
  obtain ⟨j, rfl⟩ := Int.eq_ofNat_of_zero_le h0
  refine L2.atI_nat (j := j) ?_
  have hj : j < s.mem.length := by rw [h.len]; omega
  rw [List.getElem?_map]
  show _ = some (V.int ((s.mem[j]?).getD 0))
  rw [List.getElem?_eq_getElem hj]
  rfl
theorem i_mem {k : Int} (h0 : 0 ≤ k) (h1 : k < 256) (q : Q (.int (s.at k)) H) : rIxL K (.ref wa) (.int k) H Q := Kit.w_ixL (Evl.sq_of h.mem) (at_mem h h0 h1) q
theorem s_mem {k v : Int} (h0 : 0 ≤ k) (h1 : k < 256) (q : ∀ H2, Kit.ExBut wa H H2 → StAt K H2 p wa ta { s with mem := s.mem.set k.toNat v } → R H2) : rSetL (.ref wa) (.int k) (.int v) H R := by
  obtain ⟨j, rfl⟩ := Int.eq_ofNat_of_zero_le h0
  refine Kit.w_setL (j := j) h.mem (Evl.ixN_nat (by rw [List.length_map, h.len]; omega)) (ys := ((s.mem.set j v).map V.int)) (by rw [List.map_set]) fun H2 m h2 => q H2 m (h.putM m h2 (by rw [List.length_set]; exact h.len))
end
local macro_rules | `(tactic| walk_at "st") => `(tactic| first | with_reducible assumption | exact StAt.ex (by with_reducible assumption) (by walk_at "st") | fail)
theorem mod256 (k : Int) : 0 ≤ k % 256 ∧ k % 256 < 256 := ⟨Int.emod_nonneg _ (by decide), Int.emod_lt_of_pos _ (by decide)⟩
theorem w_in2 {a : Addr} {n i j : Int} {H : Hp} {Q : VK} (h : SqL K H a [.int i, .int j]) (q : Q (.bl (decide (n = i ∨ n = j))) H) : rIn K false (.int n) (.ref a) H Q := by
  refine ⟨a, _, rfl, .inl h, rfl, rfl, ?_⟩
  have e : inV (.int n) [.int i, .int j] = decide (n = i ∨ n = j) := by
    show (((i == n : Bool)) || ((j == n) || false)) = _
    rw [Bool.or_false, Bool.eq_iff_iff, Bool.or_eq_true, beq_iff_eq, beq_iff_eq, decide_eq_true_iff]
    exact ⟨fun h => h.imp Eq.symm Eq.symm, fun h => h.imp Eq.symm Eq.symm⟩
  rw [if_neg Bool.false_ne_true, e]
  exact q
local macro_rules | `(tactic| walk_at "wp1") => `(tactic| first
  | with_reducible refine w_dgetG ?_
  | with_reducible refine m_dput ?_
  | ((with_reducible show GetOf _ (V.str _) _ _); first
      | refine g_pc (by walk_at "st") ?_
      | refine g_acc (by walk_at "st") ?_
      | refine g_x (by walk_at "st") ?_
      | refine g_mark (by walk_at "st") ?_
      | refine g_out (by walk_at "st") ?_
      | refine g_count (by walk_at "st") ?_
      | refine g_words (by walk_at "st") ?_
      | refine g_told (by walk_at "st") ?_
      | fail)
  | ((with_reducible show PutD _ (V.str _) _ _ _); (first
      | refine p_pc (by walk_at "st") ?_
      | refine p_acc (by walk_at "st") ?_
      | refine p_x (by walk_at "st") ?_
      | refine p_mark (by walk_at "st") ?_
      | refine p_out (by walk_at "st") ?_
      | refine p_count (by walk_at "st") ?_
      | fail); intro _ _ _)
  | ((with_reducible show rIxL _ _ (V.int _) _ _); refine i_mem (by walk_at "st") (by first | assumption | exact (mod256 _).1 | fail) (by first | assumption | exact (mod256 _).2 | fail) ?_)
  | ((with_reducible show rSetL _ (V.int _) _ _ _); refine s_mem (by walk_at "st") (by first | assumption | exact (mod256 _).1 | fail) (by first | assumption | exact (mod256 _).2 | fail) ?_; intro _ _ _)
  | ((with_reducible show rIn _ false (V.int _) _ _ _); refine w_in2 (by walk_at "sqL") ?_)
  | with_reducible refine Kit.i_DF (by first | decide | omega | fail) ?_
  | with_reducible refine Kit.i_DT (by first | decide | omega | fail) ?_
  | fail)
def sp_law_halt (K : PySem.W.Frag) : Sp := fun vs H Q _ => ∃ (p wa ta : Addr) (s : MSt) (k : Int), vs = [.ref p, .int k] ∧ StAt K H p wa ta s ∧ ∀ H', Kit.ExBut p H H' → StAt K H' p wa ta { s with mark := k } → Q (.int s.pc) H'
theorem ok_law_halt (T : Txt K mg) : FnOk P w K mg base CX0 1 T.f_law_halt.f T.f_law_halt.fd ["state", "mark"] (sp_law_halt K) := by
  refine T.f_law_halt.F.ok sc_law_halt (fun vs H Q E h => ?_) (fun cdv A outer s H vs Q E hr h => ?_)
  · obtain ⟨p, wa, ta, s, k, rfl, hs, q⟩ := h
    rfl
  obtain ⟨p, wa, ta, s, k, rfl, hs, q⟩ := h
  have nd := sc_law_halt.nd
  have hu := hu_of hr
  refine Kit.ok_body (σ := [some _, some _]) ((pss_cons (ps_dput hu (pv 0) pe_str (pv 1) rfl)
    (pss_one (ps_ret (pe_dget hu (pv 0) pe_str (fun _ _ => rfl)))))) rfl ?_
  try dsimp only [L2.cxOf, L2.Cx.nox]
  walk_at "wp"
  exact q _ (by walk_at "but") (by walk_at "st")
theorem use_halt {p wa ta : Addr} {s : MSt} {k : Int} {H : Hp} {Q : VK} {E : XK} (h : StAt K H p wa ta s) (q : ∀ H', Kit.ExBut p H H' → StAt K H' p wa ta { s with mark := k } → Q (.int s.pc) H') : sp_law_halt K [.ref p, .int k] H Q E := ⟨p, wa, ta, s, k, rfl, h, q⟩
local macro_rules | `(tactic| walk_at "wp1") => `(tactic| ((with_reducible show sp_law_halt _ _ _ _ _); refine use_halt (by walk_at "st") ?_; intro _ _ _))
def otherM (n a x : Int) : Int := if n = 5 ∨ n = 6 then (a + x) % 256 else a % 256
theorem other_in (n a x : Int) : 0 ≤ otherM n a x ∧ otherM n a x < 256 := by unfold otherM; split <;> exact mod256 _
def sp_law_other (K : PySem.W.Frag) : Sp := fun vs H Q _ => ∃ (p wa ta : Addr) (s : MSt) (n a : Int), vs = [.ref p, .int n, .int a] ∧ StAt K H p wa ta s ∧ ∀ H', Evl.Ex H H' → Q (.int (otherM n a s.x)) H'
theorem ok_law_other (T : Txt K mg) : FnOk P w K mg base CX0 1 T.f_law_other.f T.f_law_other.fd ["state", "n", "a"] (sp_law_other K) := by
  refine T.f_law_other.F.ok sc_law_other (fun vs H Q E h => ?_) (fun cdv A outer s H vs Q E hr h => ?_)
  · obtain ⟨p, wa, ta, s, n, a, rfl, hs, q⟩ := h
    rfl
  obtain ⟨p, wa, ta, s, n, a, rfl, hs, q⟩ := h
  have nd := sc_law_other.nd
  have hu := hu_of hr
  refine Kit.ok_body (σ := [some _, some _, some _]) ((pss_cons (ps_if (pt_cmpR (Kit.kIn K) (pv 1) (pe_lst (pa_cons pe_int (pa_cons pe_int pa_nil))) (by rfl))
    (pss_one (ps_ret (pe_op op_mod (pe_callTy Kit.k_int (by rfl) T.z_int (by decide +kernel) (pa_cons (pe_op op_add (pv 2) (pe_dget hu (pv 0) pe_str (fun _ _ => rfl))) pa_nil)) pe_int)))
    pss_nil)
    (pss_one (ps_ret (pe_op op_mod (pe_callTy Kit.k_int (by rfl) T.z_int (by decide +kernel) (pa_cons (pv 2) pa_nil)) pe_int))))) rfl ?_
  try dsimp only [L2.cxOf, L2.Cx.nox]
  walk_at "wp"
  · rename_i h
    exact ex_done q (by walk_at "ex") (by unfold otherM; rw [if_pos h])
  · rename_i h
    exact ex_done q (by walk_at "ex") (by unfold otherM; rw [if_neg h])
theorem use_other {p wa ta : Addr} {s : MSt} {n a : Int} {H : Hp} {Q : VK} {E : XK} (h : StAt K H p wa ta s) (q : ∀ H', Evl.Ex H H' → Q (.int (otherM n a s.x)) H') : sp_law_other K [.ref p, .int n, .int a] H Q E := ⟨p, wa, ta, s, n, a, rfl, h, q⟩
local macro_rules | `(tactic| walk_at "wp1") => `(tactic| ((with_reducible show sp_law_other _ _ _ _ _); refine use_other (by walk_at "st") ?_; intro _ _))
local macro_rules | `(tactic| walk_at "wp1") => `(tactic| first
  | ((with_reducible show rIxL _ _ (V.int (otherM _ _ _)) _ _); refine i_mem (by walk_at "st") (other_in _ _ _).1 (other_in _ _ _).2 ?_)
  | ((with_reducible show rSetL _ (V.int (otherM _ _ _)) _ _ _); refine s_mem (by walk_at "st") (other_in _ _ _).1 (other_in _ _ _).2 ?_; intro _ _ _)
  | fail)
def sp_law_registers (K : PySem.W.Frag) : Sp := fun vs H Q _ => ∃ (p wa ta : Addr) (s : MSt), vs = [.ref p] ∧ StAt K H p wa ta s ∧ ∀ t H', H t = none → Evl.Ex H H' → H' t = some (.tup (regsV s.pc s.acc s.x s.mark s.out s.count)) → Q (.ref t) H'
theorem ok_law_registers (T : Txt K mg) : FnOk P w K mg base CX0 1 T.f_law_registers.f T.f_law_registers.fd ["state"] (sp_law_registers K) := by
  refine T.f_law_registers.F.ok sc_law_registers (fun vs H Q E h => ?_) (fun cdv A outer s H vs Q E hr h => ?_)
  · obtain ⟨p, wa, ta, s, rfl, hs, q⟩ := h
    rfl
  obtain ⟨p, wa, ta, s, rfl, hs, q⟩ := h
  have nd := sc_law_registers.nd
  have hu := hu_of hr
  refine Kit.ok_body (σ := [some _]) ((pss_one (ps_ret (pe_tup (pa_cons (pe_dget hu (pv 0) pe_str (fun _ _ => rfl)) (pa_cons (pe_dget hu (pv 0) pe_str (fun _ _ => rfl)) (pa_cons (pe_dget hu (pv 0) pe_str (fun _ _ => rfl)) (pa_cons (pe_dget hu (pv 0) pe_str (fun _ _ => rfl)) (pa_cons (pe_dget hu (pv 0) pe_str (fun _ _ => rfl)) (pa_cons (pe_dget hu (pv 0) pe_str (fun _ _ => rfl)) pa_nil)))))))))) rfl ?_
  try dsimp only [L2.cxOf, L2.Cx.nox]
  walk_at "wp"
  exact q _ _ (by assumption) (by walk_at "ex") (by assumption)

theorem in3 {n i j k : Int} : inV (.int n) [.int i, .int j, .int k] = decide (n = i ∨ n = j ∨ n = k) := by
  show (((i == n : Bool)) || ((j == n) || ((k == n) || false))) = _
  rw [Bool.or_false, Bool.eq_iff_iff, Bool.or_eq_true, Bool.or_eq_true, beq_iff_eq, beq_iff_eq, beq_iff_eq, decide_eq_true_iff]
  exact ⟨fun h => h.imp Eq.symm (Or.imp Eq.symm Eq.symm), fun h => h.imp Eq.symm (Or.imp Eq.symm Eq.symm)⟩
theorem in5 {n i j k l o : Int} : inV (.int n) [.int i, .int j, .int k, .int l, .int o] = decide (n = i ∨ n = j ∨ n = k ∨ n = l ∨ n = o) := by
  show (((i == n : Bool)) || ((j == n) || ((k == n) || ((l == n) || ((o == n) || false))))) = _
  rw [Bool.or_false, Bool.eq_iff_iff, Bool.or_eq_true, Bool.or_eq_true, Bool.or_eq_true, Bool.or_eq_true, beq_iff_eq, beq_iff_eq, beq_iff_eq, beq_iff_eq, beq_iff_eq, decide_eq_true_iff]
  exact ⟨fun h => h.imp Eq.symm (Or.imp Eq.symm (Or.imp Eq.symm (Or.imp Eq.symm Eq.symm))), fun h => h.imp Eq.symm (Or.imp Eq.symm (Or.imp Eq.symm (Or.imp Eq.symm Eq.symm)))⟩
theorem w_in3 {K : PySem.W.Frag} {a : Addr} {n i j k : Int} {H : Hp} {Q : VK} (h : SqL K H a [.int i, .int j, .int k]) (q : Q (.bl (decide (n = i ∨ n = j ∨ n = k))) H) : rIn K false (.int n) (.ref a) H Q :=
  ⟨a, _, rfl, .inl h, rfl, rfl, by rw [if_neg Bool.false_ne_true, in3]; exact q⟩
theorem w_in5 {K : PySem.W.Frag} {a : Addr} {n i j k l o : Int} {H : Hp} {Q : VK} (h : SqL K H a [.int i, .int j, .int k, .int l, .int o]) (q : Q (.bl (decide (n = i ∨ n = j ∨ n = k ∨ n = l ∨ n = o))) H) : rIn K false (.int n) (.ref a) H Q :=
  ⟨a, _, rfl, .inl h, rfl, rfl, by rw [if_neg Bool.false_ne_true, in5]; exact q⟩
theorem w_intD {c : Prop} [Decidable c] {H : Hp} {Q : VK} (q : Q (.int (if c then 1 else 0)) H) : Kit.rInt [.bl (decide c)] H Q := .inr ⟨decide c, rfl, by
  by_cases h : c
  · rw [if_pos h] at q; rw [decide_eq_true h]; exact q
  · rw [if_neg h] at q; rw [decide_eq_false h]; exact q⟩
local macro_rules | `(tactic| walk_at "wp1") => `(tactic| first
  | ((with_reducible show rIn _ false (V.int _) _ _ _); first | refine w_in3 (by walk_at "sqL") ?_ | refine w_in5 (by walk_at "sqL") ?_ | fail)
  | ((with_reducible show Kit.rInt [V.bl (decide _)] _ _); refine w_intD ?_)
  | fail)
def sp_law_model (K : PySem.W.Frag) : Sp := fun vs H Q _ => ∃ (r wl : Addr) (pc acc x mark out count : Int) (ds : List Int), vs = [.ref r, .ref wl] ∧ SqT K H r [.int pc, .int acc, .int x, .int mark, .int out, .int count] ∧ (SqL K H wl (ds.map V.int) ∨ SqT K H wl (ds.map V.int)) ∧ ds.length = 256 ∧
  ∀ p wa ta H', H p = none → H wa = none → Evl.Ex H H' → StAt K H' p wa ta ⟨pc, acc, x, mark, out, count, ds, []⟩ → Q (.ref p) H'
theorem sq2_ex {K : PySem.W.Frag} {H H' : Hp} {a : Addr} {xs : List V} (e : Evl.Ex H H') (h : SqL K H a xs ∨ SqT K H a xs) : SqL K H' a xs ∨ SqT K H' a xs := h.imp (Evl.ex_l e) (Evl.ex_t e)
local macro_rules | `(tactic| walk_at "sq2") => `(tactic| first | with_reducible assumption | exact sq2_ex (by with_reducible assumption) (by walk_at "sq2") | fail)
theorem ok_law_model (T : Txt K mg) : FnOk P w K mg base CX0 1 T.f_law_model.f T.f_law_model.fd ["registers", "words"] (sp_law_model K) := by
  refine T.f_law_model.F.ok sc_law_model (fun vs H Q E h => ?_) (fun cdv A outer s H vs Q E hr h => ?_)
  · obtain ⟨r, wl, pc, acc, x, mark, out, count, ds, rfl, hr, hw, hl, q⟩ := h
    rfl
  obtain ⟨r, wl, pc, acc, x, mark, out, count, ds, rfl, hr, hw, hl, q⟩ := h
  have nd := sc_law_model.nd
  refine Kit.ok_body (σ := [some _, some _, none, none, none, none, none, none]) ((pss_cons (ps_asg (pv 0) (Kit.kgTup K rfl (pgs_cons (pg_name (i := 2) nd rfl (Or.inl rfl)) (pgs_cons (pg_name (i := 3) nd rfl (Or.inl rfl)) (pgs_cons (pg_name (i := 4) nd rfl (Or.inl rfl)) (pgs_cons (pg_name (i := 5) nd rfl (Or.inl rfl)) (pgs_cons (pg_name (i := 6) nd rfl (Or.inl rfl)) (pgs_cons (pg_name (i := 7) nd rfl (Or.inl rfl)) pgs_nil))))))))
    (pss_one (ps_ret (pe_disp (pps_cons pe_str (pv 2) (pps_cons pe_str (pv 3) (pps_cons pe_str (pv 4) (pps_cons pe_str (pv 5) (pps_cons pe_str (pv 6) (pps_cons pe_str (pv 7) (pps_cons pe_str (pe_callTy (Kit.kList K) (by rfl) T.z_list (by decide +kernel) (pa_cons (pv 1) pa_nil)) (pps_cons pe_str (pe_tup pa_nil) pps_nil)))))))) (by rfl) (by rfl) (fun z => by cases z) (by decide)))))) rfl ?_
  try dsimp only [L2.cxOf, L2.Cx.nox]
  walk_at "wp"
  rename_i p H1 n1 e1 f1 wa H2 n2 e2 f2 ta H3 n3 e3 f3
  refine ⟨by walk_at "hp", MSt.kvs ⟨pc, acc, x, mark, out, count, ds, []⟩ wa ta, rfl, (show 8 ≤ 15 by decide), ?_⟩
  have hnw : wa ≠ p := ne_of_none f1 n2 |>.symm
  have hnt : ta ≠ p := ne_of_none (e2 _ _ f1) n3 |>.symm
  refine q p wa ta _ n1 (Evl.fresh_back e1 n2) (fun b o hb => ?_) ⟨?_, ?_, ?_, hl⟩
  · have hbp : b ≠ p := ne_of_none hb n1
    rw [upd_ne hbp]
    exact e3 _ _ (e2 _ _ (e1 _ _ hb))
  · rw [upd_same]
    rfl
  · rw [upd_ne hnw]
    exact e3 _ _ f2
  · refine Evl.st_of ?_
    rw [upd_ne hnt]
    exact f3
def dataL (n a x : Int) : Option (Int × Bool) := if n = 4 ∨ n = 6 ∨ n = 26 then some (otherM n a x, true) else if (n = 3 ∨ n = 5 ∨ n = 8 ∨ n = 10 ∨ n = 27) ∨ (12 ≤ n ∧ n ≤ 22) then some (otherM n a x, false) else none

/-! ### the law's own step -/
local macro_rules | `(tactic| walk_at "ifs") => `(tactic| repeat (first
  | rw [if_pos (by first | assumption | omega | fail)]
  | rw [if_neg (by first | assumption | omega | fail)]
  | fail))
def MSt.moveM (m : Int) (s : MSt) (n a : Int) : MSt × Int :=
  if n = 23 ∨ (n = 24 ∧ s.acc = 0) ∨ (n = 25 ∧ ¬ s.acc = 0) then (s, a % 256)
  else if n = 26 then ({ s with mem := s.mem.set (otherM n a s.x).toNat ((s.pc + 1) % 256) }, (otherM n a s.x + 1) % 256)
  else if n = 27 then (s, s.at (otherM n a s.x) % 256)
  else if n = 28 ∧ s.count = 16 then ({ s with mark := 5 }, s.pc)
  else if n = 28 then ({ s with out := foldI m s.out (leafI m s.acc), count := s.count + 1, told := s.told ++ [s.acc] }, (s.pc + 1) % 256)
  else (s, (s.pc + 1) % 256)
theorem p_toldS {K : PySem.W.Frag} {H : Hp} {p wa ta ta' : Addr} {s : MSt} {v : Int} {R : Hp → Prop} (h : StAt K H p wa ta s) (t : SqT K H ta' (s.told.map V.int ++ [.int v])) (q : ∀ H2, Kit.ExBut p H H2 → StAt K H2 p wa ta' { s with told := s.told ++ [v] } → R H2) : PutD (.ref p) (.str "told") (.ref ta') H R :=
  p_told (ts := s.told ++ [v]) h (by rw [List.map_append]; exact t) q
local macro_rules | `(tactic| walk_at "wp1") => `(tactic| ((with_reducible show PutD _ (V.str "told") (V.ref _) _ _); refine p_toldS (by walk_at "st") (by walk_at "sqT") ?_; intro _ _ _))
local macro_rules | `(tactic| walk_at "sqT") => `(tactic| first | with_reducible assumption | exact Evl.st_of (by with_reducible assumption) | exact StAt.told (by walk_at "st") | fail)
def sp_law_moved (K : PySem.W.Frag) : Sp := fun vs H Q _ => ∃ (p wa ta : Addr) (s : MSt) (m n a : Int), vs = [.int m, .ref p, .int n, .int a] ∧ StAt K H p wa ta s ∧ Dg m s.out ∧ m < 2 ^ 62 ∧ s.told.length ≤ 10000 ∧
  ∀ ta' H', Ex2 p wa H H' → StAt K H' p wa ta' (s.moveM m n a).1 → Q (.int (s.moveM m n a).2) H'
theorem leafM {K : PySem.W.Frag} {H H' : Hp} {p wa ta' : Addr} {s s' : MSt} {m n a r : Int} {Q : VK} (q : ∀ ta' H', Ex2 p wa H H' → StAt K H' p wa ta' (s.moveM m n a).1 → Q (.int (s.moveM m n a).2) H') (e : Ex2 p wa H H') (h : StAt K H' p wa ta' s') (z : s.moveM m n a = (s', r)) : Q (.int r) H' := by
  have q := q ta' H' e
  rw [z] at q
  exact q h
theorem ok_law_moved (T : Txt K mg) : FnOk P w K mg base CX0 2 T.f_law_moved.f T.f_law_moved.fd ["m", "state", "n", "a"] (sp_law_moved K) := by
  have G_law_fold := ok_law_fold (P := P) (w := w) (base := base) T
  have G_law_halt := ok_law_halt (P := P) (w := w) (base := base) T
  have G_law_leaf := ok_law_leaf (P := P) (w := w) (base := base) T
  have G_law_other := ok_law_other (P := P) (w := w) (base := base) T
  refine T.f_law_moved.F.ok sc_law_moved (fun vs H Q E h => ?_) (fun cdv A outer s H vs Q E hr h => ?_)
  · obtain ⟨p, wa, ta, s, m, n, a, rfl, hs, ho, hm, ht, q⟩ := h
    rfl
  obtain ⟨p, wa, ta, s, m, n, a, rfl, hs, ho, hm, ht, q⟩ := h
  have nd := sc_law_moved.nd
  have hu := hu_of hr
  have hr1 : Room 1 _ := hr.mono (by decide)
  refine Kit.ok_body (σ := [some _, some _, some _, some _, none, none, none]) ((pss_cons (ps_set (i := 4) nd rfl (Or.inl rfl) (pe_dget hu (pv 1) pe_str (fun _ _ => rfl)))
    (pss_cons (ps_set (i := 5) nd rfl (Or.inl rfl) (pe_call G_law_other hr1 (by rfl) T.f_law_other.g T.f_law_other.F.kp T.f_law_other.b .nil pass0 (pa_cons (pv 1) (pa_cons (pv 2) (pa_cons (pv 3) pa_nil)))))
    (pss_cons (ps_set (i := 6) nd rfl (Or.inl rfl) (pe_dget hu (pv 1) pe_str (fun _ _ => rfl)))
    (pss_cons (ps_if (PW.pt (pw_or (pt_cmpR op_eq (pv 2) pe_int (nomark _)) (pw_or (PW.pt (pw_and (pt_cmpR op_eq (pv 2) pe_int (nomark _)) (pw_and1 (pt_cmpR op_eq (pv 6) pe_int (nomark _))))) (pw_or1 (PW.pt (pw_and (pt_cmpR op_eq (pv 2) pe_int (nomark _)) (pw_and1 (pt_cmpR op_ne (pv 6) pe_int (nomark _)))))))))
    (pss_one (ps_ret (pe_op op_mod (pe_callTy Kit.k_int (by rfl) T.z_int (by decide +kernel) (pa_cons (pv 3) pa_nil)) pe_int)))
    pss_nil)
    (pss_cons (ps_if (pt_cmpR op_eq (pv 2) pe_int (nomark _))
    (pss_cons (ps_asg (pe_op op_mod (pe_callTy Kit.k_int (by rfl) T.z_int (by decide +kernel) (pa_cons (pe_op op_add (pe_dget hu (pv 1) pe_str (fun _ _ => rfl)) pe_int) pa_nil)) pe_int) (pg_sub (pv 4) (pv 5) set_list))
    (pss_one (ps_ret (pe_op op_mod (pe_callTy Kit.k_int (by rfl) T.z_int (by decide +kernel) (pa_cons (pe_op op_add (pv 5) pe_int) pa_nil)) pe_int))))
    pss_nil)
    (pss_cons (ps_if (pt_cmpR op_eq (pv 2) pe_int (nomark _))
    (pss_one (ps_ret (pe_op op_mod (pe_callTy Kit.k_int (by rfl) T.z_int (by decide +kernel) (pa_cons (pe_ix (Kit.ixL K) (pv 4) (pv 5) (fun _ _ => rfl)) pa_nil)) pe_int)))
    pss_nil)
    (pss_cons (ps_if (PW.pt (pw_and (pt_cmpR op_eq (pv 2) pe_int (nomark _)) (pw_and1 (pt_cmpR op_eq (pe_dget hu (pv 1) pe_str (fun _ _ => rfl)) pe_int (nomark _)))))
    (pss_one (ps_ret (pe_call G_law_halt hr1 (by rfl) T.f_law_halt.g T.f_law_halt.F.kp T.f_law_halt.b .nil pass0 (pa_cons (pv 1) (pa_cons pe_int pa_nil)))))
    pss_nil)
    (pss_cons (ps_if (pt_cmpR op_eq (pv 2) pe_int (nomark _))
    (pss_cons (ps_dput hu (pv 1) pe_str (pe_call G_law_fold hr1 (by rfl) T.f_law_fold.g T.f_law_fold.F.kp T.f_law_fold.b .nil pass0 (pa_cons (pv 0) (pa_cons (pe_dget hu (pv 1) pe_str (fun _ _ => rfl)) (pa_cons (pe_call G_law_leaf hr1 (by rfl) T.f_law_leaf.g T.f_law_leaf.F.kp T.f_law_leaf.b .nil pass0 (pa_cons (pv 0) (pa_cons (pv 6) pa_nil))) pa_nil)))) rfl)
    (pss_cons (ps_dput hu (pv 1) pe_str (pe_op op_add (pe_dget hu (pv 1) pe_str (fun _ _ => rfl)) pe_int) rfl)
    (pss_one (ps_dput hu (pv 1) pe_str (pe_op (Kit.kCat K) (pe_dget hu (pv 1) pe_str (fun _ _ => rfl)) (pe_tup (pa_cons (pv 6) pa_nil))) rfl))))
    pss_nil)
    (pss_one (ps_ret (pe_op op_mod (pe_callTy Kit.k_int (by rfl) T.z_int (by decide +kernel) (pa_cons (pe_op op_add (pe_dget hu (pv 1) pe_str (fun _ _ => rfl)) pe_int) pa_nil)) pe_int)))))))))))) rfl ?_
  try dsimp only [L2.cxOf, L2.Cx.nox]
  have hm0 : 0 < m := by have := ho.1; have := ho.2; omega
  walk_at "wp"
  all_goals try (refine leafM q (by walk_at "e2") (by walk_at "st") ?_; unfold MSt.moveM; walk_at "ifs"; try rfl)
  refine ⟨m, s.acc, rfl, hm0, ?_⟩
  walk_at "wp"
  refine use_law_fold ho (leaf_dg hm0) hm fun H1 e1 => ?_
  walk_at "wp"
  refine leafM q (by walk_at "e2") (by walk_at "st") ?_
  unfold MSt.moveM
  walk_at "ifs"
  try rfl
def intOf : V → Int
  | .int i => i
  | _ => 0
def accL (n a acc d : Int) : Int := if 12 ≤ n ∧ n ≤ 22 then intOf (opV (sgOf (nm n)) acc d) else if n = 2 then a else if n = 3 ∨ n = 5 then d else if n = 11 then (if acc = 0 then 1 else 0) else acc
def xL (n acc x d : Int) : Int := if n = 7 then acc else if n = 8 then d else x
def haltL (n a acc x d : Int) : Int := if n = 0 ∨ 28 < n then 6 else if n = 1 then 1 else if n = 9 ∧ a ≤ x then 3 else if n = 10 ∧ d ≤ x then 4 else if (12 ≤ n ∧ n ≤ 22) ∧ opV (sgOf (nm n)) acc d = .non then 2 else 0
def MSt.workS (s : MSt) (n a : Int) : MSt := { s with acc := accL n a s.acc (s.at (otherM n a s.x)), x := xL n s.acc s.x (s.at (otherM n a s.x)), mem := if n = 4 ∨ n = 6 then s.mem.set (otherM n a s.x).toNat s.acc else s.mem }
def MSt.workM (m : Int) (s : MSt) (n a : Int) : MSt × Int :=
  if haltL n a s.acc s.x (s.at (otherM n a s.x)) = 0 then (s.workS n a).moveM m n a
  else ({ s with mark := haltL n a s.acc s.x (s.at (otherM n a s.x)) }, s.pc)
theorem use_moved {K : PySem.W.Frag} {H : Hp} {p wa ta : Addr} {s : MSt} {m n a : Int} {Q : VK} {E : XK} (h : StAt K H p wa ta s) (ho : Dg m s.out) (hm : m < 2 ^ 62) (ht : s.told.length ≤ 10000) (q : ∀ ta' H', Ex2 p wa H H' → StAt K H' p wa ta' (s.moveM m n a).1 → Q (.int (s.moveM m n a).2) H') :
    sp_law_moved K [.int m, .ref p, .int n, .int a] H Q E := ⟨p, wa, ta, s, m, n, a, rfl, h, ho, hm, ht, q⟩
def sp_law_worked (K : PySem.W.Frag) : Sp := fun vs H Q _ => ∃ (p wa ta : Addr) (s : MSt) (m n a : Int), vs = [.int m, .ref p, .int n, .int a] ∧ StAt K H p wa ta s ∧ Dg m s.out ∧ m < 2 ^ 62 ∧ s.told.length ≤ 10000 ∧ 0 ≤ n ∧ IsW s.acc ∧ (∀ k, IsW (s.at k)) ∧
  ∀ ta' H', Ex2 p wa H H' → StAt K H' p wa ta' (s.workM m n a).1 → Q (.int (s.workM m n a).2) H'
theorem leafWh {K : PySem.W.Frag} {H H' : Hp} {p wa ta' : Addr} {s : MSt} {m n a k : Int} {Q : VK} (q : ∀ ta' H', Ex2 p wa H H' → StAt K H' p wa ta' (s.workM m n a).1 → Q (.int (s.workM m n a).2) H') (e : Ex2 p wa H H') (h : StAt K H' p wa ta' { s with mark := k })
    (z : haltL n a s.acc s.x (s.at (otherM n a s.x)) = k) (hk : k ≠ 0) : Q (.int s.pc) H' := by
  have q := q ta' H' e
  have w : s.workM m n a = ({ s with mark := k }, s.pc) := by unfold MSt.workM; rw [z, if_neg hk]
  rw [w] at q
  exact q h
theorem leafW2 {K : PySem.W.Frag} {H H1 : Hp} {p wa ta1 : Addr} {s s1 : MSt} {m n a : Int} {Q : VK} {E : XK} (q : ∀ ta' H', Ex2 p wa H H' → StAt K H' p wa ta' (s.workM m n a).1 → Q (.int (s.workM m n a).2) H') (h : StAt K H1 p wa ta1 s1) (e : Ex2 p wa H H1)
    (ho : Dg m s.out) (hm : m < 2 ^ 62) (ht : s.told.length ≤ 10000) (eo : s1.out = s.out) (et : s1.told = s.told) (z : haltL n a s.acc s.x (s.at (otherM n a s.x)) = 0) (hw : s.workS n a = s1) : sp_law_moved K [.int m, .ref p, .int n, .int a] H1 Q E :=
  use_moved h (by rw [eo]; exact ho) hm (by rw [et]; exact ht) fun ta' H' e2 h2 => by
    have q := q ta' H' (e.trans e2)
    have w : s.workM m n a = s1.moveM m n a := by unfold MSt.workM; rw [if_pos z, hw]
    rw [w] at q
    exact q h2
theorem sg_at {n : Int} (h0 : 12 ≤ n) (h1 : n ≤ 22) : atI (sgs.map V.str) (n - 12) = some (.str (nm n)) := by
  obtain ⟨j, hj⟩ := Int.eq_ofNat_of_zero_le (show 0 ≤ n - 12 by omega)
  rw [hj]
  refine L2.atI_nat (j := j) ?_
  have hj2 : j < 11 := by omega
  have e : nm n = nms.getD (j + 12) "bad" := by unfold nm; rw [show n.toNat = j + 12 by omega]
  rw [e]
  have : ∀ j : Fin 11, (sgs.map V.str)[j.1]? = some (.str (nms.getD (j.1 + 12) "bad")) := by intro j; revert j; decide +kernel
  exact this ⟨j, hj2⟩
theorem nm_sg {n : Int} (h0 : 12 ≤ n) (h1 : n ≤ 22) : nm n ∈ sgs := by
  have : ∀ j : Fin 11, nms.getD (j.1 + 12) "bad" ∈ sgs := by decide +kernel
  have e : nm n = nms.getD ((n - 12).toNat + 12) "bad" := by unfold nm; rw [show n.toNat = (n - 12).toNat + 12 by omega]
  rw [e]
  exact this ⟨(n - 12).toNat, by omega⟩

/-! ### the law's own signs -/
local macro_rules | `(tactic| walk_at "wp1") => `(tactic| ((with_reducible show L2.rIn _ false (V.str _) _ _ _); first | refine Kit.w_inLt (by walk_at "sq2") (by decide +kernel) ?_ | refine Kit.w_inLf (by walk_at "sq2") (by decide +kernel) ?_))
theorem op5 {g : Sg} {a b : Int} (h : g.isCmp = true) : opV g a b = .int (if cmpB g a b = true then 1 else 0) := by
  rw [opV_cmp h]
  split <;> rfl
theorem div_small {a b : Int} (ha : 0 ≤ a) (h : a < 65536) (hb : 0 < b) : 0 ≤ a / b ∧ a / b < 65536 := by
  refine ⟨Int.ediv_nonneg ha (by omega), ?_⟩
  have h1 : a / b ≤ a := Int.ediv_le_self _ ha
  omega
def sp_law_result : Sp := fun vs H Q _ => ∃ (g : Sg) (a b : Int), vs = [.str g.str, .int a, .int b] ∧ 0 ≤ a ∧ a < 65536 ∧ 0 ≤ b ∧ b < 65536 ∧ ∀ H', Evl.Ex H H' → Q (opV g a b) H'
theorem max1 {b : Int} (h0 : 0 ≤ b) (h : ¬ b = 0) : (if b > 1 then b else 1) = b := by split <;> omega
theorem max0 : (if (0 : Int) > 1 then 0 else 1) = (1 : Int) := rfl
theorem use_index {K : PySem.W.Frag} (g : Sg) {p : Addr} {H : Hp} {Q : VK} (h : H p = some (.lst (sgs.map V.str))) (q : Q (.int (sgIx g : Nat)) H) : rIndex K (.ref p) [.str g.str] H Q := w_indexS (Evl.sq_of h) (sgIx_at g) (sgIx_first g) q
theorem use_law_result {s : Str} {a b : Int} {H : Hp} {Q : VK} {E : XK} (hs : s ∈ sgs) (h1 : 0 ≤ a ∧ a < 65536) (h2 : 0 ≤ b ∧ b < 65536) (k : ∀ H', Evl.Ex H H' → Q (opV (sgOf s) a b) H') : sp_law_result [.str s, .int a, .int b] H Q E := by
  obtain ⟨g, rfl⟩ := sg_of hs
  rw [sgOf_str] at k
  exact ⟨g, a, b, rfl, h1.1, h1.2, h2.1, h2.2, k⟩
def arithS : List Str := ["+", "-", "*", "/", "mod"]
def divS : List Str := ["/", "mod"]
def arithV (g : Sg) (a b : Int) : Int := match g with
  | .add => a + b
  | .sub => a - b
  | .mul => a * b
  | .div => a / (if b > 1 then b else 1)
  | .mod => a - a / (if b > 1 then b else 1) * b
  | _ => 0
theorem arith_at {g : Sg} {a b : Int} (h : g.str ∈ arithS) : atI [V.int (a + b), V.int (a - b), V.int (a * b), V.int (a / (if b > 1 then b else 1)), V.int (a - a / (if b > 1 then b else 1) * b)] ((sgIx g : Nat) : Int) = some (.int (arithV g a b)) := by
  cases g
  all_goals first | exact absurd h (by decide +kernel) | exact L2.atI_nat (j := 0) rfl | exact L2.atI_nat (j := 1) rfl | exact L2.atI_nat (j := 2) rfl | exact L2.atI_nat (j := 3) rfl | exact L2.atI_nat (j := 4) rfl
theorem cmp_at {g : Sg} {a b : Int} (h : ¬ g.str ∈ arithS) : atI [V.bl (decide (a = b)), V.bl (!decide (a = b)), V.bl (decide (a < b)), V.bl (decide (a ≤ b)), V.bl (decide (b < a)), V.bl (decide (b ≤ a))] (((sgIx g : Nat) : Int) - 5) = some (.bl (cmpB g a b)) := by
  cases g
  all_goals first | exact absurd (by decide +kernel) h | exact L2.atI_nat (j := 0) rfl | exact L2.atI_nat (j := 1) rfl | exact L2.atI_nat (j := 2) rfl | exact L2.atI_nat (j := 3) rfl | exact L2.atI_nat (j := 4) rfl | exact L2.atI_nat (j := 5) rfl
theorem cmp_of {g : Sg} (h : ¬ g.str ∈ arithS) : g.isCmp = true := by
  cases g
  all_goals first | exact absurd (by decide +kernel) h | rfl
theorem arith_opV {g : Sg} {a b : Int} (ha0 : 0 ≤ a) (ha1 : a < 65536) (h0 : 0 ≤ b) (h1 : b < 65536) (h : g.str ∈ arithS) (hb : g.str ∈ divS → ¬ b = 0) : opV g a b = .int (arithV g a b % 65536) := by
  cases g
  all_goals first | exact absurd h (by decide +kernel) | rfl | skip
  all_goals have hb := hb (by decide +kernel)
  all_goals have hm1 := max1 h0 hb
  all_goals have hd := div_small ha0 ha1 (show 0 < b by omega)
  · rw [show opV .div a b = .int (a / b) from if_neg hb]
    show _ = V.int ((a / (if b > 1 then b else 1)) % 65536)
    rw [hm1, Int.emod_eq_of_lt hd.1 hd.2]
  · have hr := Int.emod_nonneg a hb
    have hr2 := Int.emod_lt_of_pos a (show 0 < b by omega)
    have hdef : a - a / b * b = a % b := by rw [Int.emod_def, Int.mul_comm]
    rw [show opV .mod a b = .int (a % b) from if_neg hb]
    show _ = V.int ((a - a / (if b > 1 then b else 1) * b) % 65536)
    rw [hm1, hdef, Int.emod_eq_of_lt hr (by omega)]
theorem none_opV {g : Sg} {a b : Int} (hb : b = 0) (h : g.str ∈ divS) : opV g a b = .non := by
  cases g
  all_goals first | exact absurd h (by decide +kernel) | exact if_pos hb
theorem div_arith {g : Sg} (h : g.str ∈ divS) : g.str ∈ arithS := by
  cases g
  all_goals first | exact absurd h (by decide +kernel) | decide +kernel
local macro_rules | `(tactic| walk_at "wp1") => `(tactic| first
  | ((with_reducible show rIndex _ _ [V.str _] _ _); refine use_index _ (by walk_at "hp") ?_)
  | ((with_reducible show L2.rIn _ false (V.str (Sg.str _)) _ _ _); refine w_inS (by walk_at "sq2") (by rfl) ?_)
  | fail)
theorem ok_law_result (T : Txt K mg) : FnOk P w K mg base CX0 2 T.f_law_result.f T.f_law_result.fd ["sign", "a", "b"] (sp_law_result) := by
  have G_law_signs := ok_law_signs (P := P) (w := w) (base := base) T
  refine T.f_law_result.F.ok sc_law_result (fun vs H Q E h => ?_) (fun cdv A outer s H vs Q E hr h => ?_)
  · obtain ⟨g, a, b, rfl, ha0, ha1, h0, h1, q⟩ := h
    rfl
  obtain ⟨g, a, b, rfl, ha0, ha1, h0, h1, q⟩ := h
  have nd := sc_law_result.nd
  have hr1 : Room 1 _ := hr.mono (by decide)
  refine Kit.ok_body (σ := [some _, some _, some _, none]) ((pss_cons (ps_if (PW.pt (pw_and (pt_cmpR (Kit.kIn K) (pv 0) (pe_lst (pa_cons pe_str (pa_cons pe_str pa_nil))) (by rfl)) (pw_and1 (pt_cmpR op_eq (pv 2) pe_int (nomark _)))))
    (pss_one (ps_ret pe_non))
    pss_nil)
    (pss_cons (ps_if (pt_cmpR (Kit.kIn K) (pv 0) (pe_lst (pa_cons pe_str (pa_cons pe_str (pa_cons pe_str (pa_cons pe_str (pa_cons pe_str pa_nil)))))) (by rfl))
    (pss_cons (ps_set (i := 3) nd rfl (Or.inl rfl) (pe_lst (pa_cons (pe_op op_add (pv 1) (pv 2)) (pa_cons (pe_op op_sub (pv 1) (pv 2)) (pa_cons (pe_op op_mul (pv 1) (pv 2)) (pa_cons (pe_op op_fdivW (pv 1) (pe_callB (Kit.k_max rfl) (by rfl) T.z_max (by decide +kernel) (pa_cons pe_int (pa_cons (pv 2) pa_nil)))) (pa_cons (pe_op op_sub (pv 1) (pe_op op_mul (pe_op op_fdivW (pv 1) (pe_callB (Kit.k_max rfl) (by rfl) T.z_max (by decide +kernel) (pa_cons pe_int (pa_cons (pv 2) pa_nil)))) (pv 2))) pa_nil)))))))
    (pss_one (ps_ret (pe_op op_mod (pe_callTy Kit.k_int (by rfl) T.z_int (by decide +kernel) (pa_cons (pe_ix (Kit.ixL K) (pv 3) (pe_bm PySem.F.plainAttrs_list PySem.F.slot_list_index PySem.F.type_list_index (kIndexL K) (pe_call0 G_law_signs hr1 (by rfl) T.f_law_signs.g T.f_law_signs.F.kp T.f_law_signs.b .nil pass0) (pa_cons (pv 0) pa_nil)) (fun _ _ => rfl)) pa_nil)) pe_int))))
    pss_nil)
    (pss_one (ps_ret (pe_callTy Kit.k_int (by rfl) T.z_int (by decide +kernel) (pa_cons (pe_ix (Kit.ixL K) (pe_lst (pa_cons (pe_cmpR op_eq (pv 1) (pv 2) (nomark _)) (pa_cons (pe_cmpR op_ne (pv 1) (pv 2) (nomark _)) (pa_cons (pe_cmpR op_lt (pv 1) (pv 2) (nomark _)) (pa_cons (pe_cmpR op_le (pv 1) (pv 2) (nomark _)) (pa_cons (pe_cmpR op_gt (pv 1) (pv 2) (nomark _)) (pa_cons (pe_cmpR op_ge (pv 1) (pv 2) (nomark _)) pa_nil))))))) (pe_op op_sub (pe_bm PySem.F.plainAttrs_list PySem.F.slot_list_index PySem.F.type_list_index (kIndexL K) (pe_call0 G_law_signs hr1 (by rfl) T.f_law_signs.g T.f_law_signs.F.kp T.f_law_signs.b .nil pass0) (pa_cons (pv 0) pa_nil)) pe_int) (fun _ _ => rfl)) pa_nil))))))) rfl ?_
  try dsimp only [L2.cxOf, L2.Cx.nox]
  walk_at "wp"
  · rename_i hd hb
    exact ex_done q (by walk_at "ex") (none_opV hb hd)
  · rename_i p1 H1 n1 e1 f1 hd hb p2 H2 n2 e2 f2 hr p3 H3 n3 e3 f3 p4 H4 n4 e4 f4
    refine Kit.w_ixL (Evl.sq_of (e4 _ _ f3)) (arith_at hr) ?_
    walk_at "wp"
    exact ex_done q (by walk_at "ex") (arith_opV ha0 ha1 h0 h1 hr fun _ => hb)
  · rename_i p1 H1 n1 e1 f1 hd hb p2 H2 n2 e2 f2 hr p3 H3 n3 e3 f3 p4 H4 n4 e4 f4
    exact absurd (div_arith hd) hr
  · rename_i p1 H1 n1 e1 f1 hd p2 H2 n2 e2 f2 hr p3 H3 n3 e3 f3 p4 H4 n4 e4 f4
    refine Kit.w_ixL (Evl.sq_of (e4 _ _ f3)) (arith_at hr) ?_
    walk_at "wp"
    exact ex_done q (by walk_at "ex") (arith_opV ha0 ha1 h0 h1 hr fun z => absurd z hd)
  · rename_i p1 H1 n1 e1 f1 hd p2 H2 n2 e2 f2 hr p3 H3 n3 e3 f3 p4 H4 n4 e4 f4
    refine Kit.w_ixL (Evl.sq_of (e4 _ _ f3)) (cmp_at hr) ?_
    walk_at "wp"
    exact ex_done q (by walk_at "ex") (op5 (cmp_of hr))

theorem ok_law_worked (T : Txt K mg) : FnOk P w K mg base CX0 3 T.f_law_worked.f T.f_law_worked.fd ["m", "state", "n", "a"] (sp_law_worked K) := by
  have G_law_halt := ok_law_halt (P := P) (w := w) (base := base) T
  have G_law_moved := ok_law_moved (P := P) (w := w) (base := base) T
  have G_law_other := ok_law_other (P := P) (w := w) (base := base) T
  have G_law_result := ok_law_result (P := P) (w := w) (base := base) T
  have G_law_signs := ok_law_signs (P := P) (w := w) (base := base) T
  refine T.f_law_worked.F.ok sc_law_worked (fun vs H Q E h => ?_) (fun cdv A outer s H vs Q E hr h => ?_)
  · obtain ⟨p, wa, ta, s, m, n, a, rfl, hs, ho, hm, ht, hn0, hA, hD, q⟩ := h
    rfl
  obtain ⟨p, wa, ta, s, m, n, a, rfl, hs, ho, hm, ht, hn0, hA, hD, q⟩ := h
  have nd := sc_law_worked.nd
  have hu := hu_of hr
  have hr1 : Room 1 _ := hr.mono (by decide)
  have hr2 : Room 2 _ := hr.mono (by decide)
  refine Kit.ok_body (σ := [some _, some _, some _, some _, none, none, none, none]) ((pss_cons (ps_set (i := 4) nd rfl (Or.inl rfl) (pe_dget hu (pv 1) pe_str (fun _ _ => rfl)))
    (pss_cons (ps_set (i := 5) nd rfl (Or.inl rfl) (pe_call G_law_other hr1 (by rfl) T.f_law_other.g T.f_law_other.F.kp T.f_law_other.b .nil pass0 (pa_cons (pv 1) (pa_cons (pv 2) (pa_cons (pv 3) pa_nil)))))
    (pss_cons (ps_set (i := 6) nd rfl (Or.inl rfl) (pe_dget hu (pv 1) pe_str (fun _ _ => rfl)))
    (pss_cons (ps_if (PW.pt (pw_or (pt_cmpR op_eq (pv 2) pe_int (nomark _)) (pw_or1 (pt_cmpR op_gt (pv 2) pe_int (nomark _)))))
    (pss_one (ps_ret (pe_call G_law_halt hr1 (by rfl) T.f_law_halt.g T.f_law_halt.F.kp T.f_law_halt.b .nil pass0 (pa_cons (pv 1) (pa_cons pe_int pa_nil)))))
    pss_nil)
    (pss_cons (ps_if (pt_cmpR op_eq (pv 2) pe_int (nomark _))
    (pss_one (ps_ret (pe_call G_law_halt hr1 (by rfl) T.f_law_halt.g T.f_law_halt.F.kp T.f_law_halt.b .nil pass0 (pa_cons (pv 1) (pa_cons pe_int pa_nil)))))
    pss_nil)
    (pss_cons (ps_if (PW.pt (pw_and (pt_cmpR op_eq (pv 2) pe_int (nomark _)) (pw_and1 (pt_cmpR op_ge (pe_dget hu (pv 1) pe_str (fun _ _ => rfl)) (pv 3) (nomark _)))))
    (pss_one (ps_ret (pe_call G_law_halt hr1 (by rfl) T.f_law_halt.g T.f_law_halt.F.kp T.f_law_halt.b .nil pass0 (pa_cons (pv 1) (pa_cons pe_int pa_nil)))))
    pss_nil)
    (pss_cons (ps_if (PW.pt (pw_and (pt_cmpR op_eq (pv 2) pe_int (nomark _)) (pw_and1 (pt_cmpR op_ge (pe_dget hu (pv 1) pe_str (fun _ _ => rfl)) (pe_ix (Kit.ixL K) (pv 4) (pv 5) (fun _ _ => rfl)) (nomark _)))))
    (pss_one (ps_ret (pe_call G_law_halt hr1 (by rfl) T.f_law_halt.g T.f_law_halt.F.kp T.f_law_halt.b .nil pass0 (pa_cons (pv 1) (pa_cons pe_int pa_nil)))))
    pss_nil)
    (pss_cons (ps_if (PW.pt (pw_and (pt_cmpR op_ge (pv 2) pe_int (nomark _)) (pw_and1 (pt_cmpR op_le (pv 2) pe_int (nomark _)))))
    (pss_cons (ps_set (i := 7) nd rfl (Or.inl rfl) (pe_call G_law_result hr2 (by rfl) T.f_law_result.g T.f_law_result.F.kp T.f_law_result.b .nil pass0 (pa_cons (pe_ix (Kit.ixL K) (pe_call0 G_law_signs hr1 (by rfl) T.f_law_signs.g T.f_law_signs.F.kp T.f_law_signs.b .nil pass0) (pe_op op_sub (pv 2) pe_int) (fun _ _ => rfl)) (pa_cons (pv 6) (pa_cons (pe_ix (Kit.ixL K) (pv 4) (pv 5) (fun _ _ => rfl)) pa_nil)))))
    (pss_cons (ps_if (pt_cmpR Kit.k_isN (pv 7) pe_non (nomark _))
    (pss_one (ps_ret (pe_call G_law_halt hr1 (by rfl) T.f_law_halt.g T.f_law_halt.F.kp T.f_law_halt.b .nil pass0 (pa_cons (pv 1) (pa_cons pe_int pa_nil)))))
    pss_nil)
    (pss_one (ps_dput hu (pv 1) pe_str (pv 7) rfl))))
    pss_nil)
    (pss_cons (ps_if (pt_cmpR op_eq (pv 2) pe_int (nomark _))
    (pss_one (ps_dput hu (pv 1) pe_str (pv 3) rfl))
    pss_nil)
    (pss_cons (ps_if (pt_cmpR (Kit.kIn K) (pv 2) (pe_lst (pa_cons pe_int (pa_cons pe_int pa_nil))) (by rfl))
    (pss_one (ps_dput hu (pv 1) pe_str (pe_ix (Kit.ixL K) (pv 4) (pv 5) (fun _ _ => rfl)) rfl))
    pss_nil)
    (pss_cons (ps_if (pt_cmpR (Kit.kIn K) (pv 2) (pe_lst (pa_cons pe_int (pa_cons pe_int pa_nil))) (by rfl))
    (pss_one (ps_asg (pv 6) (pg_sub (pv 4) (pv 5) set_list)))
    pss_nil)
    (pss_cons (ps_if (pt_cmpR op_eq (pv 2) pe_int (nomark _))
    (pss_one (ps_dput hu (pv 1) pe_str (pv 6) rfl))
    pss_nil)
    (pss_cons (ps_if (pt_cmpR op_eq (pv 2) pe_int (nomark _))
    (pss_one (ps_dput hu (pv 1) pe_str (pe_ix (Kit.ixL K) (pv 4) (pv 5) (fun _ _ => rfl)) rfl))
    pss_nil)
    (pss_cons (ps_if (pt_cmpR op_eq (pv 2) pe_int (nomark _))
    (pss_one (ps_dput hu (pv 1) pe_str (pe_callTy Kit.k_int (by rfl) T.z_int (by decide +kernel) (pa_cons (pe_cmpR op_eq (pv 6) pe_int (nomark _)) pa_nil)) rfl))
    pss_nil)
    (pss_one (ps_ret (pe_call G_law_moved hr2 (by rfl) T.f_law_moved.g T.f_law_moved.F.kp T.f_law_moved.b .nil pass0 (pa_cons (pv 0) (pa_cons (pv 1) (pa_cons (pv 2) (pa_cons (pv 3) pa_nil)))))))))))))))))))))) rfl ?_
  try dsimp only [L2.cxOf, L2.Cx.nox]
  walk_at "wp"
  all_goals try (refine leafWh q (by walk_at "e2") (by walk_at "st") ?_ (by decide); unfold haltL; walk_at "ifs"; first | done | fail)
  all_goals try (refine leafW2 q (by walk_at "st") (by walk_at "e2") ho hm ht (by rfl) (by rfl) (by unfold haltL; walk_at "ifs"; first | done | fail) (by unfold MSt.workS accL xL; walk_at "ifs"; first | done | fail); done)
  · have hc : 12 ≤ n := by assumption
    have hc' : n ≤ 22 := by assumption
    refine Kit.w_ixL (Evl.sq_of (by assumption)) (sg_at hc hc') ?_
    walk_at "wp"
    refine use_law_result (nm_sg hc hc') hA (hD _) fun H5 e5 => ?_
    rcases opV_cases (sgOf (nm n)) s.acc (s.at (otherM n a s.x)) with hN | ⟨z, hZ⟩
    · rw [hN]
      walk_at "wp"
      refine leafWh q (by walk_at "e2") (by walk_at "st") ?_ (by decide)
      unfold haltL
      rw [if_neg (by omega), if_neg (by omega), if_neg (by omega), if_neg (by omega), if_pos ⟨⟨hc, hc'⟩, hN⟩]
    · rw [hZ]
      walk_at "wp"
      refine leafW2 q (by walk_at "st") (by walk_at "e2") ho hm ht (by rfl) (by rfl) ?_ ?_
      · unfold haltL
        rw [if_neg (by omega), if_neg (by omega), if_neg (by omega), if_neg (by omega), if_neg (fun y => by rw [hZ] at y; cases y.2)]
      · have e1 : accL n a s.acc (s.at (otherM n a s.x)) = z := by unfold accL; rw [if_pos ⟨hc, hc'⟩, hZ]; rfl
        have e2 : xL n s.acc s.x (s.at (otherM n a s.x)) = s.x := by unfold xL; rw [if_neg (by omega), if_neg (by omega)]
        unfold MSt.workS
        rw [e1, e2, if_neg (show ¬ (n = 4 ∨ n = 6) by omega)]
  · refine leafW2 q (by walk_at "st") (by walk_at "e2") ho hm ht (by rfl) (by rfl) (by unfold haltL; walk_at "ifs") ?_
    have e1 : accL n a s.acc (s.at (otherM n a s.x)) = if s.acc = 0 then 1 else 0 := by unfold accL; rw [if_neg (by omega), if_neg (by omega), if_neg (by omega), if_pos (by omega)]
    have e2 : xL n s.acc s.x (s.at (otherM n a s.x)) = s.x := by unfold xL; rw [if_neg (by omega), if_neg (by omega)]
    unfold MSt.workS
    rw [e1, e2, if_neg (show ¬ (n = 4 ∨ n = 6) by omega)]
theorem use_worked {K : PySem.W.Frag} {H : Hp} {p wa ta : Addr} {s : MSt} {m n a : Int} {Q : VK} {E : XK} (h : StAt K H p wa ta s) (ho : Dg m s.out) (hm : m < 2 ^ 62) (ht : s.told.length ≤ 10000) (hn : 0 ≤ n) (hA : IsW s.acc) (hD : ∀ k, IsW (s.at k)) (q : ∀ ta' H', Ex2 p wa H H' → StAt K H' p wa ta' (s.workM m n a).1 → Q (.int (s.workM m n a).2) H') :
    sp_law_worked K [.int m, .ref p, .int n, .int a] H Q E := ⟨p, wa, ta, s, m, n, a, rfl, h, ho, hm, ht, hn, hA, hD, q⟩

def sp_law_data (K : PySem.W.Frag) : Sp := fun vs H Q _ => ∃ (p wa ta : Addr) (s : MSt) (word : Int), vs = [.ref p, .int word] ∧ StAt K H p wa ta s ∧ ∀ v H', Evl.Ex H H' → VData H' (dataL (word / 1024) (word % 1024) s.x) v → Q v H'
theorem ok_law_data (T : Txt K mg) : FnOk P w K mg base CX0 2 T.f_law_data.f T.f_law_data.fd ["state", "word"] (sp_law_data K) := by
  have G_law_other := ok_law_other (P := P) (w := w) (base := base) T
  refine T.f_law_data.F.ok sc_law_data (fun vs H Q E h => ?_) (fun cdv A outer s H vs Q E hr h => ?_)
  · obtain ⟨p, wa, ta, s, word, rfl, hs, q⟩ := h
    rfl
  obtain ⟨p, wa, ta, s, word, rfl, hs, q⟩ := h
  have nd := sc_law_data.nd
  have hr1 : Room 1 _ := hr.mono (by decide)
  refine Kit.ok_body (σ := [some _, some _, none, none]) ((pss_cons (ps_set (i := 2) nd rfl (Or.inl rfl) (pe_op op_fdiv (pv 1) pe_int))
    (pss_cons (ps_set (i := 3) nd rfl (Or.inl rfl) (pe_call G_law_other hr1 (by rfl) T.f_law_other.g T.f_law_other.F.kp T.f_law_other.b .nil pass0 (pa_cons (pv 0) (pa_cons (pv 2) (pa_cons (pe_op op_mod (pe_callTy Kit.k_int (by rfl) T.z_int (by decide +kernel) (pa_cons (pv 1) pa_nil)) pe_int) pa_nil)))))
    (pss_cons (ps_if (pt_cmpR (Kit.kIn K) (pv 2) (pe_lst (pa_cons pe_int (pa_cons pe_int (pa_cons pe_int pa_nil)))) (by rfl))
    (pss_one (ps_ret (pe_tup (pa_cons (pv 3) (pa_cons pe_bl pa_nil)))))
    pss_nil)
    (pss_cons (ps_if (PW.pt (pw_or (pt_cmpR (Kit.kIn K) (pv 2) (pe_lst (pa_cons pe_int (pa_cons pe_int (pa_cons pe_int (pa_cons pe_int (pa_cons pe_int pa_nil)))))) (by rfl)) (pw_or1 (PW.pt (pw_and (pt_cmpR op_ge (pv 2) pe_int (nomark _)) (pw_and1 (pt_cmpR op_le (pv 2) pe_int (nomark _))))))))
    (pss_one (ps_ret (pe_tup (pa_cons (pv 3) (pa_cons pe_bl pa_nil)))))
    pss_nil)
    (pss_one (ps_ret pe_non))))))) rfl ?_
  walk_at "wp"
  all_goals refine q _ _ (by walk_at "ex") ?_
  · rw [show dataL (word / 1024) (word % 1024) s.x = _ from by unfold dataL; rw [if_pos (by omega)]]
    exact ⟨_, rfl, by assumption⟩
  · rw [show dataL (word / 1024) (word % 1024) s.x = _ from by unfold dataL; rw [if_neg (by omega), if_pos (by omega)]]
    exact ⟨_, rfl, by assumption⟩
  · rw [show dataL (word / 1024) (word % 1024) s.x = _ from by unfold dataL; rw [if_neg (by omega), if_pos (by omega)]]
    exact ⟨_, rfl, by assumption⟩
  · rw [show dataL (word / 1024) (word % 1024) s.x = none from by unfold dataL; rw [if_neg (by omega), if_neg (by omega)]]
    rfl
  all_goals
    rw [show dataL (word / 1024) (word % 1024) s.x = none from by unfold dataL; rw [if_neg (by omega), if_neg (by omega)]]
    rfl

/-! ### both readings of a step agree -/
def regsL (s : MSt) (r : Int) : List V := [.int r, .int s.acc, .int s.x, .int s.mark, .int s.out, .int s.count]
def writL (s' : MSt) : Option (Int × Bool) → V
  | some (p, true) => .int (s'.at p)
  | _ => .non
theorem nm_of_gt {n : Int} (h : 28 < n) : nm n = "bad" := nm_bad (by omega)
theorem at_set {s : MSt} {p v : Int} (hl : s.mem.length = 256) (h0 : 0 ≤ p) (h1 : p < 256) : MSt.at { s with mem := s.mem.set p.toNat v } p = v := by
  show ((s.mem.set p.toNat v)[p.toNat]?).getD 0 = v
  rw [List.getElem?_set_self (by omega)]
  rfl
theorem data_math {n a word x : Int} (h0 : 0 ≤ n) (ha : word % 256 = a % 256) : dataM (nm n) word x = dataL n a x := by
  have e : ∀ k : Int, otherM k a x = if k = 5 ∨ k = 6 then (a + x) % 256 else a % 256 := fun k => rfl
  have hx : (word % 256 + x) % 256 = (a + x) % 256 := by omega
  by_cases hb : 28 < n
  · rw [nm_of_gt hb, show dataL n a x = none from by unfold dataL; rw [if_neg (by omega), if_neg (by omega)]]
    rfl
  · have hc : n = 0 ∨ n = 1 ∨ n = 2 ∨ n = 3 ∨ n = 4 ∨ n = 5 ∨ n = 6 ∨ n = 7 ∨ n = 8 ∨ n = 9 ∨ n = 10 ∨ n = 11 ∨ n = 12 ∨ n = 13 ∨ n = 14 ∨ n = 15 ∨ n = 16 ∨ n = 17 ∨ n = 18 ∨ n = 19 ∨ n = 20 ∨ n = 21 ∨ n = 22 ∨ n = 23 ∨ n = 24 ∨ n = 25 ∨ n = 26 ∨ n = 27 ∨ n = 28 := by omega
    unfold dataM dataL
    rw [hx, ha, e]
    rcases hc with rfl | rfl | rfl | rfl | rfl | rfl | rfl | rfl | rfl | rfl | rfl | rfl | rfl | rfl | rfl | rfl | rfl | rfl | rfl | rfl | rfl | rfl | rfl | rfl | rfl | rfl | rfl | rfl | rfl
    all_goals rfl
theorem step_sg {m word d : Int} {pc acc x out count : Int} {mem told : List Int} (n : Int) (h0 : 12 ≤ n) (h1 : n ≤ 22) (hd : d = MSt.at ⟨pc, acc, x, 0, out, count, mem, told⟩ (otherM n (word % 1024) x))
    (hs : nm n ∈ sgs ∧ ¬ nm n = "bad" ∧ ¬ nm n = "halt" ∧ ¬ nm n = "bound" ∧ ¬ nm n = "within" ∧ ¬ nm n = "tell" ∧ ¬ nm n = "lit" ∧ ¬ nm n ∈ (["load", "loadx"] : List Str) ∧ ¬ nm n = "not" ∧ xM (nm n) acc x (.int d) = .int x ∧ chM (nm n) pc acc = .non ∧ pcM (nm n) pc acc word d = (pc + 1) % 256) :
    doneM m (nm n) pc acc x 0 out count word d (.int d) = (regsL (MSt.workM m ⟨pc, acc, x, 0, out, count, mem, told⟩ n (word % 1024)).1 (MSt.workM m ⟨pc, acc, x, 0, out, count, mem, told⟩ n (word % 1024)).2, writL (MSt.workM m ⟨pc, acc, x, 0, out, count, mem, told⟩ n (word % 1024)).1 (dataL n (word % 1024) x)) := by
  obtain ⟨s1, s2, s3, s4, s5, s6, s7, s8, s9, sx, sc, sp⟩ := hs
  have hdl : dataL n (word % 1024) x = some (otherM n (word % 1024) x, false) := by unfold dataL; rw [if_neg (by omega), if_pos (by omega)]
  have hL : ∀ d, haltL n (word % 1024) acc x d = if (12 ≤ n ∧ n ≤ 22) ∧ opV (sgOf (nm n)) acc d = .non then 2 else 0 := fun d => by
    unfold haltL
    rw [if_neg (by omega), if_neg (by omega), if_neg (by omega), if_neg (by omega)]
  have hN : haltN (nm n) word acc x count d = if nm n ∈ sgs ∧ opV (sgOf (nm n)) acc d = .non then 2 else if nm n = "tell" ∧ count = 16 then 5 else 0 := by
    unfold haltN
    rw [if_neg s2, if_neg s3, if_neg (fun z => s4 z.1), if_neg (fun z => s5 z.1)]
  rcases opV_cases (sgOf (nm n)) acc d with h | ⟨z, h⟩
  · have hN' : haltN (nm n) word acc x count d = 2 := by rw [hN, h, if_pos ⟨s1, rfl⟩]
    have hL' : haltL n (word % 1024) acc x d = 2 := by rw [hL, h, if_pos ⟨⟨h0, h1⟩, rfl⟩]
    unfold doneM MSt.workM
    dsimp only
    rw [← hd, hL', hN', hdl]
    rfl
  · have hne : ¬ V.int z = V.non := fun y => nomatch y
    have hN' : haltN (nm n) word acc x count d = 0 := by rw [hN, h, if_neg (fun y => hne y.2), if_neg (fun y => s6 y.1)]
    have hL' : haltL n (word % 1024) acc x d = 0 := by rw [hL, h, if_neg (fun y => hne y.2)]
    have ea : accM (nm n) acc word d (.int d) = .int z := by
      unfold accM
      rw [if_neg s7, if_neg s8, if_neg s9, if_pos s1, h]
    have el : accL n (word % 1024) acc d = z := by
      unfold accL
      rw [if_pos ⟨h0, h1⟩, h]
      rfl
    have ex : xL n acc x d = x := by unfold xL; rw [if_neg (by omega), if_neg (by omega)]
    have ew : MSt.workS ⟨pc, acc, x, 0, out, count, mem, told⟩ n (word % 1024) = ⟨pc, z, x, 0, out, count, mem, told⟩ := by
      unfold MSt.workS
      dsimp only
      rw [← hd, el, ex, if_neg (by omega)]
    have em : MSt.moveM m ⟨pc, z, x, 0, out, count, mem, told⟩ n (word % 1024) = (⟨pc, z, x, 0, out, count, mem, told⟩, (pc + 1) % 256) := by
      unfold MSt.moveM
      rw [if_neg (by omega), if_neg (by omega), if_neg (by omega), if_neg (by omega), if_neg (by omega)]
    unfold doneM MSt.workM
    dsimp only
    rw [← hd, hL', hN', hdl, if_neg s6, if_neg s6, sx, sc, sp, ea, ew, em]
    rfl
theorem step_math {m n word d : Int} {s : MSt} {dv : V} (h0 : 0 ≤ n) (hl : s.mem.length = 256) (hd : d = s.at (otherM n (word % 1024) s.x)) (hdv : dataL n (word % 1024) s.x ≠ none → dv = .int d) (hm : s.mark = 0) :
    doneM m (nm n) s.pc s.acc s.x s.mark s.out s.count word d dv = (regsL (s.workM m n (word % 1024)).1 (s.workM m n (word % 1024)).2, writL (s.workM m n (word % 1024)).1 (dataL n (word % 1024) s.x)) := by
  have hwb : word % 256 = (word % 1024) % 256 := by omega
  have hO := other_in n (word % 1024) s.x
  have hpc : ∀ sn pc acc d, pcM sn pc acc word d = pcM sn pc acc (word % 1024) d := fun sn pc acc d => by unfold pcM; rw [hwb]
  obtain ⟨pc, acc, x, mark, out, count, mem, told⟩ := s
  have hm : mark = 0 := hm
  subst hm
  dsimp only at hO hdv hd ⊢
  have no1 : ∀ {a b : Str} {p : Prop}, decide (a = b) = false → ¬ (a = b ∧ p) := fun h z => absurd z.1 (of_decide_eq_false h)
  have no2 : ∀ {a b : Int} {p : Prop}, decide (a = b) = false → ¬ (a = b ∧ p) := fun h z => absurd z.1 (of_decide_eq_false h)
  by_cases hb : 28 < n
  · rw [nm_of_gt hb]
    have e1 : ∀ d, haltL n (word % 1024) acc x d = 6 := fun d => if_pos (.inr hb)
    have e2 : dataL n (word % 1024) x = none := by unfold dataL; rw [if_neg (by omega), if_neg (by omega)]
    unfold MSt.workM
    rw [e1, e2, if_neg (by decide)]
    rfl
  · have hc : n = 0 ∨ n = 1 ∨ n = 2 ∨ n = 3 ∨ n = 4 ∨ n = 5 ∨ n = 6 ∨ n = 7 ∨ n = 8 ∨ n = 9 ∨ n = 10 ∨ n = 11 ∨ n = 12 ∨ n = 13 ∨ n = 14 ∨ n = 15 ∨ n = 16 ∨ n = 17 ∨ n = 18 ∨ n = 19 ∨ n = 20 ∨ n = 21 ∨ n = 22 ∨ n = 23 ∨ n = 24 ∨ n = 25 ∨ n = 26 ∨ n = 27 ∨ n = 28 := by omega
    rcases hc with rfl | rfl | rfl | rfl | rfl | rfl | rfl | rfl | rfl | rfl | rfl | rfl | rfl | rfl | rfl | rfl | rfl | rfl | rfl | rfl | rfl | rfl | rfl | rfl | rfl | rfl | rfl | rfl | rfl
    all_goals try rw [hdv (by intro z; exact absurd z (Option.some_ne_none _))]
    all_goals try (exact step_sg _ (by decide) (by decide) hd ⟨by decide +kernel, by decide +kernel, by decide +kernel, by decide +kernel, by decide +kernel, by decide +kernel, by decide +kernel, by decide +kernel, by decide +kernel, rfl, rfl, rfl⟩)
    all_goals subst hd
    all_goals try rfl
    all_goals unfold doneM
    all_goals try rw [hpc]
    all_goals try rfl
    · show _ = (regsL _ _, V.int (MSt.at ⟨pc, acc, x, 0, out, count, mem.set (otherM 4 (word % 1024) x).toNat acc, told⟩ (otherM 4 (word % 1024) x)))
      rw [at_set (s := ⟨pc, acc, x, 0, out, count, mem, told⟩) hl hO.1 hO.2]
      rfl
    · show _ = (regsL _ _, V.int (MSt.at ⟨pc, acc, x, 0, out, count, mem.set (otherM 6 (word % 1024) x).toNat acc, told⟩ (otherM 6 (word % 1024) x)))
      rw [at_set (s := ⟨pc, acc, x, 0, out, count, mem, told⟩) hl hO.1 hO.2]
      rfl
    · generalize hd : MSt.at _ _ = d
      by_cases h : word % 1024 ≤ x
      · rw [show haltN (nm 9) word acc x count d = 3 from by unfold haltN; rw [if_neg (by decide +kernel), if_neg (by decide +kernel), if_pos ⟨rfl, h⟩]]
        have e' : ∀ d, haltL 9 (word % 1024) acc x d = 3 := fun d => by unfold haltL; rw [if_neg (by decide), if_neg (by decide), if_pos ⟨rfl, h⟩]
        unfold MSt.workM
        dsimp only
        rw [e']
        rfl
      · rw [show haltN (nm 9) word acc x count d = 0 from by unfold haltN; rw [if_neg (by decide +kernel), if_neg (by decide +kernel), if_neg (fun z => h z.2)]; rfl]
        have e' : ∀ d, haltL 9 (word % 1024) acc x d = 0 := fun d => by unfold haltL; rw [if_neg (by decide), if_neg (by decide), if_neg (fun z => h z.2)]; rfl
        unfold MSt.workM
        dsimp only
        rw [e']
        rfl
    · generalize hd : MSt.at _ _ = d
      by_cases h : d ≤ x
      · rw [show haltN (nm 10) word acc x count d = 4 from by unfold haltN; rw [if_neg (by decide +kernel), if_neg (by decide +kernel), if_neg (no1 (by decide +kernel)), if_pos ⟨rfl, h⟩]]
        have e' : haltL 10 (word % 1024) acc x d = 4 := by unfold haltL; rw [if_neg (by decide), if_neg (by decide), if_neg (no2 (by decide)), if_pos ⟨rfl, h⟩]
        unfold MSt.workM
        dsimp only
        rw [hd, e']
        rfl
      · rw [show haltN (nm 10) word acc x count d = 0 from by unfold haltN; rw [if_neg (by decide +kernel), if_neg (by decide +kernel), if_neg (no1 (by decide +kernel)), if_neg (fun z => h z.2)]; rfl]
        have e' : haltL 10 (word % 1024) acc x d = 0 := by unfold haltL; rw [if_neg (by decide), if_neg (by decide), if_neg (no2 (by decide)), if_neg (fun z => h z.2)]; rfl
        unfold MSt.workM
        dsimp only
        rw [hd, e']
        rfl
    · have ea : ∀ d dv, accM (nm 11) acc word d dv = .int (if acc = 0 then 1 else 0) := fun d dv => by
        show (if acc = 0 then V.int 1 else V.int 0) = _
        split <;> rfl
      rw [ea]
      rfl
    · by_cases h : acc = 0
      · subst h; rfl
      · have e1 : pcM (nm 24) pc acc (word % 1024) (MSt.at ⟨pc, acc, x, 0, out, count, mem, told⟩ (otherM 24 (word % 1024) x)) = (pc + 1) % 256 := by
          unfold pcM
          rw [if_neg (by rintro (z | z | z); exact absurd z (by decide +kernel); exact h z.2; exact absurd z.1 (by decide +kernel))]
          rfl
        have e2 : ∀ s' : MSt, s'.acc = acc → s'.pc = pc → MSt.moveM m s' 24 (word % 1024) = (s', (pc + 1) % 256) := fun s' z1 z2 => by
          unfold MSt.moveM
          rw [z1, z2, if_neg (by omega)]
          rfl
        have e3 : MSt.workM m ⟨pc, acc, x, 0, out, count, mem, told⟩ 24 (word % 1024) = (⟨pc, acc, x, 0, out, count, mem, told⟩, (pc + 1) % 256) := e2 _ rfl rfl
        rw [e1, e3]
        rfl
    · by_cases h : acc = 0
      · subst h; rfl
      · have e1 : pcM (nm 25) pc acc (word % 1024) (MSt.at ⟨pc, acc, x, 0, out, count, mem, told⟩ (otherM 25 (word % 1024) x)) = (word % 1024) % 256 := by
          unfold pcM
          rw [if_pos (.inr (.inr ⟨rfl, h⟩))]
        have e2 : ∀ s' : MSt, s'.acc = acc → MSt.moveM m s' 25 (word % 1024) = (s', (word % 1024) % 256) := fun s' z1 => by
          unfold MSt.moveM
          rw [z1, if_pos (by omega)]
        have e3 : MSt.workM m ⟨pc, acc, x, 0, out, count, mem, told⟩ 25 (word % 1024) = (⟨pc, acc, x, 0, out, count, mem, told⟩, (word % 1024) % 256) := e2 _ rfl
        rw [e1, e3]
        rfl
    · show _ = (regsL _ _, V.int (MSt.at ⟨pc, acc, x, 0, out, count, mem.set (otherM 26 (word % 1024) x).toNat ((pc + 1) % 256), told⟩ (otherM 26 (word % 1024) x)))
      rw [at_set (s := ⟨pc, acc, x, 0, out, count, mem, told⟩) hl hO.1 hO.2]
      rfl
    · by_cases h : count = 16
      · subst h; rfl
      · have e1 : ∀ d, haltN (nm 28) word acc x count d = 0 := fun d => by
          unfold haltN
          rw [if_neg (by decide +kernel), if_neg (by decide +kernel), if_neg (no1 (by decide +kernel)), if_neg (no1 (by decide +kernel)), if_neg (fun z => absurd z.1 (by decide +kernel)), if_neg (fun z => h z.2)]
        have e3 : MSt.workM m ⟨pc, acc, x, 0, out, count, mem, told⟩ 28 (word % 1024) = (⟨pc, acc, x, 0, foldI m out (leafI m acc), count + 1, mem, told ++ [acc]⟩, (pc + 1) % 256) := by
          show MSt.moveM m ⟨pc, acc, x, 0, out, count, mem, told⟩ 28 (word % 1024) = _
          unfold MSt.moveM
          rw [if_neg (by omega), if_neg (by omega), if_neg (by omega), if_neg (fun z => h z.2), if_pos rfl]
        rw [e1, e3]
        rfl
def sp_law_right (C : Addr) : Sp := fun vs H Q _ => ∃ (p g : Addr) (m : Int), vs = [.ref p, .ref g, .int m] ∧ Bag5 H p ∧ DigN C H g m ∧ 100 < m ∧ m < 2 ^ 62 ∧ ∀ H', Kit.ExBut p H H' → Bag5 H' p → Q (.bl true) H'

/-! ### one draw of the law -/
theorem w_neSame {K : PySem.W.Frag} {x y : V} {d : PyData} {H : Hp} {Q : VK} (hx : Dp K H x d) (hy : Dp K H y d) (s : SeqAt.shaped d = true) (c : d.canLay0 = true) (q : Q (.bl false) H) : rNeD K x y H Q := Kit.w_neD hx hy s s (by rw [SeqAt.eqv_refl _ c]; exact q)
theorem w_eqSame {K : PySem.W.Frag} {x y : V} {d : PyData} {H : Hp} {Q : VK} (hx : Dp K H x d) (hy : Dp K H y d) (s : SeqAt.shaped d = true) (c : d.canLay0 = true) (q : Q (.bl true) H) : rEqD K x y H Q := Kit.w_eqD hx hy s s (by rw [SeqAt.eqv_refl _ c]; exact q)
def dataD : Option (Int × Bool) → PyData
  | none => .none
  | some (p, b) => .tuple [.int p, .bool b]
theorem VData.dp {K : PySem.W.Frag} {H : Hp} {o : Option (Int × Bool)} {v : V} (h : VData H o v) : Dp K H v (dataD o) := by
  match o, h with
  | none, h => cases h; exact .non
  | some (p, b), ⟨t, e, f⟩ =>
    subst e
    exact .tup (Evl.st_of f) (.cons (.int _) (.cons (.bl _) .nil))
theorem VData.sh (o : Option (Int × Bool)) : SeqAt.shaped (dataD o) = true := by
  cases o <;> rfl
theorem VData.cl (o : Option (Int × Bool)) : (dataD o).canLay0 = true := by
  cases o <;> rfl
theorem Bag5.tup {K : PySem.W.Frag} {p a : Addr} {xs : List V} {H H' : Hp} (m : Kit.ExBut p H H') (b : Bag5 H p) (h : SqT K H a xs) : SqT K H' a xs := let ⟨_, _, _, _, _, h1, _⟩ := b; tup_stay m h1 (fun _ z => nomatch z) (fun _ _ z => nomatch z) h
theorem DigN.bag {C g p : Addr} {m : Int} {H H' : Hp} (e : Kit.ExBut p H H') (b : Bag5 H p) (h : DigN C H g m) : DigN C H' g m := h.but e (by
  rintro rfl
  obtain ⟨_, _, _, _, _, h1, _⟩ := b
  obtain ⟨_, _, h2⟩ := h.at_
  rw [h1] at h2
  cases h2)
theorem VData.ex {H H' : Hp} (e : Evl.Ex H H') {o : Option (Int × Bool)} {v : V} (h : VData H o v) : VData H' o v := by
  match o, h with
  | none, h => exact h
  | some (p, b), ⟨t, h1, h2⟩ => exact ⟨t, h1, e _ _ h2⟩
theorem VData.ex2 {K : PySem.W.Frag} {H H' : Hp} {p q ta : Addr} {s : MSt} (m : Ex2 p q H H') (st : StAt K H p q ta s) {o : Option (Int × Bool)} {v : V} (h : VData H o v) : VData H' o v := by
  match o, h with
  | none, h => exact h
  | some (k, b), ⟨t, h1, h2⟩ => exact ⟨t, h1, m _ _ (by rintro rfl; rw [st.at_] at h2; cases h2) (by rintro rfl; rw [st.mem] at h2; cases h2) h2⟩
theorem dataM_none {s : Str} {word x : Int} (h : dataM s word x = none) : ¬ (s = "back" ∨ s = "within" ∨ s ∈ sgs) := by
  intro z
  unfold dataM at h
  rw [if_pos (by
    rcases z with rfl | rfl | z
    · exact .inl (by decide +kernel)
    · exact .inl (by decide +kernel)
    · exact .inr z)] at h
  cases h
theorem regs_dp {K : PySem.W.Frag} {H : Hp} {t : Addr} {s : MSt} {r : Int} (h : H t = some (.tup (regsL s r))) : Dp K H (.ref t) (.tuple [.int r, .int s.acc, .int s.x, .int s.mark, .int s.out, .int s.count]) :=
  .tup (Evl.st_of h) (.cons (.int _) (.cons (.int _) (.cons (.int _) (.cons (.int _) (.cons (.int _) (.cons (.int _) .nil))))))
def pairD (s : MSt) (r : Int) (w : V) : PyData := .tuple [.tuple [.int r, .int s.acc, .int s.x, .int s.mark, .int s.out, .int s.count], Kit.flatD w]
theorem pair_dp {K : PySem.W.Frag} {H : Hp} {t u : Addr} {s : MSt} {r : Int} {w : V} (h : H t = some (.tup (regsL s r))) (h2 : H u = some (.tup [.ref t, w])) (hw : Kit.isFl w = true) : Dp K H (.ref u) (pairD s r w) :=
  .tup (Evl.st_of h2) (.cons (regs_dp h) (.cons (Kit.dp_flat hw) .nil))
theorem pair_sh (s : MSt) (r : Int) (w : V) (h : w = .non ∨ ∃ i, w = .int i) : SeqAt.shaped (pairD s r w) = true ∧ (pairD s r w).canLay0 = true := by
  rcases h with rfl | ⟨i, rfl⟩ <;> exact ⟨rfl, rfl⟩
theorem dataL_in {n a x k : Int} {b : Bool} (h : dataL n a x = some (k, b)) : 0 ≤ k ∧ k < 256 := by
  unfold dataL at h
  have := other_in n a x
  split at h
  · injection h with h; injection h with h _; omega
  · split at h
    · injection h with h; injection h with h _; omega
    · cases h
theorem ok_law_right (T : Txt K mg) : FnOk P w K mg base CX0 5 T.f_law_right.f T.f_law_right.fd ["bag", "digests", "m"] (sp_law_right T.c_Digests.C) := by
  have G_law_data := ok_law_data (P := P) (w := w) (base := base) T
  have G_law_draw := ok_law_draw (P := P) (w := w) (base := base) T
  have G_law_model := ok_law_model (P := P) (w := w) (base := base) T
  have G_law_registers := ok_law_registers (P := P) (w := w) (base := base) T
  have G_law_start := ok_law_start (P := P) (w := w) (base := base) T
  have G_law_word := ok_law_word (P := P) (w := w) (base := base) T
  have G_law_worked := ok_law_worked (P := P) (w := w) (base := base) T
  have G_data_of := ok_data_of (P := P) (w := w) (base := base) T
  have G_done_by := ok_done_by (P := P) (w := w) (base := base) T
  refine T.f_law_right.F.ok sc_law_right (fun vs H Q E h => ?_) (fun cdv A outer s H vs Q E hr h => ?_)
  · obtain ⟨p, g, m, rfl, hb, hd, m0, m1, q⟩ := h
    rfl
  obtain ⟨p, g, m, rfl, hb, hd, m0, m1, q⟩ := h
  have nd := sc_law_right.nd
  have hu := hu_of hr
  have hr1 : Room 1 _ := hr.mono (by decide)
  have hr2 : Room 2 _ := hr.mono (by decide)
  have hr3 : Room 3 _ := hr.mono (by decide)
  have hr4 : Room 4 _ := hr.mono (by decide)
  refine Kit.ok_body (σ := [some _, some _, some _, none, none, none, none, none, none, none]) ((pss_cons (ps_set (i := 3) nd rfl (Or.inl rfl) (pe_call G_law_start hr2 (by rfl) T.f_law_start.g T.f_law_start.F.kp T.f_law_start.b .nil pass0 (pa_cons (pv 0) (pa_cons (pv 2) pa_nil))))
    (pss_cons (ps_set (i := 3) nd rfl (Or.inl rfl) (pe_op (Kit.kCat K) (pe_op (Kit.kCat K) (pe_slice (Kit.kSlT K) (pv 3) po_none (po_some pe_int)) (pe_tup (pa_cons pe_int pa_nil))) (pe_slice (Kit.kSlT K) (pv 3) (po_some pe_int) po_none)))
    (pss_cons (ps_set (i := 4) nd rfl (Or.inl rfl) (pe_ix (Kit.ixL K) (pe_lst (pa_cons (pe_call G_law_word hr2 (by rfl) T.f_law_word.g T.f_law_word.F.kp T.f_law_word.b .nil pass0 (pa_cons (pv 0) pa_nil)) (pa_cons (pe_call G_law_word hr2 (by rfl) T.f_law_word.g T.f_law_word.F.kp T.f_law_word.b .nil pass0 (pa_cons (pv 0) pa_nil)) (pa_cons (pe_call G_law_draw hr1 (by rfl) T.f_law_draw.g T.f_law_draw.F.kp T.f_law_draw.b .nil pass0 (pa_cons (pv 0) (pa_cons pe_int pa_nil))) pa_nil)))) (pe_call G_law_draw hr1 (by rfl) T.f_law_draw.g T.f_law_draw.F.kp T.f_law_draw.b .nil pass0 (pa_cons (pv 0) (pa_cons pe_int pa_nil))) (fun _ _ => rfl)))
    (pss_cons (ps_set (i := 5) nd rfl (Or.inr rfl) (pe_ix (Kit.ixL K) (pe_lst (pa_cons pe_int (pa_cons pe_int (pa_cons pe_int (pa_cons pe_int (pa_cons (pe_call G_law_draw hr1 (by rfl) T.f_law_draw.g T.f_law_draw.F.kp T.f_law_draw.b .nil pass0 (pa_cons (pv 0) (pa_cons pe_int pa_nil))) pa_nil)))))) (pe_call G_law_draw hr1 (by rfl) T.f_law_draw.g T.f_law_draw.F.kp T.f_law_draw.b .nil pass0 (pa_cons (pv 0) (pa_cons pe_int pa_nil))) (fun _ _ => rfl)))
    (pss_cons (ps_set (i := 6) nd rfl (Or.inl rfl) (pe_call G_law_model hr1 (by rfl) T.f_law_model.g T.f_law_model.F.kp T.f_law_model.b .nil pass0 (pa_cons (pv 3) (pa_cons (pe_lc (own := [("k", 9)]) (g := gName 9) (tt := tYes) (by rfl) nd (pi_range1 (by rfl) T.z_range (pa_cons pe_int pa_nil)) (blkOk_by (own := [("k", 9)]) (N := N_law_right) (sc := defScope s_law_right) (by decide +kernel)) (fun _ _ _ _ _ => pg_name (i := 9) nd rfl (Or.inl rfl)) (fun _ _ _ _ _ => pts_nil) (fun _ _ _ _ _ => (pv 5))) pa_nil))))
    (pss_cons (ps_set (i := 7) nd rfl (Or.inl rfl) (pe_call G_law_data hr2 (by rfl) T.f_law_data.g T.f_law_data.F.kp T.f_law_data.b .nil pass0 (pa_cons (pv 6) (pa_cons (pv 4) pa_nil))))
    (pss_cons (ps_if (pt_cmpR (Kit.kNeD K hr.units) (pe_call G_data_of hr2 (by rfl) T.f_data_of.g T.f_data_of.F.kp T.f_data_of.b .nil pass0 (pa_cons (pv 3) (pa_cons (pv 4) pa_nil))) (pv 7) (nomark _))
    (pss_one (ps_ret pe_bl))
    pss_nil)
    (pss_cons (ps_dput hu (pv 6) pe_str (pe_call G_law_worked hr3 (by rfl) T.f_law_worked.g T.f_law_worked.F.kp T.f_law_worked.b .nil pass0 (pa_cons (pv 2) (pa_cons (pv 6) (pa_cons (pe_op op_fdiv (pv 4) pe_int) (pa_cons (pe_op op_mod (pe_callTy Kit.k_int (by rfl) T.z_int (by decide +kernel) (pa_cons (pv 4) pa_nil)) pe_int) pa_nil))))) rfl)
    (pss_cons (ps_set (i := 8) nd rfl (Or.inl rfl) pe_non)
    (pss_cons (ps_if (PW.pt (pw_and (pt_cmpR Kit.k_notN (pv 7) pe_non (nomark _)) (pw_and1 (pt_val (pe_ix (Kit.ixT K) (pv 7) pe_int (fun _ _ => rfl))))))
    (pss_one (ps_set (i := 8) nd rfl (Or.inl rfl) (pe_ix (Kit.ixL K) (pe_dget hu (pv 6) pe_str (fun _ _ => rfl)) (pe_ix (Kit.ixT K) (pv 7) pe_int (fun _ _ => rfl)) (fun _ _ => rfl))))
    pss_nil)
    (pss_cons (ps_if (pt_cmpR (Kit.kNeD K hr.units) (pe_call G_done_by hr4 (by rfl) T.f_done_by.g T.f_done_by.F.kp T.f_done_by.b .nil pass0 (pa_cons (pv 1) (pa_cons (pv 3) (pa_cons (pv 4) (pa_cons (pv 5) pa_nil))))) (pe_tup (pa_cons (pe_call G_law_registers hr1 (by rfl) T.f_law_registers.g T.f_law_registers.F.kp T.f_law_registers.b .nil pass0 (pa_cons (pv 6) pa_nil)) (pa_cons (pv 8) pa_nil))) (nomark _))
    (pss_one (ps_ret pe_bl))
    pss_nil)
    (pss_cons (ps_if (pt_cmpR Kit.k_isN (pv 7) pe_non (nomark _))
    (pss_one (ps_ret (pe_cmpR (Kit.kEqD K hr.units) (pe_call G_done_by hr4 (by rfl) T.f_done_by.g T.f_done_by.F.kp T.f_done_by.b .nil pass0 (pa_cons (pv 1) (pa_cons (pv 3) (pa_cons (pv 4) (pa_cons pe_non pa_nil))))) (pe_tup (pa_cons (pe_call G_law_registers hr1 (by rfl) T.f_law_registers.g T.f_law_registers.F.kp T.f_law_registers.b .nil pass0 (pa_cons (pv 6) pa_nil)) (pa_cons pe_non pa_nil))) (nomark _))))
    pss_nil)
    (pss_one (ps_ret pe_bl))))))))))))))) rfl ?_
  try dsimp only [L2.cxOf, L2.Cx.nox]
  have hgp : g ≠ p := by
    rintro rfl
    obtain ⟨_, _, _, _, _, h1, _⟩ := hb
    obtain ⟨_, _, h2⟩ := hd.at_
    rw [h1] at h2
    cases h2
  walk_at "wp"
  refine ⟨p, m, rfl, hb, m0, m1, fun t pc acc x mark out count H1 ok n1 b1 bag1 f1 => ?_⟩
  walk_at "wp"
  rename_i r1 Ha ea ra r2 Hb nb eb fb r3 Hc ec rc r4 Hd ed rd r5 He ee re w1 Hf iw1 mf bf w2 Hg iw2 mg bg w3 Hh i3 i4 mh bh pl Hi ni ei fi iv0 Hj j0 j1 mj bj
  refine w_pick [w1, w2, w3] (by walk_at "hpB") rfl j0 j1 fun word hword => ?_
  walk_at "wp"
  rename_i w4 Hk i5 i6 mk bk pd Hl nl el fl iv1 Hm j2 j3 mm bm
  refine w_pick [0, 1, 16, 65535, w4] (by walk_at "hpB") rfl j2 j3 fun data hdata => ?_
  have hW : IsW word := by
    obtain ⟨a1, a2⟩ := iw1
    obtain ⟨a3, a4⟩ := iw2
    simp only [List.mem_cons, List.not_mem_nil, or_false] at hword
    exact ⟨by omega, by omega⟩
  have hD : IsW data := by
    simp only [List.mem_cons, List.not_mem_nil, or_false] at hdata
    exact ⟨by omega, by omega⟩
  have re : SqT K He r5 [.int pc, .int acc, .int x, .int 0, .int out, .int count] := re
  have B1 : Bag5 He p := by walk_at "bag"
  have rm : SqT K Hm r5 [.int pc, .int acc, .int x, .int 0, .int out, .int count] := Bag5.tup (show Kit.ExBut p He Hm from by walk_at "but") B1 re
  have dm : DigN T.c_Digests.C Hm g m := DigN.bag (show Kit.ExBut p H Hm from by walk_at "but") hb hd
  have BM : Kit.ExBut p H Hm := by walk_at "but"
  clear mf mg mh mj mk mm ea eb ec ed ee ei el
  walk_at "wp"
  refine Kit.l_rng1 (by decide) (by decide) (fun _ => rfl) (fun _ => V.int data) ?_ ?_
  · intro i H4 hi e4 R rr
    walk_at "wp"
    exact rr _ (Evl.Ex.refl _)
  intro wl Hn nn en fn
  have hds : ((List.range (256 : Int).toNat).map fun _ => V.int data) = (List.replicate 256 data).map V.int := by
    show ((List.range 256).map fun _ => V.int data) = _
    rw [List.map_replicate]
    apply List.ext_getElem?
    intro i
    by_cases hi : i < 256
    · rw [List.getElem?_map, List.getElem?_range hi, List.getElem?_replicate, if_pos hi]
      rfl
    · rw [List.getElem?_eq_none (by rw [List.length_map, List.length_range]; omega), List.getElem?_eq_none (by rw [List.length_replicate]; omega)]
  rw [hds] at fn
  walk_at "wp"
  refine ⟨r5, wl, pc, acc, x, 0, out, count, List.replicate 256 data, rfl, Evl.ex_t en rm, .inl (Evl.sq_of fn), List.length_replicate, fun ps wa ta Ho np nwa eo st => ?_⟩
  walk_at "wp"
  generalize hs : (⟨pc, acc, x, 0, out, count, List.replicate 256 data, []⟩ : MSt) = s at st
  have hat : ∀ k, 0 ≤ k → k < 256 → s.at k = data := fun k h0 h1 => by
    subst hs
    show ((List.replicate 256 data)[k.toNat]?).getD 0 = data
    rw [List.getElem?_replicate, if_pos (by omega)]
    rfl
  have hatW : ∀ k, IsW (s.at k) := fun k => by
    subst hs
    show IsW (((List.replicate 256 data)[k.toNat]?).getD 0)
    rw [List.getElem?_replicate]
    split
    · exact hD
    · exact ⟨by decide, by decide⟩
  refine ⟨ps, wa, ta, s, word, rfl, st, fun v Hp2 ep hv => ?_⟩
  walk_at "wp"
  have er : Evl.Ex Hm Hp2 := (en.trans eo).trans ep
  refine ⟨r5, word, pc, acc, x, 0, out, count, rfl, Evl.ex_t er rm, hW.1, hW.2, fun v2 Hq eq hv2 => ?_⟩
  have hx : s.x = x := by subst hs; rfl
  rw [data_math (a := word % 1024) (by have := hW.1; omega) (by omega)] at hv2
  rw [hx] at hv
  generalize hod : dataL (word / 1024) (word % 1024) x = od at hv hv2
  walk_at "wp"
  refine w_neSame hv2.dp ((hv.ex eq).dp) (VData.sh od) (VData.cl od) ?_
  walk_at "wp"
  have hI : nm (word / 1024) = "back" ∨ nm (word / 1024) = "within" ∨ nm (word / 1024) ∈ sgs → V.int data = .int data ∧ 0 ≤ data ∧ data < 65536 := fun _ => ⟨rfl, hD.1, hD.2⟩
  have hn0 : 0 ≤ word / 1024 := by have := hW.1; omega
  have hnone : od = none → ¬ (nm (word / 1024) = "back" ∨ nm (word / 1024) = "within" ∨ nm (word / 1024) ∈ sgs) := fun h => dataM_none (word := word) (x := x) (by rw [data_math (a := word % 1024) hn0 (by omega), hod, h])
  have hoth := other_in (word / 1024) (word % 1024) x
  have hstep : ∀ dv, (od ≠ none → dv = .int data) → doneM m (nm (word / 1024)) pc acc x 0 out count word data dv = (regsL (s.workM m (word / 1024) (word % 1024)).1 (s.workM m (word / 1024) (word % 1024)).2, writL (s.workM m (word / 1024) (word % 1024)).1 od) := fun dv hdv => by
    have hz := hat _ hoth.1 hoth.2
    subst hs
    rw [← hod]
    exact step_math (s := ⟨pc, acc, x, 0, out, count, List.replicate 256 data, []⟩) hn0 (by exact List.length_replicate) hz.symm (fun z => hdv (by rw [← hod]; exact z)) rfl
  refine use_worked ((st.ex ep).ex eq) (by subst hs; exact ok.out) m1 (by subst hs; exact Nat.zero_le _) hn0 (by subst hs; exact ok.acc) hatW fun ta' Hr e2 st2 => ?_
  generalize hw2 : s.workM m (word / 1024) (word % 1024) = sr at *
  obtain ⟨s2, r⟩ := sr
  walk_at "wp"
  rename_i Hs ms st3
  have E2 : Ex2 ps wa Hq Hs := by walk_at "e2"
  have hv3 : VData Hs od v := (hv.ex eq).ex2 E2 ((st.ex ep).ex eq)
  have eS : Evl.Ex Hn Hs := E2.ex np nwa ((eo.trans ep).trans eq)
  have dS : DigN T.c_Digests.C Hs g m := (dm.ex en).ex eS
  have rS : SqT K Hs r5 [.int pc, .int acc, .int x, .int 0, .int out, .int count] := Evl.ex_t (en.trans eS) rm
  have bS : Bag5 Hs p := bm.ex (en.trans eS)
  have bE : Kit.ExBut p H Hs := BM.trans (.of (en.trans eS))
  clear ms E2 e2 eo ep eq er en eS
  have hpair : ∀ w, (w = V.non ∨ ∃ i, w = V.int i) → Kit.isFl w = true := fun w h => by rcases h with rfl | ⟨i, rfl⟩ <;> rfl
  rcases od with _ | ⟨k, b⟩
  · cases hv3
    have hwn : V.non = V.non ∨ ∃ i, V.non = V.int i := .inl rfl
    walk_at "wp"
    refine ⟨g, r5, m, pc, acc, x, 0, out, count, word, data, .int data, rfl, dS, rS, hW.1, hW.2, ok.acc.1, ok.acc.2, ok.out, hI, fun t1 t2 Ht et g1 g2 => ?_⟩
    rw [hstep _ (fun _ => rfl)] at g1 g2
    walk_at "wp"
    refine ⟨ps, wa, ta', _, rfl, st3.ex et, fun t3 Hu nu eu g3 => ?_⟩
    walk_at "wp"
    rename_i t4 Hv n4 e4 g4
    refine w_neSame (pair_dp (w := .non) (e4 _ _ (eu _ _ g1)) (e4 _ _ (eu _ _ g2)) rfl) (pair_dp (s := s2) (r := r) (e4 _ _ g3) g4 rfl) (pair_sh _ _ _ hwn).1 (pair_sh _ _ _ hwn).2 ?_
    walk_at "wp"
    have eV : Evl.Ex Hs Hv := (et.trans eu).trans e4
    refine ⟨g, r5, m, pc, acc, x, 0, out, count, word, data, .non, rfl, dS.ex eV, Evl.ex_t eV rS, hW.1, hW.2, ok.acc.1, ok.acc.2, ok.out, fun z => (hnone rfl z).elim, fun t5 t6 Hx ex g5 g6 => ?_⟩
    rw [hstep _ (fun z => (z rfl).elim)] at g5 g6
    walk_at "wp"
    refine ⟨ps, wa, ta', _, rfl, st3.ex (eV.trans ex), fun t7 Hy ny ey g7 => ?_⟩
    walk_at "wp"
    rename_i t8 Hz n8 e8 g8
    refine w_eqSame (pair_dp (w := .non) (e8 _ _ (ey _ _ g5)) (e8 _ _ (ey _ _ g6)) rfl) (pair_dp (s := s2) (r := r) (e8 _ _ g7) g8 rfl) (pair_sh _ _ _ hwn).1 (pair_sh _ _ _ hwn).2 ?_
    have eZ : Evl.Ex Hs Hz := ((eV.trans ex).trans ey).trans e8
    exact q _ (bE.trans (.of eZ)) (bS.ex eZ)
  · obtain ⟨t9, rfl, f9⟩ := hv3
    obtain ⟨hk0, hk1⟩ := dataL_in hod
    cases b
    · have hwn : V.non = V.non ∨ ∃ i, V.non = V.int i := .inl rfl
      walk_at "wp"
      refine ⟨g, r5, m, pc, acc, x, 0, out, count, word, data, .int data, rfl, dS, rS, hW.1, hW.2, ok.acc.1, ok.acc.2, ok.out, hI, fun t1 t2 Ht et g1 g2 => ?_⟩
      rw [hstep _ (fun _ => rfl)] at g1 g2
      walk_at "wp"
      refine ⟨ps, wa, ta', _, rfl, st3.ex et, fun t3 Hu nu eu g3 => ?_⟩
      walk_at "wp"
      rename_i t4 Hv n4 e4 g4
      refine w_neSame (pair_dp (w := .non) (e4 _ _ (eu _ _ g1)) (e4 _ _ (eu _ _ g2)) rfl) (pair_dp (s := s2) (r := r) (e4 _ _ g3) g4 rfl) (pair_sh _ _ _ hwn).1 (pair_sh _ _ _ hwn).2 ?_
      walk_at "wp"
      have eV : Evl.Ex Hs Hv := (et.trans eu).trans e4
      exact q _ (bE.trans (.of eV)) (bS.ex eV)
    · have hwn : V.int (s2.at k) = V.non ∨ ∃ i, V.int (s2.at k) = V.int i := .inr ⟨_, rfl⟩
      walk_at "wp"
      refine ⟨g, r5, m, pc, acc, x, 0, out, count, word, data, .int data, rfl, dS, rS, hW.1, hW.2, ok.acc.1, ok.acc.2, ok.out, hI, fun t1 t2 Ht et g1 g2 => ?_⟩
      rw [hstep _ (fun _ => rfl)] at g1 g2
      walk_at "wp"
      refine ⟨ps, wa, ta', _, rfl, st3.ex et, fun t3 Hu nu eu g3 => ?_⟩
      walk_at "wp"
      rename_i t4 Hv n4 e4 g4
      refine w_neSame (pair_dp (w := .int (s2.at k)) (e4 _ _ (eu _ _ g1)) (e4 _ _ (eu _ _ g2)) rfl) (pair_dp (s := s2) (r := r) (e4 _ _ g3) g4 rfl) (pair_sh _ _ _ hwn).1 (pair_sh _ _ _ hwn).2 ?_
      walk_at "wp"
      have eV : Evl.Ex Hs Hv := (et.trans eu).trans e4
      exact q _ (bE.trans (.of eV)) (bS.ex eV)
theorem use_right {C p g : Addr} {m : Int} {H : Hp} {Q : VK} {E : XK} (hb : Bag5 H p) (hd : DigN C H g m) (h0 : 100 < m) (h1 : m < 2 ^ 62) (q : ∀ H', Kit.ExBut p H H' → Bag5 H' p → Q (.bl true) H') : sp_law_right C [.ref p, .ref g, .int m] H Q E := ⟨p, g, m, rfl, hb, hd, h0, h1, q⟩

/-! ### a drawn size of digests -/
theorem flat_ints : ∀ ss : List Int, (ss.map V.int).all flatV = true
  | [] => rfl
  | _ :: ss => by rw [List.map_cons, List.all_cons, flat_ints ss]; rfl
theorem w_indexI {K : PySem.W.Frag} {p : Addr} {H : Hp} {Q : VK} {ss : List Int} {j : Nat} {z : Int} (h : SqL K H p (ss.map V.int)) (hz : ss[j]? = some z) (hlt : ∀ m, m < j → ss[m]? ≠ some z) (q : Q (.int (j : Int)) H) : rIndex K (.ref p) [.int z] H Q := by
  refine ⟨p, ss.map V.int, .int z, j, .int z, rfl, rfl, h, rfl, flat_ints ss, by rw [List.getElem?_map, hz]; rfl, by show (z == z) = true; exact beq_self_eq_true z, fun m z' hm e => ?_, q⟩
  rw [List.getElem?_map] at e
  cases ht : ss[m]? with
  | none => rw [ht] at e; cases e
  | some t =>
    rw [ht] at e
    cases e
    show (t == z) = false
    exact beq_eq_false_iff_ne.mpr fun c => hlt m hm (by rw [ht, c])
def msV : List V := [.int (2 ^ (61 : Int).toNat - 1), .int (2 ^ (31 : Int).toNat - 1), .int (2 ^ (13 : Int).toNat - 1), .int (2 ^ (7 : Int).toNat - 1)]
def bits4 : List Int := [61, 31, 13, 7]
theorem bits_ix {z : Int} (h : z ∈ bits4) : IsBits z ∧ ∃ j : Nat, bits4[j]? = some z ∧ (∀ m : Nat, m < j → bits4[m]? ≠ some z) ∧ atI msV (j : Int) = some (.int (2 ^ z.toNat - 1)) := by
  have hd : ∀ j : Fin 4, ∀ m : Fin 4, m.1 < j.1 → bits4[m.1]? ≠ bits4[j.1]? := by decide
  have go : ∀ j : Fin 4, ∀ m, m < j.1 → bits4[m]? ≠ bits4[j.1]? := fun j m hm => hd j ⟨m, by omega⟩ hm
  simp only [bits4, List.mem_cons, List.not_mem_nil, or_false] at h
  rcases h with rfl | rfl | rfl | rfl
  · exact ⟨.b61, 0, rfl, go 0, L2.atI_nat (j := 0) rfl⟩
  · exact ⟨.b31, 1, rfl, go 1, L2.atI_nat (j := 1) rfl⟩
  · exact ⟨.b13, 2, rfl, go 2, L2.atI_nat (j := 2) rfl⟩
  · exact ⟨.b7, 3, rfl, go 3, L2.atI_nat (j := 3) rfl⟩
theorem IsBits.m100 {b : Int} (h : IsBits b) : 100 < 2 ^ b.toNat - (1 : Int) := by cases h <;> decide
def sp_law (K : PySem.W.Frag) : Sp := fun vs H Q _ => ∃ (a : Addr) (ns : List Int), vs = [.ref a] ∧ SqL K H a (ns.map V.int) ∧ ns.length ≤ 63 ∧ ∀ H', Q (.bl true) H'
theorem sp_law_of {K : PySem.W.Frag} {H : Hp} {a : Addr} {ns : List Int} (hl : ns.length ≤ 63) (hS : SqL K H a (ns.map V.int)) : sp_law K [.ref a] H (fun v _ => v = .bl true) fun _ _ _ => False := ⟨a, ns, rfl, hS, hl, fun _ => rfl⟩

theorem ok_law (T : Txt K mg) : FnOk P w K mg base CX0 6 T.f_law.f T.f_law.fd ["script"] (sp_law K) := by
  have G_Digests___init := ok_Digests___init (P := P) (w := w) (base := base) T
  have G_law_bag := ok_law_bag (P := P) (w := w) (base := base) T
  have G_law_draw := ok_law_draw (P := P) (w := w) (base := base) T
  have G_law_right := ok_law_right (P := P) (w := w) (base := base) T
  refine T.f_law.F.ok sc_law (fun vs H Q E h => ?_) (fun cdv A outer s H vs Q E hr h => ?_)
  · obtain ⟨a, ns, rfl, hS, hns, q⟩ := h
    rfl
  obtain ⟨a, ns, rfl, hS, hns, q⟩ := h
  have nd := sc_law.nd
  have hr1 : Room 1 _ := hr.mono (by decide)
  have hr2 : Room 2 _ := hr.mono (by decide)
  have hr5 : Room 5 _ := hr.mono (by decide)
  refine Kit.ok_body (σ := [some _, none, none, none, none, none]) ((pss_cons (ps_set (i := 1) nd rfl (Or.inl rfl) (pe_call G_law_bag hr1 (by rfl) T.f_law_bag.g T.f_law_bag.F.kp T.f_law_bag.b .nil pass0 (pa_cons (pv 0) pa_nil)))
    (pss_cons (ps_set (i := 2) nd rfl (Or.inl rfl) (pe_ix (Kit.ixL K) (pe_lst (pa_cons pe_int (pa_cons pe_int (pa_cons pe_int (pa_cons pe_int pa_nil))))) (pe_call G_law_draw hr1 (by rfl) T.f_law_draw.g T.f_law_draw.F.kp T.f_law_draw.b .nil pass0 (pa_cons (pv 1) (pa_cons pe_int pa_nil))) (fun _ _ => rfl)))
    (pss_cons (ps_set (i := 3) nd rfl (Or.inl rfl) (pe_ix (Kit.ixL K) (pe_lst (pa_cons (pe_op op_sub (pe_op op_pow pe_int pe_int) pe_int) (pa_cons (pe_op op_sub (pe_op op_pow pe_int pe_int) pe_int) (pa_cons (pe_op op_sub (pe_op op_pow pe_int pe_int) pe_int) (pa_cons (pe_op op_sub (pe_op op_pow pe_int pe_int) pe_int) pa_nil))))) (pe_bm PySem.F.plainAttrs_list PySem.F.slot_list_index PySem.F.type_list_index (kIndexL K) (pe_lst (pa_cons pe_int (pa_cons pe_int (pa_cons pe_int (pa_cons pe_int pa_nil))))) (pa_cons (pv 2) pa_nil)) (fun _ _ => rfl)))
    (pss_cons (ps_set (i := 4) nd rfl (Or.inl rfl) (pe_make T.c_Digests.M G_Digests___init hr2 (by rfl) T.c_Digests.g T.f_Digests___init.b .nil pass0 (pa_cons (pv 2) (pa_cons pe_non pa_nil))))
    (pss_cons (ps_for PassesOwn.never rfl (pi_range1 (by rfl) T.z_range (pa_cons (pe_op op_add pe_int (pe_call G_law_draw hr1 (by rfl) T.f_law_draw.g T.f_law_draw.F.kp T.f_law_draw.b .nil pass0 (pa_cons (pv 1) (pa_cons pe_int pa_nil)))) pa_nil)) (pg_name (i := 5) nd rfl (Or.inl rfl))
    (pss_one (ps_if (pt_not (pt_val (pe_call G_law_right hr5 (by rfl) T.f_law_right.g T.f_law_right.F.kp T.f_law_right.b .nil pass0 (pa_cons (pv 1) (pa_cons (pv 4) (pa_cons (pv 3) pa_nil))))))
    (pss_one (ps_ret pe_bl))
    pss_nil)))
    (pss_one (ps_ret pe_bl)))))))) rfl ?_
  try dsimp only [L2.cxOf, L2.Cx.nox]
  walk_at "wp"
  refine ⟨a, ns, rfl, hS, fun p H1 n1 e1 b1 => ?_⟩
  walk_at "wp"
  rename_i pl H2 n2 e2 f2 i H3 i0 i1 m3 b3
  refine w_pick bits4 (by walk_at "hpB") rfl i0 i1 fun b hb => ?_
  obtain ⟨hB, j, hj, hlt, hm⟩ := bits_ix hb
  have hm0 := hB.m100
  have hm1 := hB.m.2
  walk_at "wp"
  rename_i pm H4 n4 e4 f4 pb H5 n5 e5 f5
  refine w_indexI (ss := bits4) (Evl.sq_of f5) hj hlt ?_
  refine Kit.w_ixL (Evl.sq_of (e5 _ _ f4)) hm ?_
  generalize hM : (2 ^ b.toNat - 1 : Int) = m at *
  walk_at "wp"
  rename_i g H6 n6 e6 d6 k H7 k0 k1 m7 b7
  rw [hM] at d6
  refine Kit.f_rng1 (by omega) (by omega) (fun _ σ' H' => ∃ y5, σ' = [some (.ref a), some (.ref p), some (.int b), some (.int m), some (.ref g), y5] ∧ Kit.ExBut p H7 H' ∧ Bag5 H' p) ⟨_, rfl, Kit.ExBut.refl _ _, b7⟩ ?_ ?_
  · rintro i σ' H8 hi ⟨y5, rfl, m8, b8⟩
    have b6 : Bag5 H6 p := by walk_at "bag"
    have d8 : DigN T.c_Digests.C H8 g m := DigN.bag (m7.trans m8) b6 d6
    walk_at "wp"
    refine use_right b8 d8 hm0 hm1 fun H9 m9 b9 => ?_
    walk_at "wp"
    exact ⟨_, rfl, m8.trans m9, b9⟩
  · rintro σ' H8 ⟨y5, rfl, m8, b8⟩
    walk_at "wp"
    exact q _
end

theorem all_mk {l : PySem.W.OpenLaw} {w : World} {K : PySem.W.Frag} {h : Heap} {mg : Str → Option Value} {fa : Addr} (X : K.In h) (G : h.Ns mainGlobals mg) (hfa : mg "law" = some (.ref fa))
    {od0 an0 : Option Addr} {sl0 : Array (Option Value)} {oc0 kV0 dc0 pm0 cd0 ct0 : Value} {f0 : Addr}
    {od1 an1 : Option Addr} {sl1 : Array (Option Value)} {oc1 kV1 dc1 pm1 cd1 ct1 : Value} {f1 : Addr}
    {od2 an2 : Option Addr} {sl2 : Array (Option Value)} {oc2 kV2 dc2 pm2 cd2 ct2 : Value} {f2 : Addr}
    {od3 an3 : Option Addr} {sl3 : Array (Option Value)} {oc3 kV3 dc3 pm3 cd3 ct3 : Value} {f3 : Addr}
    {od4 an4 : Option Addr} {sl4 : Array (Option Value)} {oc4 kV4 dc4 pm4 cd4 ct4 : Value} {f4 : Addr}
    {od5 an5 : Option Addr} {sl5 : Array (Option Value)} {oc5 kV5 dc5 pm5 cd5 ct5 : Value} {f5 : Addr}
    {od6 an6 : Option Addr} {sl6 : Array (Option Value)} {oc6 kV6 dc6 pm6 cd6 ct6 : Value} {f6 : Addr}
    {od7 an7 : Option Addr} {sl7 : Array (Option Value)} {oc7 kV7 dc7 pm7 cd7 ct7 : Value} {f7 : Addr}
    {od8 an8 : Option Addr} {sl8 : Array (Option Value)} {oc8 kV8 dc8 pm8 cd8 ct8 : Value} {f8 : Addr}
    {od9 an9 : Option Addr} {sl9 : Array (Option Value)} {oc9 kV9 dc9 pm9 cd9 ct9 : Value} {f9 : Addr}
    {od10 an10 : Option Addr} {sl10 : Array (Option Value)} {oc10 kV10 dc10 pm10 cd10 ct10 : Value} {f10 : Addr}
    {od11 an11 : Option Addr} {sl11 : Array (Option Value)} {oc11 kV11 dc11 pm11 cd11 ct11 : Value} {f11 : Addr}
    {od12 an12 : Option Addr} {sl12 : Array (Option Value)} {oc12 kV12 dc12 pm12 cd12 ct12 : Value} {f12 : Addr}
    {od13 an13 : Option Addr} {sl13 : Array (Option Value)} {oc13 kV13 dc13 pm13 cd13 ct13 : Value} {f13 : Addr}
    {od14 an14 : Option Addr} {sl14 : Array (Option Value)} {oc14 kV14 dc14 pm14 cd14 ct14 : Value} {f14 : Addr}
    {od15 an15 : Option Addr} {sl15 : Array (Option Value)} {oc15 kV15 dc15 pm15 cd15 ct15 : Value} {f15 : Addr}
    {od16 an16 : Option Addr} {sl16 : Array (Option Value)} {oc16 kV16 dc16 pm16 cd16 ct16 : Value} {f16 : Addr}
    {od17 an17 : Option Addr} {sl17 : Array (Option Value)} {oc17 kV17 dc17 pm17 cd17 ct17 : Value} {f17 : Addr}
    {od18 an18 : Option Addr} {sl18 : Array (Option Value)} {oc18 kV18 dc18 pm18 cd18 ct18 : Value} {f18 : Addr}
    {od19 an19 : Option Addr} {sl19 : Array (Option Value)} {oc19 kV19 dc19 pm19 cd19 ct19 : Value} {f19 : Addr}
    {od20 an20 : Option Addr} {sl20 : Array (Option Value)} {oc20 kV20 dc20 pm20 cd20 ct20 : Value} {f20 : Addr}
    {od21 an21 : Option Addr} {sl21 : Array (Option Value)} {oc21 kV21 dc21 pm21 cd21 ct21 : Value} {f21 : Addr}
    {od22 an22 : Option Addr} {sl22 : Array (Option Value)} {oc22 kV22 dc22 pm22 cd22 ct22 : Value} {f22 : Addr}
    {od23 an23 : Option Addr} {sl23 : Array (Option Value)} {oc23 kV23 dc23 pm23 cd23 ct23 : Value} {f23 : Addr}
    {od24 an24 : Option Addr} {sl24 : Array (Option Value)} {oc24 kV24 dc24 pm24 cd24 ct24 : Value} {f24 : Addr}
    {od25 an25 : Option Addr} {sl25 : Array (Option Value)} {oc25 kV25 dc25 pm25 cd25 ct25 : Value} {f25 : Addr}
    {od26 an26 : Option Addr} {sl26 : Array (Option Value)} {oc26 kV26 dc26 pm26 cd26 ct26 : Value} {f26 : Addr}
    {od27 an27 : Option Addr} {sl27 : Array (Option Value)} {oc27 kV27 dc27 pm27 cd27 ct27 : Value} {f27 : Addr}
    {od28 an28 : Option Addr} {sl28 : Array (Option Value)} {oc28 kV28 dc28 pm28 cd28 ct28 : Value} {f28 : Addr}
    {od29 an29 : Option Addr} {sl29 : Array (Option Value)} {oc29 kV29 dc29 pm29 cd29 ct29 : Value} {f29 : Addr}
    {od30 an30 : Option Addr} {sl30 : Array (Option Value)} {oc30 kV30 dc30 pm30 cd30 ct30 : Value} {f30 : Addr}
    {od31 an31 : Option Addr} {sl31 : Array (Option Value)} {oc31 kV31 dc31 pm31 cd31 ct31 : Value} {f31 : Addr}
    {od32 an32 : Option Addr} {sl32 : Array (Option Value)} {oc32 kV32 dc32 pm32 cd32 ct32 : Value} {f32 : Addr}
    {od33 an33 : Option Addr} {sl33 : Array (Option Value)} {oc33 kV33 dc33 pm33 cd33 ct33 : Value} {f33 : Addr}
    {od34 an34 : Option Addr} {sl34 : Array (Option Value)} {oc34 kV34 dc34 pm34 cd34 ct34 : Value} {f34 : Addr}
    {od35 an35 : Option Addr} {sl35 : Array (Option Value)} {oc35 kV35 dc35 pm35 cd35 ct35 : Value} {f35 : Addr}
    {C_Digests : Addr}
    {a_MARKS : Addr} {o_MARKS : Obj}
    {t_MOST_TOLD : Tok}
    {t_MOST_WORD : Tok}
    {a_NAMES : Addr} {o_NAMES : Obj}
    {t_PLACES : Tok}
    {a_SIGNS : Addr} {o_SIGNS : Obj}
    (aC_Digests : PySem.W.nsIn K mainGlobals "Digests" = some (some (.ref C_Digests)))
    (a0 : PySem.W.nsIn K mainGlobals "op" = some (some (.ref f0)))
    (l0 : K.lookup f0 = some ⟨oc0, od0, .func (PySem.W.fnOf "op" "op" (defArgs s_op) (defBody s_op) (defScope s_op) .none kV0 dc0 pm0 an0 cd0 ct0), sl0⟩)
    (c0 : PySem.W.codeIn K cd0 "op" = true)
    (k0 : PySem.W.keepIn K (.ref f0) = true)
    (a1 : PySem.W.nsIn K mainGlobals "divided" = some (some (.ref f1)))
    (l1 : K.lookup f1 = some ⟨oc1, od1, .func (PySem.W.fnOf "divided" "divided" (defArgs s_divided) (defBody s_divided) (defScope s_divided) .none kV1 dc1 pm1 an1 cd1 ct1), sl1⟩)
    (c1 : PySem.W.codeIn K cd1 "divided" = true)
    (k1 : PySem.W.keepIn K (.ref f1) = true)
    (a2 : PySem.W.nsIn K mainGlobals "wrapped" = some (some (.ref f2)))
    (l2 : K.lookup f2 = some ⟨oc2, od2, .func (PySem.W.fnOf "wrapped" "wrapped" (defArgs s_wrapped) (defBody s_wrapped) (defScope s_wrapped) .none kV2 dc2 pm2 an2 cd2 ct2), sl2⟩)
    (c2 : PySem.W.codeIn K cd2 "wrapped" = true)
    (k2 : PySem.W.keepIn K (.ref f2) = true)
    (a3 : PySem.W.nsIn K mainGlobals "holds" = some (some (.ref f3)))
    (l3 : K.lookup f3 = some ⟨oc3, od3, .func (PySem.W.fnOf "holds" "holds" (defArgs s_holds) (defBody s_holds) (defScope s_holds) .none kV3 dc3 pm3 an3 cd3 ct3), sl3⟩)
    (c3 : PySem.W.codeIn K cd3 "holds" = true)
    (k3 : PySem.W.keepIn K (.ref f3) = true)
    (a4 : PySem.W.nsIn K mainGlobals "out_behind" = some (some (.ref f4)))
    (l4 : K.lookup f4 = some ⟨oc4, od4, .func (PySem.W.fnOf "out_behind" "out_behind" (defArgs s_out_behind) (defBody s_out_behind) (defScope s_out_behind) .none kV4 dc4 pm4 an4 cd4 ct4), sl4⟩)
    (c4 : PySem.W.codeIn K cd4 "out_behind" = true)
    (k4 : PySem.W.keepIn K (.ref f4) = true)
    (a5 : PySem.W.nsIn K mainGlobals "name_of" = some (some (.ref f5)))
    (l5 : K.lookup f5 = some ⟨oc5, od5, .func (PySem.W.fnOf "name_of" "name_of" (defArgs s_name_of) (defBody s_name_of) (defScope s_name_of) .none kV5 dc5 pm5 an5 cd5 ct5), sl5⟩)
    (c5 : PySem.W.codeIn K cd5 "name_of" = true)
    (k5 : PySem.W.keepIn K (.ref f5) = true)
    (a6 : PySem.W.nsIn K mainGlobals "behind" = some (some (.ref f6)))
    (l6 : K.lookup f6 = some ⟨oc6, od6, .func (PySem.W.fnOf "behind" "behind" (defArgs s_behind) (defBody s_behind) (defScope s_behind) .none kV6 dc6 pm6 an6 cd6 ct6), sl6⟩)
    (c6 : PySem.W.codeIn K cd6 "behind" = true)
    (k6 : PySem.W.keepIn K (.ref f6) = true)
    (a7 : PySem.W.nsIn K mainGlobals "data_of" = some (some (.ref f7)))
    (l7 : K.lookup f7 = some ⟨oc7, od7, .func (PySem.W.fnOf "data_of" "data_of" (defArgs s_data_of) (defBody s_data_of) (defScope s_data_of) .none kV7 dc7 pm7 an7 cd7 ct7), sl7⟩)
    (c7 : PySem.W.codeIn K cd7 "data_of" = true)
    (k7 : PySem.W.keepIn K (.ref f7) = true)
    (a8 : PySem.W.nsIn K mainGlobals "done_by" = some (some (.ref f8)))
    (l8 : K.lookup f8 = some ⟨oc8, od8, .func (PySem.W.fnOf "done_by" "done_by" (defArgs s_done_by) (defBody s_done_by) (defScope s_done_by) .none kV8 dc8 pm8 an8 cd8 ct8), sl8⟩)
    (c8 : PySem.W.codeIn K cd8 "done_by" = true)
    (k8 : PySem.W.keepIn K (.ref f8) = true)
    (a9 : PySem.W.nsIn K mainGlobals "halt_by" = some (some (.ref f9)))
    (l9 : K.lookup f9 = some ⟨oc9, od9, .func (PySem.W.fnOf "halt_by" "halt_by" (defArgs s_halt_by) (defBody s_halt_by) (defScope s_halt_by) .none kV9 dc9 pm9 an9 cd9 ct9), sl9⟩)
    (c9 : PySem.W.codeIn K cd9 "halt_by" = true)
    (k9 : PySem.W.keepIn K (.ref f9) = true)
    (a10 : PySem.W.nsIn K mainGlobals "pc_by" = some (some (.ref f10)))
    (l10 : K.lookup f10 = some ⟨oc10, od10, .func (PySem.W.fnOf "pc_by" "pc_by" (defArgs s_pc_by) (defBody s_pc_by) (defScope s_pc_by) .none kV10 dc10 pm10 an10 cd10 ct10), sl10⟩)
    (c10 : PySem.W.codeIn K cd10 "pc_by" = true)
    (k10 : PySem.W.keepIn K (.ref f10) = true)
    (a11 : PySem.W.nsIn K mainGlobals "acc_by" = some (some (.ref f11)))
    (l11 : K.lookup f11 = some ⟨oc11, od11, .func (PySem.W.fnOf "acc_by" "acc_by" (defArgs s_acc_by) (defBody s_acc_by) (defScope s_acc_by) .none kV11 dc11 pm11 an11 cd11 ct11), sl11⟩)
    (c11 : PySem.W.codeIn K cd11 "acc_by" = true)
    (k11 : PySem.W.keepIn K (.ref f11) = true)
    (a12 : PySem.W.nsIn K mainGlobals "x_by" = some (some (.ref f12)))
    (l12 : K.lookup f12 = some ⟨oc12, od12, .func (PySem.W.fnOf "x_by" "x_by" (defArgs s_x_by) (defBody s_x_by) (defScope s_x_by) .none kV12 dc12 pm12 an12 cd12 ct12), sl12⟩)
    (c12 : PySem.W.codeIn K cd12 "x_by" = true)
    (k12 : PySem.W.keepIn K (.ref f12) = true)
    (a13 : PySem.W.nsIn K mainGlobals "changed_by" = some (some (.ref f13)))
    (l13 : K.lookup f13 = some ⟨oc13, od13, .func (PySem.W.fnOf "changed_by" "changed_by" (defArgs s_changed_by) (defBody s_changed_by) (defScope s_changed_by) .none kV13 dc13 pm13 an13 cd13 ct13), sl13⟩)
    (c13 : PySem.W.codeIn K cd13 "changed_by" = true)
    (k13 : PySem.W.keepIn K (.ref f13) = true)
    (a14 : PySem.W.findIn K (.ref C_Digests) "__init__" = some (some (.ref f14)))
    (i14 : PySem.W.isFn K (.ref f14) = true)
    (l14 : K.lookup f14 = some ⟨oc14, od14, .func (PySem.W.fnOf "__init__" "Digests.__init__" (defArgs s_Digests___init) (defBody s_Digests___init) (defScope s_Digests___init) .none kV14 dc14 pm14 an14 cd14 ct14), sl14⟩)
    (c14 : PySem.W.codeIn K cd14 "Digests.__init__" = true)
    (k14 : PySem.W.keepIn K (.ref f14) = true)
    (a15 : PySem.W.findIn K (.ref C_Digests) "leaf" = some (some (.ref f15)))
    (i15 : PySem.W.isFn K (.ref f15) = true)
    (l15 : K.lookup f15 = some ⟨oc15, od15, .func (PySem.W.fnOf "leaf" "Digests.leaf" (defArgs s_Digests_leaf) (defBody s_Digests_leaf) (defScope s_Digests_leaf) .none kV15 dc15 pm15 an15 cd15 ct15), sl15⟩)
    (c15 : PySem.W.codeIn K cd15 "Digests.leaf" = true)
    (k15 : PySem.W.keepIn K (.ref f15) = true)
    (a16 : PySem.W.findIn K (.ref C_Digests) "fold" = some (some (.ref f16)))
    (i16 : PySem.W.isFn K (.ref f16) = true)
    (l16 : K.lookup f16 = some ⟨oc16, od16, .func (PySem.W.fnOf "fold" "Digests.fold" (defArgs s_Digests_fold) (defBody s_Digests_fold) (defScope s_Digests_fold) .none kV16 dc16 pm16 an16 cd16 ct16), sl16⟩)
    (c16 : PySem.W.codeIn K cd16 "Digests.fold" = true)
    (k16 : PySem.W.keepIn K (.ref f16) = true)
    (a17 : PySem.W.findIn K (.ref C_Digests) "state" = some (some (.ref f17)))
    (i17 : PySem.W.isFn K (.ref f17) = true)
    (l17 : K.lookup f17 = some ⟨oc17, od17, .func (PySem.W.fnOf "state" "Digests.state" (defArgs s_Digests_state) (defBody s_Digests_state) (defScope s_Digests_state) .none kV17 dc17 pm17 an17 cd17 ct17), sl17⟩)
    (c17 : PySem.W.codeIn K cd17 "Digests.state" = true)
    (k17 : PySem.W.keepIn K (.ref f17) = true)
    (a18 : PySem.W.findIn K (.ref C_Digests) "_noted" = some (some (.ref f18)))
    (i18 : PySem.W.isFn K (.ref f18) = true)
    (l18 : K.lookup f18 = some ⟨oc18, od18, .func (PySem.W.fnOf "_noted" "Digests._noted" (defArgs s_Digests__noted) (defBody s_Digests__noted) (defScope s_Digests__noted) .none kV18 dc18 pm18 an18 cd18 ct18), sl18⟩)
    (c18 : PySem.W.codeIn K cd18 "Digests._noted" = true)
    (k18 : PySem.W.keepIn K (.ref f18) = true)
    (a19 : PySem.W.nsIn K mainGlobals "_law_bag" = some (some (.ref f19)))
    (l19 : K.lookup f19 = some ⟨oc19, od19, .func (PySem.W.fnOf "_law_bag" "_law_bag" (defArgs s_law_bag) (defBody s_law_bag) (defScope s_law_bag) .none kV19 dc19 pm19 an19 cd19 ct19), sl19⟩)
    (c19 : PySem.W.codeIn K cd19 "_law_bag" = true)
    (k19 : PySem.W.keepIn K (.ref f19) = true)
    (a20 : PySem.W.nsIn K mainGlobals "_law_draw" = some (some (.ref f20)))
    (l20 : K.lookup f20 = some ⟨oc20, od20, .func (PySem.W.fnOf "_law_draw" "_law_draw" (defArgs s_law_draw) (defBody s_law_draw) (defScope s_law_draw) .none kV20 dc20 pm20 an20 cd20 ct20), sl20⟩)
    (c20 : PySem.W.codeIn K cd20 "_law_draw" = true)
    (k20 : PySem.W.keepIn K (.ref f20) = true)
    (a21 : PySem.W.nsIn K mainGlobals "_law_leaf" = some (some (.ref f21)))
    (l21 : K.lookup f21 = some ⟨oc21, od21, .func (PySem.W.fnOf "_law_leaf" "_law_leaf" (defArgs s_law_leaf) (defBody s_law_leaf) (defScope s_law_leaf) .none kV21 dc21 pm21 an21 cd21 ct21), sl21⟩)
    (c21 : PySem.W.codeIn K cd21 "_law_leaf" = true)
    (k21 : PySem.W.keepIn K (.ref f21) = true)
    (a22 : PySem.W.nsIn K mainGlobals "_law_fold" = some (some (.ref f22)))
    (l22 : K.lookup f22 = some ⟨oc22, od22, .func (PySem.W.fnOf "_law_fold" "_law_fold" (defArgs s_law_fold) (defBody s_law_fold) (defScope s_law_fold) .none kV22 dc22 pm22 an22 cd22 ct22), sl22⟩)
    (c22 : PySem.W.codeIn K cd22 "_law_fold" = true)
    (k22 : PySem.W.keepIn K (.ref f22) = true)
    (a23 : PySem.W.nsIn K mainGlobals "_law_signs" = some (some (.ref f23)))
    (l23 : K.lookup f23 = some ⟨oc23, od23, .func (PySem.W.fnOf "_law_signs" "_law_signs" (defArgs s_law_signs) (defBody s_law_signs) (defScope s_law_signs) .none kV23 dc23 pm23 an23 cd23 ct23), sl23⟩)
    (c23 : PySem.W.codeIn K cd23 "_law_signs" = true)
    (k23 : PySem.W.keepIn K (.ref f23) = true)
    (a24 : PySem.W.nsIn K mainGlobals "_law_result" = some (some (.ref f24)))
    (l24 : K.lookup f24 = some ⟨oc24, od24, .func (PySem.W.fnOf "_law_result" "_law_result" (defArgs s_law_result) (defBody s_law_result) (defScope s_law_result) .none kV24 dc24 pm24 an24 cd24 ct24), sl24⟩)
    (c24 : PySem.W.codeIn K cd24 "_law_result" = true)
    (k24 : PySem.W.keepIn K (.ref f24) = true)
    (a25 : PySem.W.nsIn K mainGlobals "_law_halt" = some (some (.ref f25)))
    (l25 : K.lookup f25 = some ⟨oc25, od25, .func (PySem.W.fnOf "_law_halt" "_law_halt" (defArgs s_law_halt) (defBody s_law_halt) (defScope s_law_halt) .none kV25 dc25 pm25 an25 cd25 ct25), sl25⟩)
    (c25 : PySem.W.codeIn K cd25 "_law_halt" = true)
    (k25 : PySem.W.keepIn K (.ref f25) = true)
    (a26 : PySem.W.nsIn K mainGlobals "_law_other" = some (some (.ref f26)))
    (l26 : K.lookup f26 = some ⟨oc26, od26, .func (PySem.W.fnOf "_law_other" "_law_other" (defArgs s_law_other) (defBody s_law_other) (defScope s_law_other) .none kV26 dc26 pm26 an26 cd26 ct26), sl26⟩)
    (c26 : PySem.W.codeIn K cd26 "_law_other" = true)
    (k26 : PySem.W.keepIn K (.ref f26) = true)
    (a27 : PySem.W.nsIn K mainGlobals "_law_moved" = some (some (.ref f27)))
    (l27 : K.lookup f27 = some ⟨oc27, od27, .func (PySem.W.fnOf "_law_moved" "_law_moved" (defArgs s_law_moved) (defBody s_law_moved) (defScope s_law_moved) .none kV27 dc27 pm27 an27 cd27 ct27), sl27⟩)
    (c27 : PySem.W.codeIn K cd27 "_law_moved" = true)
    (k27 : PySem.W.keepIn K (.ref f27) = true)
    (a28 : PySem.W.nsIn K mainGlobals "_law_worked" = some (some (.ref f28)))
    (l28 : K.lookup f28 = some ⟨oc28, od28, .func (PySem.W.fnOf "_law_worked" "_law_worked" (defArgs s_law_worked) (defBody s_law_worked) (defScope s_law_worked) .none kV28 dc28 pm28 an28 cd28 ct28), sl28⟩)
    (c28 : PySem.W.codeIn K cd28 "_law_worked" = true)
    (k28 : PySem.W.keepIn K (.ref f28) = true)
    (a29 : PySem.W.nsIn K mainGlobals "_law_registers" = some (some (.ref f29)))
    (l29 : K.lookup f29 = some ⟨oc29, od29, .func (PySem.W.fnOf "_law_registers" "_law_registers" (defArgs s_law_registers) (defBody s_law_registers) (defScope s_law_registers) .none kV29 dc29 pm29 an29 cd29 ct29), sl29⟩)
    (c29 : PySem.W.codeIn K cd29 "_law_registers" = true)
    (k29 : PySem.W.keepIn K (.ref f29) = true)
    (a30 : PySem.W.nsIn K mainGlobals "_law_word" = some (some (.ref f30)))
    (l30 : K.lookup f30 = some ⟨oc30, od30, .func (PySem.W.fnOf "_law_word" "_law_word" (defArgs s_law_word) (defBody s_law_word) (defScope s_law_word) .none kV30 dc30 pm30 an30 cd30 ct30), sl30⟩)
    (c30 : PySem.W.codeIn K cd30 "_law_word" = true)
    (k30 : PySem.W.keepIn K (.ref f30) = true)
    (a31 : PySem.W.nsIn K mainGlobals "_law_start" = some (some (.ref f31)))
    (l31 : K.lookup f31 = some ⟨oc31, od31, .func (PySem.W.fnOf "_law_start" "_law_start" (defArgs s_law_start) (defBody s_law_start) (defScope s_law_start) .none kV31 dc31 pm31 an31 cd31 ct31), sl31⟩)
    (c31 : PySem.W.codeIn K cd31 "_law_start" = true)
    (k31 : PySem.W.keepIn K (.ref f31) = true)
    (a32 : PySem.W.nsIn K mainGlobals "_law_model" = some (some (.ref f32)))
    (l32 : K.lookup f32 = some ⟨oc32, od32, .func (PySem.W.fnOf "_law_model" "_law_model" (defArgs s_law_model) (defBody s_law_model) (defScope s_law_model) .none kV32 dc32 pm32 an32 cd32 ct32), sl32⟩)
    (c32 : PySem.W.codeIn K cd32 "_law_model" = true)
    (k32 : PySem.W.keepIn K (.ref f32) = true)
    (a33 : PySem.W.nsIn K mainGlobals "_law_data" = some (some (.ref f33)))
    (l33 : K.lookup f33 = some ⟨oc33, od33, .func (PySem.W.fnOf "_law_data" "_law_data" (defArgs s_law_data) (defBody s_law_data) (defScope s_law_data) .none kV33 dc33 pm33 an33 cd33 ct33), sl33⟩)
    (c33 : PySem.W.codeIn K cd33 "_law_data" = true)
    (k33 : PySem.W.keepIn K (.ref f33) = true)
    (a34 : PySem.W.nsIn K mainGlobals "_law_right" = some (some (.ref f34)))
    (l34 : K.lookup f34 = some ⟨oc34, od34, .func (PySem.W.fnOf "_law_right" "_law_right" (defArgs s_law_right) (defBody s_law_right) (defScope s_law_right) .none kV34 dc34 pm34 an34 cd34 ct34), sl34⟩)
    (c34 : PySem.W.codeIn K cd34 "_law_right" = true)
    (k34 : PySem.W.keepIn K (.ref f34) = true)
    (a35 : PySem.W.nsIn K mainGlobals "law" = some (some (.ref f35)))
    (l35 : K.lookup f35 = some ⟨oc35, od35, .func (PySem.W.fnOf "law" "law" (defArgs s_law) (defBody s_law) (defScope s_law) .none kV35 dc35 pm35 an35 cd35 ct35), sl35⟩)
    (c35 : PySem.W.codeIn K cd35 "law" = true)
    (k35 : PySem.W.keepIn K (.ref f35) = true)
    (pg_Digests : PySem.W.plainGet K C_Digests Str.empty = true)
    (hd_Digests : PySem.W.hasDictIn K C_Digests = true)
    (po_Digests : PySem.W.plainOver K C_Digests = true)
    (sa_Digests : PySem.W.findIn K (.ref C_Digests) "__setattr__" = some (some (.builtin "object.__setattr__")))
    (mk_Digests : PySem.W.makesIn K C_Digests = true)
    (kc_Digests : PySem.W.keepIn K (.ref C_Digests) = true)
    (n_Digests_bits : PySem.W.findIn K (.ref C_Digests) "_bits" = some none)
    (n_Digests_book : PySem.W.findIn K (.ref C_Digests) "_book" = some none)
    (n_Digests_modulus : PySem.W.findIn K (.ref C_Digests) "_modulus" = some none)
    (g_MARKS : PySem.W.nsIn K mainGlobals "MARKS" = some (some (.ref a_MARKS)))
    (w_MARKS : K.lookup a_MARKS = some o_MARKS)
    (v_MARKS : Kit.tupB o_MARKS [.str "long", .str "done", .str "divided", .str "place", .str "input", .str "full", .str "bad"] = true)
    (g_MOST_TOLD : PySem.W.nsIn K mainGlobals "MOST_TOLD" = some (some (.int 16 t_MOST_TOLD)))
    (g_MOST_WORD : PySem.W.nsIn K mainGlobals "MOST_WORD" = some (some (.int 65535 t_MOST_WORD)))
    (g_NAMES : PySem.W.nsIn K mainGlobals "NAMES" = some (some (.ref a_NAMES)))
    (w_NAMES : K.lookup a_NAMES = some o_NAMES)
    (v_NAMES : Kit.tupB o_NAMES [.str "bad", .str "halt", .str "lit", .str "load", .str "store", .str "loadx", .str "storex", .str "tox", .str "index", .str "bound", .str "within", .str "not", .str "+", .str "-", .str "*", .str "/", .str "mod", .str "==", .str "!=", .str "<", .str "<=", .str ">", .str ">=", .str "jump", .str "zero", .str "some", .str "call", .str "back", .str "tell"] = true)
    (g_PLACES : PySem.W.nsIn K mainGlobals "PLACES" = some (some (.int 256 t_PLACES)))
    (g_SIGNS : PySem.W.nsIn K mainGlobals "SIGNS" = some (some (.ref a_SIGNS)))
    (w_SIGNS : K.lookup a_SIGNS = some o_SIGNS)
    (v_SIGNS : Kit.tupB o_SIGNS [.str "+", .str "-", .str "*", .str "/", .str "mod", .str "==", .str "!=", .str "<", .str "<=", .str ">", .str ">="] = true)
    (v_cMARKS : o_MARKS.cls = .type "tuple")
    (v_dMARKS : o_MARKS.dict = none)
    (z_int : PySem.W.nsIn K mainGlobals "int" = some none)
    (z_len : PySem.W.nsIn K mainGlobals "len" = some none)
    (z_list : PySem.W.nsIn K mainGlobals "list" = some none)
    (z_max : PySem.W.nsIn K mainGlobals "max" = some none)
    (z_range : PySem.W.nsIn K mainGlobals "range" = some none)
    : ∃ fd : FuncData, (∀ (s : Shared) (v : Value), BindsTo s fd ⟨[v], []⟩ [("script", v)]) ∧ ∀ base : Heap, K.In base → base.Ns mainGlobals mg → FnOk l.prog w K mg base CX0 6 fa fd ["script"] (sp_law K) := by
  have e := hfa.symm.trans (PySem.W.mg_of X G a35)
  have e2 : f35 = fa := by
    injection e with e
    injection e with e
    exact e.symm
  subst e2
  have F0 := fun_mk (st := s_op) l0 c0 k0
  have b0 := F0.binds (ps := ["sign", "a", "b"]) fun _ _ _ _ _ _ us hl => match us, hl with | [_, _, _], _ => rfl
  have F1 := fun_mk (st := s_divided) l1 c1 k1
  have b1 := F1.binds (ps := ["sign", "a", "b"]) fun _ _ _ _ _ _ us hl => match us, hl with | [_, _, _], _ => rfl
  have F2 := fun_mk (st := s_wrapped) l2 c2 k2
  have b2 := F2.binds (ps := ["sign", "a", "b"]) fun _ _ _ _ _ _ us hl => match us, hl with | [_, _, _], _ => rfl
  have F3 := fun_mk (st := s_holds) l3 c3 k3
  have b3 := F3.binds (ps := ["sign", "a", "b"]) fun _ _ _ _ _ _ us hl => match us, hl with | [_, _, _], _ => rfl
  have F4 := fun_mk (st := s_out_behind) l4 c4 k4
  have b4 := F4.binds (ps := ["digests", "out", "word"]) fun _ _ _ _ _ _ us hl => match us, hl with | [_, _, _], _ => rfl
  have F5 := fun_mk (st := s_name_of) l5 c5 k5
  have b5 := F5.binds (ps := ["word"]) fun _ _ _ _ _ _ us hl => match us, hl with | [_], _ => rfl
  have F6 := fun_mk (st := s_behind) l6 c6 k6
  have b6 := F6.binds (ps := ["place"]) fun _ _ _ _ _ _ us hl => match us, hl with | [_], _ => rfl
  have F7 := fun_mk (st := s_data_of) l7 c7 k7
  have b7 := F7.binds (ps := ["registers", "word"]) fun _ _ _ _ _ _ us hl => match us, hl with | [_, _], _ => rfl
  have F8 := fun_mk (st := s_done_by) l8 c8 k8
  have b8 := F8.binds (ps := ["digests", "registers", "word", "data"]) fun _ _ _ _ _ _ us hl => match us, hl with | [_, _, _, _], _ => rfl
  have F9 := fun_mk (st := s_halt_by) l9 c9 k9
  have b9 := F9.binds (ps := ["name", "registers", "word", "data"]) fun _ _ _ _ _ _ us hl => match us, hl with | [_, _, _, _], _ => rfl
  have F10 := fun_mk (st := s_pc_by) l10 c10 k10
  have b10 := F10.binds (ps := ["name", "registers", "word", "data"]) fun _ _ _ _ _ _ us hl => match us, hl with | [_, _, _, _], _ => rfl
  have F11 := fun_mk (st := s_acc_by) l11 c11 k11
  have b11 := F11.binds (ps := ["name", "registers", "word", "data"]) fun _ _ _ _ _ _ us hl => match us, hl with | [_, _, _, _], _ => rfl
  have F12 := fun_mk (st := s_x_by) l12 c12 k12
  have b12 := F12.binds (ps := ["name", "registers", "data"]) fun _ _ _ _ _ _ us hl => match us, hl with | [_, _, _], _ => rfl
  have F13 := fun_mk (st := s_changed_by) l13 c13 k13
  have b13 := F13.binds (ps := ["name", "registers"]) fun _ _ _ _ _ _ us hl => match us, hl with | [_, _], _ => rfl
  have F14 := fun_mk (st := s_Digests___init) l14 c14 k14
  have b14 := F14.binds (ps := ["self", "bits", "book"]) fun _ _ _ _ _ _ us hl => match us, hl with | [_, _, _], _ => rfl
  have F15 := fun_mk (st := s_Digests_leaf) l15 c15 k15
  have b15 := F15.binds (ps := ["self", "word"]) fun _ _ _ _ _ _ us hl => match us, hl with | [_, _], _ => rfl
  have F16 := fun_mk (st := s_Digests_fold) l16 c16 k16
  have b16 := F16.binds (ps := ["self", "left", "right"]) fun _ _ _ _ _ _ us hl => match us, hl with | [_, _, _], _ => rfl
  have F17 := fun_mk (st := s_Digests_state) l17 c17 k17
  have b17 := F17.binds (ps := ["self", "numbers"]) fun _ _ _ _ _ _ us hl => match us, hl with | [_, _], _ => rfl
  have F18 := fun_mk (st := s_Digests__noted) l18 c18 k18
  have b18 := F18.binds (ps := ["self", "kind", "text", "digest"]) fun _ _ _ _ _ _ us hl => match us, hl with | [_, _, _, _], _ => rfl
  have F19 := fun_mk (st := s_law_bag) l19 c19 k19
  have b19 := F19.binds (ps := ["script"]) fun _ _ _ _ _ _ us hl => match us, hl with | [_], _ => rfl
  have F20 := fun_mk (st := s_law_draw) l20 c20 k20
  have b20 := F20.binds (ps := ["bag", "many"]) fun _ _ _ _ _ _ us hl => match us, hl with | [_, _], _ => rfl
  have F21 := fun_mk (st := s_law_leaf) l21 c21 k21
  have b21 := F21.binds (ps := ["m", "word"]) fun _ _ _ _ _ _ us hl => match us, hl with | [_, _], _ => rfl
  have F22 := fun_mk (st := s_law_fold) l22 c22 k22
  have b22 := F22.binds (ps := ["m", "x", "y"]) fun _ _ _ _ _ _ us hl => match us, hl with | [_, _, _], _ => rfl
  have F23 := fun_mk (st := s_law_signs) l23 c23 k23
  have b23 := F23.binds (ps := []) fun _ _ _ _ _ _ us hl => match us, hl with | [], _ => rfl
  have F24 := fun_mk (st := s_law_result) l24 c24 k24
  have b24 := F24.binds (ps := ["sign", "a", "b"]) fun _ _ _ _ _ _ us hl => match us, hl with | [_, _, _], _ => rfl
  have F25 := fun_mk (st := s_law_halt) l25 c25 k25
  have b25 := F25.binds (ps := ["state", "mark"]) fun _ _ _ _ _ _ us hl => match us, hl with | [_, _], _ => rfl
  have F26 := fun_mk (st := s_law_other) l26 c26 k26
  have b26 := F26.binds (ps := ["state", "n", "a"]) fun _ _ _ _ _ _ us hl => match us, hl with | [_, _, _], _ => rfl
  have F27 := fun_mk (st := s_law_moved) l27 c27 k27
  have b27 := F27.binds (ps := ["m", "state", "n", "a"]) fun _ _ _ _ _ _ us hl => match us, hl with | [_, _, _, _], _ => rfl
  have F28 := fun_mk (st := s_law_worked) l28 c28 k28
  have b28 := F28.binds (ps := ["m", "state", "n", "a"]) fun _ _ _ _ _ _ us hl => match us, hl with | [_, _, _, _], _ => rfl
  have F29 := fun_mk (st := s_law_registers) l29 c29 k29
  have b29 := F29.binds (ps := ["state"]) fun _ _ _ _ _ _ us hl => match us, hl with | [_], _ => rfl
  have F30 := fun_mk (st := s_law_word) l30 c30 k30
  have b30 := F30.binds (ps := ["bag"]) fun _ _ _ _ _ _ us hl => match us, hl with | [_], _ => rfl
  have F31 := fun_mk (st := s_law_start) l31 c31 k31
  have b31 := F31.binds (ps := ["bag", "m"]) fun _ _ _ _ _ _ us hl => match us, hl with | [_, _], _ => rfl
  have F32 := fun_mk (st := s_law_model) l32 c32 k32
  have b32 := F32.binds (ps := ["registers", "words"]) fun _ _ _ _ _ _ us hl => match us, hl with | [_, _], _ => rfl
  have F33 := fun_mk (st := s_law_data) l33 c33 k33
  have b33 := F33.binds (ps := ["state", "word"]) fun _ _ _ _ _ _ us hl => match us, hl with | [_, _], _ => rfl
  have F34 := fun_mk (st := s_law_right) l34 c34 k34
  have b34 := F34.binds (ps := ["bag", "digests", "m"]) fun _ _ _ _ _ _ us hl => match us, hl with | [_, _, _], _ => rfl
  have F35 := fun_mk (st := s_law) l35 c35 k35
  have b35 := F35.binds (ps := ["script"]) fun _ _ _ _ _ _ us hl => match us, hl with | [_], _ => rfl
  let T : Txt K mg := {
    f_op := ⟨⟨f0, _, F0, b0⟩, PySem.W.mg_of X G a0⟩
    f_divided := ⟨⟨f1, _, F1, b1⟩, PySem.W.mg_of X G a1⟩
    f_wrapped := ⟨⟨f2, _, F2, b2⟩, PySem.W.mg_of X G a2⟩
    f_holds := ⟨⟨f3, _, F3, b3⟩, PySem.W.mg_of X G a3⟩
    f_out_behind := ⟨⟨f4, _, F4, b4⟩, PySem.W.mg_of X G a4⟩
    f_name_of := ⟨⟨f5, _, F5, b5⟩, PySem.W.mg_of X G a5⟩
    f_behind := ⟨⟨f6, _, F6, b6⟩, PySem.W.mg_of X G a6⟩
    f_data_of := ⟨⟨f7, _, F7, b7⟩, PySem.W.mg_of X G a7⟩
    f_done_by := ⟨⟨f8, _, F8, b8⟩, PySem.W.mg_of X G a8⟩
    f_halt_by := ⟨⟨f9, _, F9, b9⟩, PySem.W.mg_of X G a9⟩
    f_pc_by := ⟨⟨f10, _, F10, b10⟩, PySem.W.mg_of X G a10⟩
    f_acc_by := ⟨⟨f11, _, F11, b11⟩, PySem.W.mg_of X G a11⟩
    f_x_by := ⟨⟨f12, _, F12, b12⟩, PySem.W.mg_of X G a12⟩
    f_changed_by := ⟨⟨f13, _, F13, b13⟩, PySem.W.mg_of X G a13⟩
    f_Digests___init := ⟨f14, _, F14, b14⟩
    f_Digests_leaf := ⟨f15, _, F15, b15⟩
    f_Digests_fold := ⟨f16, _, F16, b16⟩
    f_Digests_state := ⟨f17, _, F17, b17⟩
    f_Digests__noted := ⟨f18, _, F18, b18⟩
    f_law_bag := ⟨⟨f19, _, F19, b19⟩, PySem.W.mg_of X G a19⟩
    f_law_draw := ⟨⟨f20, _, F20, b20⟩, PySem.W.mg_of X G a20⟩
    f_law_leaf := ⟨⟨f21, _, F21, b21⟩, PySem.W.mg_of X G a21⟩
    f_law_fold := ⟨⟨f22, _, F22, b22⟩, PySem.W.mg_of X G a22⟩
    f_law_signs := ⟨⟨f23, _, F23, b23⟩, PySem.W.mg_of X G a23⟩
    f_law_result := ⟨⟨f24, _, F24, b24⟩, PySem.W.mg_of X G a24⟩
    f_law_halt := ⟨⟨f25, _, F25, b25⟩, PySem.W.mg_of X G a25⟩
    f_law_other := ⟨⟨f26, _, F26, b26⟩, PySem.W.mg_of X G a26⟩
    f_law_moved := ⟨⟨f27, _, F27, b27⟩, PySem.W.mg_of X G a27⟩
    f_law_worked := ⟨⟨f28, _, F28, b28⟩, PySem.W.mg_of X G a28⟩
    f_law_registers := ⟨⟨f29, _, F29, b29⟩, PySem.W.mg_of X G a29⟩
    f_law_word := ⟨⟨f30, _, F30, b30⟩, PySem.W.mg_of X G a30⟩
    f_law_start := ⟨⟨f31, _, F31, b31⟩, PySem.W.mg_of X G a31⟩
    f_law_model := ⟨⟨f32, _, F32, b32⟩, PySem.W.mg_of X G a32⟩
    f_law_data := ⟨⟨f33, _, F33, b33⟩, PySem.W.mg_of X G a33⟩
    f_law_right := ⟨⟨f34, _, F34, b34⟩, PySem.W.mg_of X G a34⟩
    f_law := ⟨⟨f35, _, F35, b35⟩, PySem.W.mg_of X G a35⟩
    c_Digests := ⟨C_Digests, ⟨pg_Digests, hd_Digests, po_Digests, sa_Digests⟩, ⟨mk_Digests, a14, i14, kc_Digests⟩, PySem.W.mg_of X G aC_Digests⟩
    m_Digests_leaf := ⟨a15, i15, k15⟩
    m_Digests_fold := ⟨a16, i16, k16⟩
    m_Digests_state := ⟨a17, i17, k17⟩
    m_Digests__noted := ⟨a18, i18, k18⟩
    n_Digests_bits := n_Digests_bits
    n_Digests_book := n_Digests_book
    n_Digests_modulus := n_Digests_modulus
    a_MARKS := a_MARKS
    g_MARKS := PySem.W.mg_of X G g_MARKS
    w_MARKS := Kit.ktup_of w_MARKS v_MARKS
    t_MOST_TOLD := t_MOST_TOLD
    g_MOST_TOLD := PySem.W.mg_of X G g_MOST_TOLD
    t_MOST_WORD := t_MOST_WORD
    g_MOST_WORD := PySem.W.mg_of X G g_MOST_WORD
    a_NAMES := a_NAMES
    g_NAMES := PySem.W.mg_of X G g_NAMES
    w_NAMES := Kit.ktup_of w_NAMES v_NAMES
    t_PLACES := t_PLACES
    g_PLACES := PySem.W.mg_of X G g_PLACES
    a_SIGNS := a_SIGNS
    g_SIGNS := PySem.W.mg_of X G g_SIGNS
    w_SIGNS := Kit.ktup_of w_SIGNS v_SIGNS
    y_MARKS := ⟨o_MARKS, w_MARKS, v_cMARKS, v_dMARKS⟩
    z_int := PySem.W.mg_none_of X G z_int
    z_len := PySem.W.mg_none_of X G z_len
    z_list := PySem.W.mg_none_of X G z_list
    z_max := PySem.W.mg_none_of X G z_max
    z_range := PySem.W.mg_none_of X G z_range }
  exact ⟨PySem.W.fnOf "law" "law" (defArgs s_law) (defBody s_law) (defScope s_law) .none kV35 dc35 pm35 an35 cd35 ct35, fun s v => .of_eq rfl, fun base _ _ => ok_law T⟩
end My
open PySem PySem.W PyProof.Rows
set_option maxHeartbeats 0 in
theorem PySem.Challenge.cw_onestepcourt_k14_one_step_of_registers_holds : PySem.Challenge.rw_onestepcourt_k14_one_step_of_registers.Holds := by
  w_on; o_law; k_head; (case hw => w_witness2)
  k_fill
  refine L2.walk_of (l := PySem.Challenge.rw_onestepcourt_k14_one_step_of_registers) (n := 63) (k := 6) (x := "script") (CX := fun _ => L2.CX0) (sp := fun w => My.sp_law _) rfl (by decide) rfl ⟨rfl, by decide, by decide⟩ (fun w h Y => PySem.W.kIn_of Y) ?F (fun _ _ a ns hl _ hS => My.sp_law_of hl hS) (fun _ _ _ _ _ h => h)
  case F =>
    intro w mg fa h KX G hmg
    refine' My.all_mk KX G hmg ?aC_Digests ?a0 ?l0 ?c0 ?k0 ?a1 ?l1 ?c1 ?k1 ?a2 ?l2 ?c2 ?k2 ?a3 ?l3 ?c3 ?k3 ?a4 ?l4 ?c4 ?k4 ?a5 ?l5 ?c5 ?k5 ?a6 ?l6 ?c6 ?k6 ?a7 ?l7 ?c7 ?k7 ?a8 ?l8 ?c8 ?k8 ?a9 ?l9 ?c9 ?k9 ?a10 ?l10 ?c10 ?k10 ?a11 ?l11 ?c11 ?k11 ?a12 ?l12 ?c12 ?k12 ?a13 ?l13 ?c13 ?k13 ?a14 ?i14 ?l14 ?c14 ?k14 ?a15 ?i15 ?l15 ?c15 ?k15 ?a16 ?i16 ?l16 ?c16 ?k16 ?a17 ?i17 ?l17 ?c17 ?k17 ?a18 ?i18 ?l18 ?c18 ?k18 ?a19 ?l19 ?c19 ?k19 ?a20 ?l20 ?c20 ?k20 ?a21 ?l21 ?c21 ?k21 ?a22 ?l22 ?c22 ?k22 ?a23 ?l23 ?c23 ?k23 ?a24 ?l24 ?c24 ?k24 ?a25 ?l25 ?c25 ?k25 ?a26 ?l26 ?c26 ?k26 ?a27 ?l27 ?c27 ?k27 ?a28 ?l28 ?c28 ?k28 ?a29 ?l29 ?c29 ?k29 ?a30 ?l30 ?c30 ?k30 ?a31 ?l31 ?c31 ?k31 ?a32 ?l32 ?c32 ?k32 ?a33 ?l33 ?c33 ?k33 ?a34 ?l34 ?c34 ?k34 ?a35 ?l35 ?c35 ?k35 ?pg_Digests ?hd_Digests ?po_Digests ?sa_Digests ?mk_Digests ?kc_Digests ?n_Digests_bits ?n_Digests_book ?n_Digests_modulus ?g_MARKS ?w_MARKS ?v_MARKS ?g_MOST_TOLD ?g_MOST_WORD ?g_NAMES ?w_NAMES ?v_NAMES ?g_PLACES ?g_SIGNS ?w_SIGNS ?v_SIGNS ?v_cMARKS ?v_dMARKS ?z_int ?z_len ?z_list ?z_max ?z_range
    (case aC_Digests => k_is)
    (case a0 => k_is)
    (case l0 => k_is)
    (case c0 => k_is)
    (case k0 => k_is)
    (case a1 => k_is)
    (case l1 => k_is)
    (case c1 => k_is)
    (case k1 => k_is)
    (case a2 => k_is)
    (case l2 => k_is)
    (case c2 => k_is)
    (case k2 => k_is)
    (case a3 => k_is)
    (case l3 => k_is)
    (case c3 => k_is)
    (case k3 => k_is)
    (case a4 => k_is)
    (case l4 => k_is)
    (case c4 => k_is)
    (case k4 => k_is)
    (case a5 => k_is)
    (case l5 => k_is)
    (case c5 => k_is)
    (case k5 => k_is)
    (case a6 => k_is)
    (case l6 => k_is)
    (case c6 => k_is)
    (case k6 => k_is)
    (case a7 => k_is)
    (case l7 => k_is)
    (case c7 => k_is)
    (case k7 => k_is)
    (case a8 => k_is)
    (case l8 => k_is)
    (case c8 => k_is)
    (case k8 => k_is)
    (case a9 => k_is)
    (case l9 => k_is)
    (case c9 => k_is)
    (case k9 => k_is)
    (case a10 => k_is)
    (case l10 => k_is)
    (case c10 => k_is)
    (case k10 => k_is)
    (case a11 => k_is)
    (case l11 => k_is)
    (case c11 => k_is)
    (case k11 => k_is)
    (case a12 => k_is)
    (case l12 => k_is)
    (case c12 => k_is)
    (case k12 => k_is)
    (case a13 => k_is)
    (case l13 => k_is)
    (case c13 => k_is)
    (case k13 => k_is)
    (case a14 => k_is)
    (case i14 => k_is)
    (case l14 => k_is)
    (case c14 => k_is)
    (case k14 => k_is)
    (case a15 => k_is)
    (case i15 => k_is)
    (case l15 => k_is)
    (case c15 => k_is)
    (case k15 => k_is)
    (case a16 => k_is)
    (case i16 => k_is)
    (case l16 => k_is)
    (case c16 => k_is)
    (case k16 => k_is)
    (case a17 => k_is)
    (case i17 => k_is)
    (case l17 => k_is)
    (case c17 => k_is)
    (case k17 => k_is)
    (case a18 => k_is)
    (case i18 => k_is)
    (case l18 => k_is)
    (case c18 => k_is)
    (case k18 => k_is)
    (case a19 => k_is)
    (case l19 => k_is)
    (case c19 => k_is)
    (case k19 => k_is)
    (case a20 => k_is)
    (case l20 => k_is)
    (case c20 => k_is)
    (case k20 => k_is)
    (case a21 => k_is)
    (case l21 => k_is)
    (case c21 => k_is)
    (case k21 => k_is)
    (case a22 => k_is)
    (case l22 => k_is)
    (case c22 => k_is)
    (case k22 => k_is)
    (case a23 => k_is)
    (case l23 => k_is)
    (case c23 => k_is)
    (case k23 => k_is)
    (case a24 => k_is)
    (case l24 => k_is)
    (case c24 => k_is)
    (case k24 => k_is)
    (case a25 => k_is)
    (case l25 => k_is)
    (case c25 => k_is)
    (case k25 => k_is)
    (case a26 => k_is)
    (case l26 => k_is)
    (case c26 => k_is)
    (case k26 => k_is)
    (case a27 => k_is)
    (case l27 => k_is)
    (case c27 => k_is)
    (case k27 => k_is)
    (case a28 => k_is)
    (case l28 => k_is)
    (case c28 => k_is)
    (case k28 => k_is)
    (case a29 => k_is)
    (case l29 => k_is)
    (case c29 => k_is)
    (case k29 => k_is)
    (case a30 => k_is)
    (case l30 => k_is)
    (case c30 => k_is)
    (case k30 => k_is)
    (case a31 => k_is)
    (case l31 => k_is)
    (case c31 => k_is)
    (case k31 => k_is)
    (case a32 => k_is)
    (case l32 => k_is)
    (case c32 => k_is)
    (case k32 => k_is)
    (case a33 => k_is)
    (case l33 => k_is)
    (case c33 => k_is)
    (case k33 => k_is)
    (case a34 => k_is)
    (case l34 => k_is)
    (case c34 => k_is)
    (case k34 => k_is)
    (case a35 => k_is)
    (case l35 => k_is)
    (case c35 => k_is)
    (case k35 => k_is)
    (case pg_Digests => k_is)
    (case hd_Digests => k_is)
    (case po_Digests => k_is)
    (case sa_Digests => k_is)
    (case mk_Digests => k_is)
    (case kc_Digests => k_is)
    (case n_Digests_bits => k_is)
    (case n_Digests_book => k_is)
    (case n_Digests_modulus => k_is)
    (case g_MARKS => k_is)
    (case w_MARKS => k_is)
    (case v_MARKS => first | rfl | with_unfolding_all rfl | kernel_rfl)
    (case g_MOST_TOLD => k_is)
    (case g_MOST_WORD => k_is)
    (case g_NAMES => k_is)
    (case w_NAMES => k_is)
    (case v_NAMES => first | rfl | with_unfolding_all rfl | kernel_rfl)
    (case g_PLACES => k_is)
    (case g_SIGNS => k_is)
    (case w_SIGNS => k_is)
    (case v_SIGNS => first | rfl | with_unfolding_all rfl | kernel_rfl)
    (case v_cMARKS => first | rfl | with_unfolding_all rfl | kernel_rfl)
    (case v_dMARKS => first | rfl | with_unfolding_all rfl | kernel_rfl)
    (case z_int => k_is)
    (case z_len => k_is)
    (case z_list => k_is)
    (case z_max => k_is)
    (case z_range => k_is)


