import PyProof.Rows.All
import Wide.All
import OpenK.AllK
import Wide.FinOn
import HandS.ForMost
import HandS.Wide
import HandS.Evl
import HandS.IsInst
import HandS.TupAny
import HandS.TupMul
import HandS.TupLe
import HandS.Dict
import HandS.Conv
import HandS.ForExc
import HandS.TryMany
import HandS.TryOnly
import HandS.ExcInit
import HandS.ExcField
import PySem.Challenge.RW_onestepcourt_k00_errors_and_limits
set_option Elab.async false
set_option linter.all false
set_option maxRecDepth 100000
namespace Kit
open PySem PySem.Spec PyProof.Rows L2 Evl
abbrev St := L2.St
/-! ### facts of the text -/
structure GFn (K : PySem.W.Frag) (x qual : Str) (st : Stmt) (ps : List Str) where
  f : Addr
  fd : FuncData
  F : Fun K x qual st f fd
  b : Binds K fd ps []
structure GFn' (K : PySem.W.Frag) (mg : Str → Option Value) (x qual : Str) (st : Stmt) (ps : List Str) extends GFn K x qual st ps where
  g : mg x = some (.ref f)
structure GCl (K : PySem.W.Frag) (mg : Str → Option Value) (x : Str) (fI : Addr) where
  C : Addr
  cl : Cls K C
  M : Mk K C fI
  g : mg x = some (.ref C)
/-- an attribute read; a method's receiver; a new instance; an attribute stored -/
def FldOf (K : PySem.W.Frag) (f : Str) (x : V) (H : Hp) (Q : VK) : Prop := ∃ a C dx fs v, x = .ref a ∧ H a = some (.ins C dx fs) ∧ Cls K C ∧ NoAttr K C f ∧ fs.lookup f = some v ∧ Q v H
def InsOf (C : Addr) (m : Str) (x : V) (H : Hp) (R : Prop) : Prop := ∃ a dx fs, x = .ref a ∧ H a = some (.ins C dx fs) ∧ fs.lookup m = none ∧ R
def MakeOf (C : Addr) (sp : Sp) (E : XK) (vs : List V) (H : Hp) (Q : VK) : Prop := ∀ x dx, H x = none → H dx = none → dx ≠ x → sp (.ref x :: vs) (upd (upd H dx (.own x)) x (.ins C dx [])) (fun v H2 => v = .non ∧ Q (.ref x) H2) E
def PutOf (K : PySem.W.Frag) (f : Str) (y x : V) (H : Hp) (R : Hp → Prop) : Prop := ∃ a C dx fs, x = .ref a ∧ H a = some (.ins C dx fs) ∧ Cls K C ∧ NoAttr K C f ∧ fs.length < 1000 ∧ R (upd H a (.ins C dx (putF f y fs)))
/-- a new object of so many items -/
def Alloc (n : Nat) (o : HO) (H : Hp) (Q : VK) : Prop := n ≤ sizeLine ∧ ∀ p, H p = none → Q (.ref p) (upd H p o)
/-! ### a statement with its four ways out -/
def Sm (t : TS) (nx : St → Hp → Prop) (rt : VK) (bk ct : St → Hp → Prop) (σ : St) (H : Hp) : Prop := t ⟨nx, rt, bk, ct⟩ σ H
section
variable {σ : St} {H H1 H2 : Hp} {Q : VK} {R : Bool → Hp → Prop} {A : List V → Hp → Prop} {i n : Nat} {v x y : V} {ta tb te tv : TE} {tl tr : TA} {b : Bool} {K : PySem.W.Frag} {a C dx p : Addr} {fs : List (Str × V)} {f : Str} {t u c : TT}
theorem w_var (h : σ[i]? = some (some v)) (q : Q v H) : tVar i σ H Q := ⟨v, h, q⟩
theorem w_c (q : Q v H) : tC v σ H Q := q
theorem w_op {r : R2} (h : ta σ H fun x H1 => tb σ H1 fun y H2 => r x y H2 Q) : tOp r ta tb σ H Q := h
theorem w_un {r : V → Hp → VK → Prop} (h : ta σ H fun x H1 => r x H1 Q) : tUn r ta σ H Q := h
theorem w_cb {r : List V → Hp → VK → Prop} (h : tl σ H fun vs H1 => r vs H1 Q) : tCB r tl σ H Q := h
theorem w_nil (q : A [] H) : tNil σ H A := q
theorem w_cons (h : te σ H fun x H1 => tr σ H1 fun xs H2 => A (x :: xs) H2) : tCons te tr σ H A := h
theorem w_tup (h : tl σ H fun xs H1 => Alloc xs.length (.tup xs) H1 Q) : tTup tl σ H Q := h
theorem w_lst (h : tl σ H fun xs H1 => Alloc xs.length (.lst xs) H1 Q) : tLst tl σ H Q := h
theorem w_call {sp : Sp} {dvs : List V} {E : XK} (h : tl σ H fun vs H1 => sp (vs ++ dvs) H1 Q E) : tCall sp dvs E tl σ H Q := h
theorem w_test (h : te σ H fun x H' => ∃ k, x = .bl k ∧ R k H') : tTest te σ H R := h
theorem w_B (h : te σ H fun x H' => ∃ k, x = .bl k ∧ R k H') : tB te σ H R := h
theorem w_and (h : t σ H fun c H1 => if c = true then u σ H1 R else R false H1) : tAnd t u σ H R := h
theorem w_or (h : t σ H fun c H1 => if c = true then R true H1 else u σ H1 R) : tOr t u σ H R := h
theorem w_not (h : t σ H fun c H1 => R (!c) H1) : tNot t σ H R := h
theorem w_andV (h : ta σ H fun x H1 => ∃ c, x = .bl c ∧ if c = true then tb σ H1 Q else Q (.bl false) H1) : tAndV ta tb σ H Q := h
theorem w_orV (h : ta σ H fun x H1 => ∃ c, x = .bl c ∧ if c = true then Q (.bl true) H1 else tb σ H1 Q) : tOrV ta tb σ H Q := h
theorem w_notV (h : ta σ H fun x H1 => ∃ c, x = .bl c ∧ Q (.bl (!c)) H1) : tNotV ta σ H Q := h
theorem w_ifE (h : t σ H fun c H1 => if c = true then ta σ H1 Q else tb σ H1 Q) : tIf t ta tb σ H Q := h
theorem w_fld (h : ta σ H fun x H1 => FldOf K f x H1 Q) : tFld K ta f σ H Q := h
theorem w_rd {v : V} (h : H a = some (.ins C dx fs)) (cl : Cls K C) (n : NoAttr K C f) (l : fs.lookup f = some v) (q : Q v H) : FldOf K f (.ref a) H Q := ⟨a, C, dx, fs, v, rfl, h, cl, n, l, q⟩
theorem w_meth {m : Str} {sp : Sp} {E : XK} (h : ta σ H fun x H1 => InsOf C m x H1 (tl σ H1 fun vs H2 => sp (x :: vs) H2 Q E)) : tMeth C m sp [] E ta tl σ H Q := by
  have e : tMeth C m sp [] E ta tl σ H Q = (ta σ H fun x H1 => InsOf C m x H1 (tl σ H1 fun vs H2 => sp (x :: vs) H2 Q E)) := by unfold tMeth InsOf; simp only [List.append_nil]
  rw [e]; exact h
theorem w_ins {m : Str} {R : Prop} (h : H a = some (.ins C dx fs)) (l : fs.lookup m = none) (r : R) : InsOf C m (.ref a) H R := ⟨a, dx, fs, rfl, h, l, r⟩
theorem w_make {sp : Sp} {E : XK} (h : tl σ H fun vs H1 => MakeOf C sp E vs H1 Q) : tMake C sp [] E tl σ H Q := by
  have e : tMake C sp [] E tl σ H Q = (tl σ H fun vs H1 => MakeOf C sp E vs H1 Q) := by unfold tMake MakeOf; simp only [List.append_nil]
  rw [e]; exact h
theorem w_made {sp : Sp} {E : XK} {vs : List V} (h : ∀ x dx H2, H x = none → Ex H H2 → H2 x = some (.ins C dx []) → sp (.ref x :: vs) H2 (fun v H3 => v = .non ∧ Q (.ref x) H3) E) : MakeOf C sp E vs H Q :=
  fun x dx hx hd hn => h x dx _ hx (fun b o hb => by rw [upd_ne (ne_of_none hb hx), upd_ne (ne_of_none hb hd)]; exact hb) upd_same
theorem w_bl {k : Bool} (q : R k H) : ∃ k', V.bl k = .bl k' ∧ R k' H := ⟨k, rfl, q⟩
theorem w_blE {k : Bool} {P : Bool → Prop} (q : P k) : ∃ k', V.bl k = .bl k' ∧ P k' := ⟨k, rfl, q⟩
/-- operators -/
theorem w_I0 {g : Int → Int → V} {i j : Int} (q : Q (g i j) H) : rI0 g (.int i) (.int j) H Q := ⟨i, j, rfl, rfl, q⟩
theorem w_I {C : Int → Int → Prop} {g : Int → Int → V} {i j : Int} (hc : C i j) (q : Q (g i j) H) : rI C g (.int i) (.int j) H Q := ⟨i, j, rfl, rfl, hc, q⟩
theorem w_U {g : Int → V} {i : Int} (q : Q (g i) H) : rU g (.int i) H Q := ⟨i, rfl, q⟩
theorem w_eqI {i j : Int} (q : Q (.bl (decide (i = j))) H) : rEq (.int i) (.int j) H Q := ⟨rfl, by
  have e : decide (V.int i = V.int j) = decide (i = j) := by
    by_cases h : i = j
    · subst h; rw [decide_eq_true rfl, decide_eq_true rfl]
    · rw [decide_eq_false h, decide_eq_false (fun z => h (V.int.inj z))]
  rw [e]; exact q⟩
theorem w_neI {i j : Int} (q : Q (.bl (!decide (i = j))) H) : rNe (.int i) (.int j) H Q := ⟨rfl, by
  have e : decide (V.int i = V.int j) = decide (i = j) := by
    by_cases h : i = j
    · subst h; rw [decide_eq_true rfl, decide_eq_true rfl]
    · rw [decide_eq_false h, decide_eq_false (fun z => h (V.int.inj z))]
  rw [e]; exact q⟩
theorem w_eqB {i j : Bool} (q : Q (.bl (i == j)) H) : rEq (.bl i) (.bl j) H Q := ⟨rfl, by rw [dec_bl]; exact q⟩
theorem w_neB {i j : Bool} (q : Q (.bl (!(i == j))) H) : rNe (.bl i) (.bl j) H Q := ⟨rfl, by rw [dec_bl]; exact q⟩
theorem w_eqS {i : Str} (q : Q (.bl true) H) : rEq (.str i) (.str i) H Q := ⟨rfl, by rw [decide_eq_true rfl]; exact q⟩
theorem w_eqSF {i j : Str} (h : decide (i = j) = false) (q : Q (.bl false) H) : rEq (.str i) (.str j) H Q := ⟨rfl, by
  rw [decide_eq_false (fun z => of_decide_eq_false h (V.str.inj z))]; exact q⟩
theorem w_eqSd {i j : Str} (q : Q (.bl (decide (i = j))) H) : rEq (.str i) (.str j) H Q := ⟨rfl, by
  have e : decide (V.str i = V.str j) = decide (i = j) := by
    by_cases h : i = j
    · subst h; rw [decide_eq_true rfl, decide_eq_true rfl]
    · rw [decide_eq_false h, decide_eq_false (fun z => h (V.str.inj z))]
  rw [e]; exact q⟩
theorem w_neS {i : Str} (q : Q (.bl false) H) : rNe (.str i) (.str i) H Q := ⟨rfl, by rw [decide_eq_true rfl]; exact q⟩
theorem w_isN (q : Q (.bl (decide (x = .non))) H) : (fun (x y : V) (H : Hp) (Q : VK) => y = .non ∧ Q (.bl (decide (x = .non))) H) x .non H Q := ⟨rfl, q⟩
theorem w_ixL {p : Addr} {xs : List V} {i : Int} (h : SqL K H p xs) (ha : atI xs i = some v) (q : Q v H) : rIxL K (.ref p) (.int i) H Q := ⟨p, xs, i, v, rfl, rfl, h, ha, q⟩
theorem w_ixT {p : Addr} {xs : List V} {i : Int} (h : SqT K H p xs) (ha : atI xs i = some v) (q : Q v H) : rIxT K (.ref p) (.int i) H Q := ⟨p, xs, i, v, rfl, rfl, h, ha, q⟩
theorem w_inL {neg : Bool} {p : Addr} {xs : List V} (h : SqL K H p xs) (hx : flatV x = true) (ha : xs.all flatV = true) (q : Q (.bl (if neg then !inV x xs else inV x xs)) H) : rIn K neg x (.ref p) H Q := ⟨p, xs, rfl, Or.inl h, hx, ha, q⟩
theorem w_inT {neg : Bool} {p : Addr} {xs : List V} (h : SqT K H p xs) (hx : flatV x = true) (ha : xs.all flatV = true) (q : Q (.bl (if neg then !inV x xs else inV x xs)) H) : rIn K neg x (.ref p) H Q := ⟨p, xs, rfl, Or.inr h, hx, ha, q⟩
theorem w_call0 {sp : Sp} {E : XK} (h : tl σ H fun vs H1 => sp vs H1 Q E) : tCall sp [] E tl σ H Q := by
  have e : tCall sp [] E tl σ H Q = (tl σ H fun vs H1 => sp vs H1 Q E) := by unfold tCall; simp only [List.append_nil]
  rw [e]; exact h
theorem w_inLt {p : Addr} {xs : List V} (h : SqL K H p xs ∨ SqT K H p xs) (hb : (flatV x && xs.all flatV && inV x xs) = true) (q : Q (.bl true) H) : rIn K false x (.ref p) H Q := by
  simp only [Bool.and_eq_true] at hb
  exact ⟨p, xs, rfl, h, hb.1.1, hb.1.2, by rw [hb.2]; exact q⟩
theorem w_inLf {p : Addr} {xs : List V} (h : SqL K H p xs ∨ SqT K H p xs) (hb : (flatV x && xs.all flatV && !inV x xs) = true) (q : Q (.bl false) H) : rIn K false x (.ref p) H Q := by
  simp only [Bool.and_eq_true, Bool.not_eq_true'] at hb
  exact ⟨p, xs, rfl, h, hb.1.1, hb.1.2, by rw [hb.2]; exact q⟩
/-- built-ins by names -/
def rInt : List V → Hp → VK → Prop := fun xs H Q => (∃ i, xs = [.int i] ∧ Q (.int i) H) ∨ ∃ k, xs = [.bl k] ∧ Q (.int (if k then 1 else 0)) H
def rMax : List V → Hp → VK → Prop := fun xs H Q => ∃ i j, xs = [.int i, .int j] ∧ Q (.int (if j > i then j else i)) H
def rMin : List V → Hp → VK → Prop := fun xs H Q => ∃ i j, xs = [.int i, .int j] ∧ Q (.int (if j < i then j else i)) H
def rAbs : List V → Hp → VK → Prop := fun xs H Q => ∃ i, xs = [.int i] ∧ Q (.int (if i < 0 then -i else i)) H
def rTupS (K : PySem.W.Frag) : List V → Hp → VK → Prop := fun xs H Q => ∃ p ys, xs = [.ref p] ∧ ((SqL K H p ys ∧ ∀ l, H l = none → Q (.ref l) (upd H l (.tup ys))) ∨ (SqT K H p ys ∧ Q (.ref p) H))
theorem k_int {X : Cx} : CallR X (.type "int") rInt := call_int1
theorem k_max {X : Cx} (hc : X.calm = true) : CallR X (.builtin "max") rMax := call_max2 hc
theorem k_min {X : Cx} (hc : X.calm = true) : CallR X (.builtin "min") rMin := call_min2 hc
theorem k_abs {X : Cx} : CallR X (.builtin "abs") rAbs := call_abs
theorem k_len {X : Cx} : CallR X (.builtin "len") (rLenS X.K) := call_len_seq
theorem k_list {X : Cx} : CallR X (.type "list") (rListS X.K) := call_list_of
theorem k_tuple {X : Cx} : CallR X (.type "tuple") (rTupS X.K) := call_tuple_of
theorem w_int {i : Int} (q : Q (.int i) H) : rInt [.int i] H Q := .inl ⟨i, rfl, q⟩
theorem w_intB {k : Bool} (q : Q (.int (if k = true then 1 else 0)) H) : rInt [.bl k] H Q := .inr ⟨k, rfl, q⟩
theorem w_max {i j : Int} (q : Q (.int (if j > i then j else i)) H) : rMax [.int i, .int j] H Q := ⟨i, j, rfl, q⟩
theorem w_min {i j : Int} (q : Q (.int (if j < i then j else i)) H) : rMin [.int i, .int j] H Q := ⟨i, j, rfl, q⟩
theorem w_abs {i : Int} (q : Q (.int (if i < 0 then -i else i)) H) : rAbs [.int i] H Q := ⟨i, rfl, q⟩
theorem w_len {p : Addr} {xs : List V} (h : SqL K H p xs ∨ SqT K H p xs) (q : Q (.int (xs.length : Int)) H) : rLenS K [.ref p] H Q := ⟨p, xs, rfl, h, q⟩
theorem w_list {p : Addr} {xs : List V} (h : SqL K H p xs ∨ SqT K H p xs) (q : ∀ l H2, H l = none → Ex H H2 → H2 l = some (.lst xs) → Q (.ref l) H2) : rListS K [.ref p] H Q := ⟨p, xs, rfl, h, fun l hl => q l _ hl (Ex.new hl) upd_same⟩
theorem w_tuple {p : Addr} {xs : List V} (h : SqL K H p xs) (q : ∀ l H2, H l = none → Ex H H2 → H2 l = some (.tup xs) → Q (.ref l) H2) : rTupS K [.ref p] H Q := ⟨p, xs, rfl, .inl ⟨h, fun l hl => q l _ hl (Ex.new hl) upd_same⟩⟩
theorem w_tupleT {p : Addr} {xs : List V} (h : SqT K H p xs) (q : Q (.ref p) H) : rTupS K [.ref p] H Q := ⟨p, xs, rfl, .inr ⟨h, q⟩⟩
def rIsNo : R2 := fun x y H Q => y = .non ∧ Q (.bl (decide (x = .non))) H
def rNotNo : R2 := fun x y H Q => y = .non ∧ Q (.bl (!decide (x = .non))) H
theorem k_isN {X : Cx} : OpR X (compareOp .Is) rIsNo := op_isN
theorem k_notN {X : Cx} : OpR X (compareOp .IsNot) rNotNo := op_notN
theorem w_isNN (q : Q (.bl true) H) : rIsNo .non .non H Q := ⟨rfl, q⟩
theorem w_isNI {i : Int} (q : Q (.bl false) H) : rIsNo (.int i) .non H Q := ⟨rfl, q⟩
theorem w_isNB {i : Bool} (q : Q (.bl false) H) : rIsNo (.bl i) .non H Q := ⟨rfl, q⟩
theorem w_isNR {i : Addr} (q : Q (.bl false) H) : rIsNo (.ref i) .non H Q := ⟨rfl, q⟩
theorem w_notNN (q : Q (.bl false) H) : rNotNo .non .non H Q := ⟨rfl, q⟩
theorem w_notNI {i : Int} (q : Q (.bl true) H) : rNotNo (.int i) .non H Q := ⟨rfl, q⟩
theorem w_notNB {i : Bool} (q : Q (.bl true) H) : rNotNo (.bl i) .non H Q := ⟨rfl, q⟩
theorem w_notNR {i : Addr} (q : Q (.bl true) H) : rNotNo (.ref i) .non H Q := ⟨rfl, q⟩
theorem w_dget {td ty : TE} (h : td σ H fun x H1 => ty σ H1 fun y H2 => ∃ a v, x = .ref a ∧ DGet H2 a y (some v) ∧ Q v H2) : tDGet td ty σ H Q := h
theorem w_disp {trs : List (TE × TE)} (h : ∀ p H1, H p = none → Ex H H1 → H1 p = some (.dK []) → tPairs trs σ H1 fun ps H2 => H2 p = some (.dK []) ∧ ∃ kvs : List (Key × V), ps = kvs.map (fun kv => (kV kv.1, kv.2)) ∧ kvs.length ≤ 15 ∧ Q (.ref p) (upd H2 p (.dK (mergeK [] kvs)))) : tDisp trs σ H Q :=
  fun p hp => h p _ hp (Ex.new hp) upd_same
theorem w_pp {tk tv : TE} {r : List (TE × TE)} {B : List (V × V) → Hp → Prop} (h : tk σ H fun x H1 => tv σ H1 fun y H2 => tPairs r σ H2 fun ps H3 => B ((x, y) :: ps) H3) : tPairs ((tk, tv) :: r) σ H B := h
theorem w_pn {B : List (V × V) → Hp → Prop} (h : B [] H) : tPairs [] σ H B := h
theorem w_bm {T : String} {r : V → List V → Hp → VK → Prop} {to : TE} (h : to σ H fun x H1 => tyV K T x H1 ∧ tl σ H1 fun xs H2 => r x xs H2 Q) : tBM K T r to tl σ H Q := h
theorem w_bm0 {T : String} {r : V → List V → Hp → VK → Prop} {to : TE} (h : to σ H fun x H1 => tyV K T x H1 ∧ r x [] H1 Q) : tBM0 K T r to σ H Q := h
theorem w_tyL {p : Addr} {xs : List V} {W : Prop} (h : SqL K H p xs) (r : W) : tyV K "list" (.ref p) H ∧ W := ⟨Or.inl ⟨rfl, _, h⟩, r⟩
theorem w_app {l : Addr} {xs : List V} {y : V} (h : H l = some (.lst xs)) (hz : xs.length < 100000) (q : ∀ H2, (∀ b o, b ≠ l → H b = some o → H2 b = some o) → H2 l = some (.lst (xs ++ [y])) → Q .non H2) : rAppend (.ref l) [y] H Q :=
  ⟨l, xs, y, rfl, rfl, h, sz_lt hz, q _ (fun b o n hb => by rw [upd_ne n]; exact hb) upd_same⟩
theorem w_sl {r : V → Option Int → Option Int → Hp → VK → Prop} {to th : TO} (h : te σ H fun x H1 => to σ H1 fun l H2 => th σ H2 fun u H3 => r x l u H3 Q) : tSl r te to th σ H Q := h
theorem w_po {W : Option Int → Hp → Prop} (h : W none H) : tNoPart σ H W := h
def PartOf (W : Option Int → Hp → Prop) (x : V) (H : Hp) : Prop := ∃ i, x = .int i ∧ W (some i) H
theorem w_ps {W : Option Int → Hp → Prop} (h : te σ H fun x H1 => PartOf W x H1) : tPart te σ H W := h
theorem w_pi {W : Option Int → Hp → Prop} {i : Int} (h : W (some i) H) : PartOf W (.int i) H := ⟨i, rfl, h⟩
theorem w_slL {a : Addr} {xs : List V} {lo hi : Option Int} (h : SqL K H a xs) (q : ∀ p H2, H p = none → Ex H H2 → H2 p = some (.lst (cutV xs lo hi)) → Q (.ref p) H2) : rSlL K (.ref a) lo hi H Q := ⟨a, xs, rfl, h, fun p hp => q p _ hp (Ex.new hp) upd_same⟩
theorem cut_whole {xs : List V} {lo hi : Option Int} (h : HT.sIx xs.length 0 lo = 0 ∧ HT.sIx xs.length xs.length hi = xs.length) : cutV xs lo hi = xs := by
  unfold cutV
  rw [h.1, h.2]
  simp
theorem w_slT {a : Addr} {xs : List V} {lo hi : Option Int} (h : SqT K H a xs) (q : ∀ p H2, Ex H H2 → SqT K H2 p (cutV xs lo hi) → Q (.ref p) H2) : rSlA K (.ref a) lo hi H Q :=
  ⟨a, xs, rfl, h, fun e => q a H (Ex.refl H) (by rw [cut_whole e]; exact h), fun _ p hp => q p _ (Ex.new hp) (st_of upd_same)⟩
theorem w_catT {a b : Addr} {xs ys : List V} (h : SqT K H a xs) (h2 : SqT K H b ys) (hl : xs.length + ys.length ≤ 100000) (q : ∀ p H2, Ex H H2 → SqT K H2 p (xs ++ ys) → Q (.ref p) H2) : rCatA K (.ref a) (.ref b) H Q :=
  ⟨a, b, xs, ys, rfl, rfl, h, h2, sz_of hl, fun e => q b H (Ex.refl H) (by rw [e]; exact h2), fun _ e => q a H (Ex.refl H) (by rw [e, List.append_nil]; exact h), fun _ _ p hp => q p _ (Ex.new hp) (st_of upd_same)⟩
theorem w_catL {a b : Addr} {xs ys : List V} (h : H a = some (.lst xs)) (h2 : H b = some (.lst ys)) (hl : xs.length + ys.length ≤ 100000) (q : ∀ p H2, H p = none → Ex H H2 → H2 p = some (.lst (xs ++ ys)) → Q (.ref p) H2) : rCat (.ref a) (.ref b) H Q :=
  ⟨a, b, xs, ys, rfl, rfl, h, h2, sz_of hl, fun p hp => q p _ hp (Ex.new hp) upd_same⟩
theorem w_isi {x : V} {n : String} {t : String} {b : Bool} (ty : TyX K H x (.type t)) (e : kitB t n = some b) (q : Q (.bl b) H) : rIsi K [x, .ty n] H Q := ⟨x, .ty n, .type t, .type n, b, rfl, ClsV.ty n, ty, kit_ty e, q⟩
theorem w_isiInt {i : Int} {n : String} {b : Bool} (e : kitB "int" n = some b) (q : Q (.bl b) H) : rIsi K [.int i, .ty n] H Q := w_isi (.base (.int i)) e q
theorem w_isiNon {n : String} {b : Bool} (e : kitB "NoneType" n = some b) (q : Q (.bl b) H) : rIsi K [.non, .ty n] H Q := w_isi (.base .non) e q
theorem w_isiBl {i : Bool} {n : String} {b : Bool} (e : kitB "bool" n = some b) (q : Q (.bl b) H) : rIsi K [.bl i, .ty n] H Q := w_isi (.base (.bl i)) e q
theorem w_isiStr {i : Str} {n : String} {b : Bool} (e : kitB "str" n = some b) (q : Q (.bl b) H) : rIsi K [.str i, .ty n] H Q := w_isi (.base (.str i)) e q
theorem w_isiTup {p : Addr} {xs : List V} {n : String} {b : Bool} (h : SqT K H p xs) (e : kitB "tuple" n = some b) (q : Q (.bl b) H) : rIsi K [.ref p, .ty n] H Q := by
  rcases h with (h | ⟨o, h⟩) | ⟨o, _, _, h, c, _⟩
  · exact w_isi (.base (.tup h)) e q
  · exact w_isi (.fTuple h) e q
  · exact w_isi (.kTuple h c) e q
theorem w_isiLst {p : Addr} {xs : List V} {n : String} {b : Bool} (h : SqL K H p xs) (e : kitB "list" n = some b) (q : Q (.bl b) H) : rIsi K [.ref p, .ty n] H Q := by
  rcases h with (h | ⟨o, h⟩) | ⟨o, _, _, h, c, _⟩
  · exact w_isi (.base (.lst h)) e q
  · exact w_isi (.base (.frz h)) e q
  · exact w_isi (.kList h c) e q
theorem w_isiDK {p : Addr} {xs : List (Key × V)} {n : String} {b : Bool} (h : H p = some (.dK xs)) (e : kitB "dict" n = some b) (q : Q (.bl b) H) : rIsi K [.ref p, .ty n] H Q := w_isi (.base (.dK h)) e q
theorem w_neD {d e : PyData} (hx : Dp K H x d) (hy : Dp K H y e) (sd : SeqAt.shaped d = true) (se : SeqAt.shaped e = true) (q : Q (.bl (!PyData.eqv d e)) H) : rNeD K x y H Q := ⟨d, e, hx, hy, sd, se, q⟩
theorem w_eqD {d e : PyData} (hx : Dp K H x d) (hy : Dp K H y e) (sd : SeqAt.shaped d = true) (se : SeqAt.shaped e = true) (q : Q (.bl (PyData.eqv d e)) H) : rEqD K x y H Q := ⟨d, e, hx, hy, sd, se, q⟩
/-- a flat value as data -/
def flatD : V → PyData
  | .bl b => .bool b
  | .int i => .int i
  | .str x => .str x
  | _ => .none
def isFl : V → Bool
  | .non | .bl _ | .int _ | .str _ => true
  | _ => false
theorem dp_flat {v : V} (h : isFl v = true) : Dp K H v (flatD v) := by
  cases v <;> first | exact .non | exact .bl _ | exact .int _ | exact .str _ | cases h
theorem dp_flats : ∀ {vs : List V}, vs.all isFl = true → DpAll K H vs (vs.map flatD)
  | [], _ => .nil
  | v :: vs, h => by
    rw [List.all_cons, Bool.and_eq_true] at h
    exact .cons (dp_flat h.1) (dp_flats h.2)
theorem dp_lst {p : Addr} {vs : List V} (h : SqL K H p vs) (f : vs.all isFl = true) : Dp K H (.ref p) (.list (vs.map flatD)) := .lst h (dp_flats f)
theorem dp_tup {p : Addr} {vs : List V} (h : SqT K H p vs) (f : vs.all isFl = true) : Dp K H (.ref p) (.tuple (vs.map flatD)) := .tup h (dp_flats f)
theorem int_at {ns : List Int} {k : Int} (h0 : 0 ≤ k) (h : k < ((ns.map V.int).length : Int)) : ∃ c, atI (ns.map V.int) k = some (.int c) := by
  obtain ⟨j, rfl⟩ := Int.eq_ofNat_of_zero_le h0
  have hj : j < ns.length := by rw [List.length_map] at h; omega
  refine ⟨ns[j], atI_nat (j := j) ?_⟩
  rw [List.getElem?_map, List.getElem?_eq_getElem hj]
  rfl
/-- a new object -/
theorem w_new {m : Nat} {o : HO} (hm : m ≤ 100000) (k : ∀ p H2, H p = none → Ex H H2 → H2 p = some o → Q (.ref p) H2) : Alloc m o H Q :=
  ⟨sz_of hm, fun p hp => k p _ hp (Ex.new hp) upd_same⟩
/-- ifs over a known bool -/
theorem i_T {A B : Prop} (h : A) : if true = true then A else B := iteT h
theorem i_F {A B : Prop} (h : B) : if false = true then A else B := iteF h
theorem i_N {A B : Prop} {k : Bool} (h : if k = true then B else A) : if (!k) = true then A else B := by
  cases k
  · exact iteT (by rw [if_neg Bool.false_ne_true] at h; exact h)
  · exact iteF (by rw [if_pos rfl] at h; exact h)
theorem i_D {A B c : Prop} [Decidable c] (h1 : c → A) (h2 : ¬ c → B) : if decide c = true then A else B := by
  by_cases h : c
  · rw [decide_eq_true h]; exact iteT (h1 h)
  · rw [decide_eq_false h]; exact iteF (h2 h)
theorem i_R {A B : Prop} {α : Type} {x : α} [Decidable (x = x)] (h : A) : if decide (x = x) = true then A else B := by rw [decide_eq_true rfl]; exact iteT h
theorem i_DT {A B c : Prop} [Decidable c] (h : c) (h1 : A) : if decide c = true then A else B := by rw [decide_eq_true h]; exact iteT h1
theorem i_DF {A B c : Prop} [Decidable c] (h : ¬ c) (h1 : B) : if decide c = true then A else B := by rw [decide_eq_false h]; exact iteF h1
theorem i_B {A B : Prop} {k : Bool} (h1 : k = true → A) (h2 : k = false → B) : if k = true then A else B := by
  cases k
  · exact iteF (h2 rfl)
  · exact iteT (h1 rfl)
end
section
variable {σ : St} {H : Hp} {nx bk ct : St → Hp → Prop} {rt : VK} {t u : TS} {c : TT} {te : TE} {i : Nat} {K : PySem.W.Frag}
theorem m_norm {σ' : St} (e : σ = σ') (h : Sm t nx rt bk ct σ' H) : Sm t nx rt bk ct σ H := by rw [e]; exact h
theorem m_seq (h : Sm t (fun σ H => Sm u nx rt bk ct σ H) rt bk ct σ H) : Sm (tSeq t u) nx rt bk ct σ H := h
theorem m_cut (M : St → Hp → Prop) (h : Sm t M rt bk ct σ H) (k : ∀ σ H, M σ H → Sm u nx rt bk ct σ H) : Sm (tCut t u) nx rt bk ct σ H := ⟨M, h, k⟩
theorem m_asg (h : te σ H fun v H1 => nx (σ.set i (some v)) H1) : Sm (tAsg te (gName i)) nx rt bk ct σ H := h
theorem m_asgG {g : TG} (h : te σ H fun v H1 => g v σ H1 nx) : Sm (tAsg te g) nx rt bk ct σ H := h
theorem m_ret (h : te σ H rt) : Sm (tRet te) nx rt bk ct σ H := h
theorem m_retN (h : rt .non H) : Sm tRetN nx rt bk ct σ H := h
theorem m_drop (h : te σ H fun _ H1 => nx σ H1) : Sm (tDrop te) nx rt bk ct σ H := h
theorem m_next (h : nx σ H) : Sm tNext nx rt bk ct σ H := h
theorem m_brk (h : bk σ H) : Sm tBreak nx rt bk ct σ H := h
theorem m_cont (h : ct σ H) : Sm tCont nx rt bk ct σ H := h
theorem m_if (h : c σ H fun b H1 => if b = true then Sm t nx rt bk ct σ H1 else Sm u nx rt bk ct σ H1) : Sm (tIfS c t u) nx rt bk ct σ H := h
theorem m_fld {ta tv : TE} {f : Str} (h : tv σ H fun y H1 => ta σ H1 fun x H2 => PutOf K f y x H2 (nx σ)) : Sm (sFld K ta tv f) nx rt bk ct σ H := h
theorem m_aug {ti : TIp} {v : V} (hx : σ[i]? = some (some v)) (h : te σ H fun y H1 => ti v y H1 fun z H2 => nx (σ.set i (some z)) H2) : Sm (tAug i te ti) nx rt bk ct σ H := ⟨v, hx, h⟩
/-- o[i] = e over a list that stands in H by itself -/
theorem m_setL {p : Addr} {xs : List V} {k : Int} {j : Nat} {v : V} {Q : Hp → Prop} (h : H p = some (.lst xs)) (hj : ixN xs.length k = some j) (q : Q (upd H p (.lst (xs.set j v)))) : rSetL (.ref p) (.int k) v H Q := ⟨p, xs, k, j, rfl, rfl, h, hj, q⟩
theorem m_gsub {to ti : TE} {ts : TSet} {v : V} {Q : St → Hp → Prop} (h : to σ H fun o H1 => ti σ H1 fun i H2 => ts o i v H2 fun H3 => Q σ H3) : gSub to ti ts v σ H Q := h
/-- a loop over what J walks -/
def Fj (J : It) (g : TG) (t : TS) (nx : St → Hp → Prop) (rt : VK) (σ : St) (H : Hp) : Prop := ∃ W : Nat → Nat → St → Hp → Prop, (∃ m, W 0 m σ H) ∧ ∀ i m σ H, W i m σ H →
  (J.stop i H ∧ nx σ H) ∨ (J.go i H ∧ ∃ N : St → Hp → Prop, (∀ σ' H', N σ' H' → ∃ m', m' < m ∧ W (i + 1) m' σ' H') ∧ ∀ x H', J.yld i H x H' → g x σ H' fun σ2 H2 => t { nx := N, rt := rt, ct := N, bk := nx } σ2 H2)
theorem m_for {wi : TI} {g : TG} (h : wi σ H fun J H1 => Fj J g t nx rt σ H1) : Sm (tFor wi g t) nx rt bk ct σ H := h
theorem w_rng1 {tl : TA} {R : It → Hp → Prop} (h : tl σ H fun vs H1 => ∃ j : Int, vs = [.int j] ∧ -(2 ^ 62) ≤ j ∧ j < 2 ^ 62 ∧ R (Itr 0 j.toNat) H1) : iRng1 tl σ H R := h
theorem w_rng2 {tl : TA} {R : It → Hp → Prop} (h : tl σ H fun vs H1 => ∃ i j : Int, vs = [.int i, .int j] ∧ (-(2 ^ 62) ≤ i ∧ i < 2 ^ 62 ∧ -(2 ^ 62) ≤ j ∧ j < 2 ^ 62) ∧ R (Itr i (j - i).toNat) H1) : iRng2 tl σ H R := h
theorem w_itl {te : TE} {R : It → Hp → Prop} (h : te σ H fun x H1 => ∃ a, x = .ref a ∧ (∃ xs, SqL K H1 a xs) ∧ R (Itl K a) H1) : iList K te σ H R := h
theorem w_itt {te : TE} {R : It → Hp → Prop} (h : te σ H fun x H1 => ∃ a, x = .ref a ∧ (∃ xs, SqT K H1 a xs) ∧ R (Itt K a) H1) : iTup K te σ H R := h
theorem f_rng1 {j : Nat} {n : Int} (h0 : 0 ≤ n) (h1 : n ≤ 100000) (Pv : Nat → St → Hp → Prop) (p0 : Pv 0 σ H)
    (hs : ∀ (i : Nat) σ' H', (i : Int) < n → Pv i σ' H' → Sm t (Pv (i + 1)) rt nx (Pv (i + 1)) (σ'.set j (some (.int (i : Int)))) H') (hd : ∀ σ' H', Pv n.toNat σ' H' → nx σ' H') :
    ∃ k : Int, [V.int n] = [.int k] ∧ -(2 ^ 62) ≤ k ∧ k < 2 ^ 62 ∧ Fj (Itr 0 k.toNat) (gName j) t nx rt σ H := by
  refine ⟨n, rfl, by omega, by omega, for_range (D := ⟨nx, rt, nx, nx⟩) (lo := 0) (n := n.toNat) Pv p0 (fun i σ' H' hi p => ?_) hd⟩
  have e0 : (0 : Int) + (i : Int) = (i : Int) := Int.zero_add _
  show t { nx := Pv (i + 1), rt := rt, ct := Pv (i + 1), bk := nx } (σ'.set j (some (.int ((0 : Int) + (i : Int))))) H'
  rw [e0]
  exact hs i σ' H' (by omega) p
theorem f_rng2 {j : Nat} {lo n : Int} (h0 : -100000 ≤ lo ∧ lo ≤ 100000 ∧ -100000 ≤ n ∧ n ≤ 100000) (Pv : Nat → St → Hp → Prop) (p0 : Pv 0 σ H)
    (hs : ∀ (i : Nat) σ' H', lo + (i : Int) < n → Pv i σ' H' → Sm t (Pv (i + 1)) rt nx (Pv (i + 1)) (σ'.set j (some (.int (lo + (i : Int))))) H') (hd : ∀ σ' H', Pv (n - lo).toNat σ' H' → nx σ' H') :
    ∃ i k : Int, [V.int lo, V.int n] = [.int i, .int k] ∧ (-(2 ^ 62) ≤ i ∧ i < 2 ^ 62 ∧ -(2 ^ 62) ≤ k ∧ k < 2 ^ 62) ∧ Fj (Itr i (k - i).toNat) (gName j) t nx rt σ H :=
  ⟨lo, n, rfl, ⟨by omega, by omega, by omega, by omega⟩, for_range (D := ⟨nx, rt, nx, nx⟩) (lo := lo) (n := (n - lo).toNat) Pv p0 (fun i σ' H' hi p => hs i σ' H' (by omega) p) hd⟩
theorem f_list {g : TG} {a : Addr} {xs : List V} (hx : SqL K H a xs) (Pv : Nat → St → Hp → Prop) (p0 : Pv 0 σ H) (hl : ∀ i σ' H', i ≤ xs.length → Pv i σ' H' → SqL K H' a xs)
    (hs : ∀ i x σ' H', xs[i]? = some x → Pv i σ' H' → g x σ' H' fun σ2 H2 => Sm t (Pv (i + 1)) rt nx (Pv (i + 1)) σ2 H2) (hd : ∀ σ' H', Pv xs.length σ' H' → nx σ' H') :
    ∃ b, V.ref a = .ref b ∧ (∃ ys, SqL K H b ys) ∧ Fj (Itl K b) g t nx rt σ H := ⟨a, rfl, ⟨xs, hx⟩, for_list (D := ⟨nx, rt, nx, nx⟩) Pv p0 hl hs hd⟩
theorem f_tup {g : TG} {a : Addr} {xs : List V} (hx : SqT K H a xs) (Pv : Nat → St → Hp → Prop) (p0 : Pv 0 σ H) (hl : ∀ i σ' H', i ≤ xs.length → Pv i σ' H' → SqT K H' a xs)
    (hs : ∀ i x σ' H', xs[i]? = some x → Pv i σ' H' → g x σ' H' fun σ2 H2 => Sm t (Pv (i + 1)) rt nx (Pv (i + 1)) σ2 H2) (hd : ∀ σ' H', Pv xs.length σ' H' → nx σ' H') :
    ∃ b, V.ref a = .ref b ∧ (∃ ys, SqT K H b ys) ∧ Fj (Itt K b) g t nx rt σ H := ⟨a, rfl, ⟨xs, hx⟩, for_tup (D := ⟨nx, rt, nx, nx⟩) Pv p0 hl hs hd⟩
/-- a turn of a while -/
def Turn (W : Nat → St → Hp → Prop) (m : Nat) (t : TS) (nx : St → Hp → Prop) (rt : VK) (σ : St) (H : Hp) : Prop := ∃ N : St → Hp → Prop, (∀ σ' H', N σ' H' → ∃ m', m' < m ∧ W m' σ' H') ∧ t ⟨N, rt, nx, N⟩ σ H
theorem turn_go {W : Nat → St → Hp → Prop} {m : Nat} (h : Sm t (fun σ' H' => ∃ m', m' < m ∧ W m' σ' H') rt nx (fun σ' H' => ∃ m', m' < m ∧ W m' σ' H') σ H) : Turn W m t nx rt σ H := ⟨_, fun _ _ h => h, h⟩
theorem m_whileT (W : Nat → St → Hp → Prop) (m0 : Nat) (h0 : W m0 σ H) (hs : ∀ m σ' H', W m σ' H' → c σ' H' fun b H1 => if b = true then Turn W m t nx rt σ' H1 else nx σ' H1) : Sm (tWhile c t) nx rt bk ct σ H := ⟨W, ⟨m0, h0⟩, hs⟩
theorem m_while (W : Nat → St → Hp → Prop) (m0 : Nat) (h0 : W m0 σ H)
    (hs : ∀ m σ' H', W m σ' H' → c σ' H' fun b H1 => if b = true then Sm t (fun σ2 H2 => ∃ m', m' < m ∧ W m' σ2 H2) rt nx (fun σ2 H2 => ∃ m', m' < m ∧ W m' σ2 H2) σ' H1 else nx σ' H1)
    (mono : ∀ σ H (A B : Bool → Hp → Prop), (∀ b H, A b H → B b H) → c σ H A → c σ H B) : Sm (tWhile c t) nx rt bk ct σ H := by
  refine ⟨W, ⟨m0, h0⟩, fun m σ' H' hw => mono _ _ _ _ (fun b H1 h => ?_) (hs m σ' H' hw)⟩
  cases b
  · exact iteF (by rw [if_neg Bool.false_ne_true] at h; exact h)
  · refine iteT ⟨fun σ2 H2 => ∃ m', m' < m ∧ W m' σ2 H2, fun _ _ n => n, ?_⟩
    rw [if_pos rfl] at h
    exact h
end
theorem divW {i j : Int} (h : 0 < j) (hb : j < 2 ^ 250) : CDivW i j := wide_div (b := 250) h (by omega) (by decide) (by decide)
/-- a written tuple of texts and ints -/
def KTup (K : PySem.W.Frag) (a : Addr) (xs : List V) : Prop := ∃ (o : Obj) (its : Array Value) (n : Nat), K.lookup a = some o ∧ o.cls = .type "tuple" ∧ o.data = .seq its n ∧ its.size ≤ sizeLine ∧ Vals xs its.toList
def relB : V → Value → Bool
  | .int i, .int j _ => i == j
  | .str x, .str y _ => x == y
  | _, _ => false
def relsB : List V → List Value → Bool
  | [], [] => true
  | x :: xs, u :: us => relB x u && relsB xs us
  | _, _ => false
def tupB (o : Obj) (xs : List V) : Bool := (match o.cls with | .type t => t == "tuple" | _ => false) && match o.data with | .seq its _ => decide (its.size ≤ sizeLine) && relsB xs its.toList | _ => false
theorem relB_of : ∀ {x : V} {u : Value}, relB x u = true → RelV x u
  | .int i, .int j t, h => by
    have e : i = j := eq_of_beq h
    exact ⟨t, by rw [e]⟩
  | .str i, .str j t, h => by
    have e : i = j := eq_of_beq h
    exact ⟨t, by rw [e]⟩
theorem relsB_of : ∀ {xs : List V} {us : List Value}, relsB xs us = true → Vals xs us
  | [], [], _ => .nil
  | x :: xs, u :: us, h => by
    unfold relsB at h
    rw [Bool.and_eq_true] at h
    exact .cons (relB_of h.1) (relsB_of h.2)
theorem ktup_of {K : PySem.W.Frag} {a : Addr} {o : Obj} {xs : List V} (h : K.lookup a = some o) (t : tupB o xs = true) : KTup K a xs := by
  unfold tupB at t
  rw [Bool.and_eq_true] at t
  obtain ⟨t1, t2⟩ := t
  obtain ⟨cls, dd, data, sl⟩ := o
  cases data with
  | seq its n =>
    simp only [Bool.and_eq_true, decide_eq_true_eq] at t2
    cases cls with
    | type c =>
      have e : c = "tuple" := eq_of_beq t1
      subst e
      exact ⟨_, its, n, h, rfl, rfl, t2.1, relsB_of t2.2⟩
    | _ => cases t1
  | _ => cases t2
theorem KTup.sq {K : PySem.W.Frag} {a : Addr} {xs : List V} (h : KTup K a xs) (H : Hp) : SqT K H a xs := Or.inr h
theorem ok_body {X : Cx} {body : List Stmt} {t : TS} {Q : VK} {σ σ0 : St} {H : Hp} (h : PSs X body t) (e : σ0 = σ) (q : Sm t (fun _ H' => Q .non H') Q (fun _ _ => False) (fun _ _ => False) σ H) :
    ∃ t : TS, PSs X body t ∧ t { nx := fun _ H' => Q .non H', rt := Q } σ0 H := ⟨t, h, by subst e; exact q⟩
/-- all but one object as it was -/
def ExBut (p : Addr) (H H' : Hp) : Prop := ∀ b o, b ≠ p → H b = some o → H' b = some o
theorem ExBut.ex {p : Addr} {H0 H H' : Hp} (e : Ex H0 H) (h : H0 p = none) (m : ExBut p H H') : Ex H0 H' := fun b o hb => m b o (ne_of_none hb h) (e b o hb)
theorem ExBut.refl (p : Addr) (H : Hp) : ExBut p H H := fun _ _ _ h => h
theorem ExBut.trans {p : Addr} {H H1 H2 : Hp} (a : ExBut p H H1) (b : ExBut p H1 H2) : ExBut p H H2 := fun c o n h => b c o n (a c o n h)
theorem ExBut.of {p : Addr} {H H' : Hp} (e : Ex H H') : ExBut p H H' := fun b o _ h => e b o h
theorem ExBut.upd {p : Addr} {H H' : Hp} {o : HO} (e : ExBut p H H') : ExBut p H (upd H' p o) := fun b u n h => by rw [upd_ne n]; exact e b u n h
theorem ex_snoc {H H1 H2 : Hp} (b : Ex H1 H2) (a : Ex H H1) : Ex H H2 := a.trans b
theorem but_snoc {p : Addr} {H H1 H2 : Hp} (b : ExBut p H1 H2) (a : ExBut p H H1) : ExBut p H H2 := a.trans b
theorem but_snocE {p : Addr} {H H1 H2 : Hp} (b : Ex H1 H2) (a : ExBut p H H1) : ExBut p H H2 := a.trans (.of b)
theorem w_put {K : PySem.W.Frag} {H : Hp} {a C dx : Addr} {fs fs' : List (Str × V)} {f : Str} {y : V} {R : Hp → Prop} (h : H a = some (.ins C dx fs)) (cl : Cls K C) (n : NoAttr K C f) (hl : fs.length < 1000) (e : putF f y fs = fs') (q : ∀ H2, ExBut a H H2 → H2 a = some (.ins C dx fs') → R H2) : PutOf K f y (.ref a) H R :=
  ⟨a, C, dx, fs, rfl, h, cl, n, hl, q _ (ExBut.upd (ExBut.refl a H)) (by rw [e]; exact upd_same)⟩
theorem ex_but {p : Addr} {H0 H H' : Hp} (m : ExBut p H H') (h : H0 p = none) (e : Ex H0 H) : Ex H0 H' := ExBut.ex e h m
theorem but_get {p a : Addr} {H H' : Hp} {o : HO} (m : ExBut p H H') (n : a ≠ p) (h : H a = some o) : H' a = some o := m a o n h
theorem w_setL {p : Addr} {xs ys : List V} {k : Int} {j : Nat} {v : V} {H : Hp} {Q : Hp → Prop} (h : H p = some (.lst xs)) (hj : ixN xs.length k = some j) (e : xs.set j v = ys) (q : ∀ H2, ExBut p H H2 → H2 p = some (.lst ys) → Q H2) : rSetL (.ref p) (.int k) v H Q :=
  ⟨p, xs, k, j, rfl, rfl, h, hj, q _ (ExBut.upd (ExBut.refl p H)) (by rw [e]; exact upd_same)⟩
theorem ex_get {H1 H2 : Hp} {a : Addr} {o : HO} (e : Ex H1 H2) (h : H1 a = some o) : H2 a = some o := e a o h
theorem small {n m : Nat} (h : n ≤ m) (hm : m ≤ 1000) : n ≤ 1000 := Nat.le_trans h hm
end Kit

namespace Kit
open PySem PySem.Spec PyProof.Rows L2 Evl
/-! ### the walk by words: "wp" goes as far as it can, "wp1" one step; "hp": what stands at an address; "sq": a list, a tuple is there; "side": a side condition -/
end Kit

namespace Kit
open PySem PySem.Spec PyProof.Rows L2 Evl
/-! ### comprehensions -/
def Lcj (J : It) (g : TG) (tt : TT) (te : TE) (vs : List Nat) (σ : St) (H1 : Hp) (Q : VK) : Prop := ∀ D, H1 D = none → ∃ W : Nat → Nat → Hp → Prop, (∃ m, W 0 m (upd H1 D (.lst []))) ∧ ∀ i m H, W i m H →
  (J.stop i H ∧ Q (.ref D) H) ∨ (J.go i H ∧ ∃ Nx : Hp → Prop, (∀ H', Nx H' → ∃ m', m' < m ∧ W (i + 1) m' H') ∧ ∀ x H', J.yld i H x H' → g x (wipe σ vs) H' fun σ2 H2 => wipe σ2 vs = wipe σ vs ∧ tt σ2 H2 fun b H3 =>
    if b = true then te σ2 H3 fun y H4 => ∃ acc, H4 D = some (.lst acc) ∧ acc.length < sizeLine ∧ Nx (upd H4 D (.lst (acc ++ [y]))) else Nx H3)
section
variable {σ : St} {H : Hp} {Q : VK} {j : Nat} {vs : List Nat} {te : TE} {tt : TT} {K : PySem.W.Frag}
theorem w_lc {wi : TI} {g : TG} {tt : TT} (h : wi σ H fun J H1 => Lcj J g tt te vs σ H1 Q) : tLc wi g tt te vs σ H Q := h
theorem w_rng3 {tl : TA} {R : It → Hp → Prop} (h : tl σ H fun vs H1 => ∃ (i j c : Int) (n : Nat), vs = [.int i, .int j, .int c] ∧ RgC i j c n ∧ R (Itc i c n) H1) : iRng3 tl σ H R := h
/-- what J walks, while S stands -/
structure Walks (J : It) (n : Nat) (x : Nat → V) (S : Hp → Prop) : Prop where
  stop : ∀ H, S H → J.stop n H
  go : ∀ i H, S H → i < n → J.go i H
  yld : ∀ i H y H', S H → i < n → J.yld i H y H' → H' = H ∧ y = x i
theorem walks_rng {lo : Int} {n : Nat} : Walks (Itr lo n) n (fun i => .int (lo + i)) (fun _ => True) := ⟨fun _ _ => Nat.le_refl n, fun _ _ _ h => h, fun _ _ _ _ _ _ h => h⟩
theorem walks_rngC {lo c : Int} {n : Nat} : Walks (Itc lo c n) n (fun i => .int (lo + (i : Nat) * c)) (fun _ => True) := ⟨fun _ _ => Nat.le_refl n, fun _ _ _ h => h, fun _ _ _ _ _ _ h => h⟩
theorem walks_list {a : Addr} {xs : List V} : Walks (Itl K a) xs.length (fun i => (xs[i]?).getD .non) (fun H => SqL K H a xs) := by
  refine ⟨fun H h => ⟨xs, h, Nat.le_refl _⟩, fun i H h hi => ⟨xs, xs[i], h, List.getElem?_eq_getElem hi⟩, fun i H y H' h hi hy => ⟨hy.1, ?_⟩⟩
  rw [hy.2 xs h]
  rfl
theorem walks_tup {a : Addr} {xs : List V} : Walks (Itt K a) xs.length (fun i => (xs[i]?).getD .non) (fun H => SqT K H a xs) := by
  refine ⟨fun H h => ⟨xs, h, Nat.le_refl _⟩, fun i H h hi => ⟨xs, xs[i], h, List.getElem?_eq_getElem hi⟩, fun i H y H' h hi hy => ⟨hy.1, ?_⟩⟩
  rw [hy.2 xs h]
  rfl
/-- any turn's word: Iv by the new list's address, the turn, what it holds -/
theorem l_any {J : It} {n : Nat} {x : Nat → V} {S : Hp → Prop} (w : Walks J n x S) (hn : n ≤ 40000) (hw : ∀ v, wipe ((wipe σ vs).set j (some v)) vs = wipe σ vs)
    (Iv : Addr → Nat → List V → Hp → Prop) (hS : ∀ D i acc H', Iv D i acc H' → S H') (h0 : ∀ D, H D = none → Iv D 0 [] (upd H D (.lst [])))
    (he : ∀ D i acc H', H D = none → i < n → acc.length ≤ i → H' D = some (.lst acc) → Iv D i acc H' → ∀ R : Bool → Hp → Prop, (∀ H2, H2 D = some (.lst acc) → Iv D (i + 1) acc H2 → R false H2) →
      (∀ H2, (∀ R2 : VK, (∀ y H3, H3 D = some (.lst acc) → Iv D (i + 1) (acc ++ [y]) (upd H3 D (.lst (acc ++ [y]))) → R2 y H3) → te ((wipe σ vs).set j (some (x i))) H2 R2) → R true H2) → tt ((wipe σ vs).set j (some (x i))) H' R)
    (q : ∀ D acc H2, H D = none → acc.length ≤ n → H2 D = some (.lst acc) → Iv D n acc H2 → Q (.ref D) H2) : Lcj J (gName j) tt te vs σ H Q := by
  intro D hD
  refine ⟨fun i m H' => i ≤ n ∧ m = n - i ∧ ∃ acc, acc.length ≤ i ∧ H' D = some (.lst acc) ∧ Iv D i acc H', ⟨n, Nat.zero_le _, by omega, [], Nat.le_refl 0, upd_same, h0 D hD⟩, fun i m H' ⟨hi, hm, acc, ha, hd, iv⟩ => ?_⟩
  by_cases hlt : i < n
  · refine .inr ⟨w.go i H' (hS _ _ _ _ iv) hlt, fun H'' => ∃ acc, acc.length ≤ i + 1 ∧ H'' D = some (.lst acc) ∧ Iv D (i + 1) acc H'', fun H'' h => ⟨n - (i + 1), by omega, by omega, rfl, h⟩, fun y H'' hy => ?_⟩
    obtain ⟨rfl, rfl⟩ := w.yld i H' y H'' (hS _ _ _ _ iv) hlt hy
    refine ⟨hw _, ?_⟩
    refine he D i acc H'' hD hlt ha hd iv _ (fun H2 h2 iv2 => ?_) fun H2 h => ?_
    · exact iteF ⟨acc, by omega, h2, iv2⟩
    · refine iteT (h _ fun v H3 h3 iv3 => ?_)
      exact ⟨acc, h3, sz_lt (by omega), acc ++ [v], by rw [List.length_append]; exact Nat.succ_le_succ ha, upd_same, iv3⟩
  · have e : i = n := by omega
    subst e
    exact .inl ⟨w.stop H' (hS _ _ _ _ iv), q D acc H' hD ha hd iv⟩
/-- items that only make new objects, no test: Pe says what the i-th is -/
theorem l_grow {J : It} {n : Nat} {x : Nat → V} {S : Hp → Prop} (w : Walks J n x S) (hn : n ≤ 40000) (hw : ∀ v, wipe ((wipe σ vs).set j (some v)) vs = wipe σ vs)
    (s0 : S H) (sm : ∀ H1 H2, Ex H1 H2 → S H1 → S H2) (Pe : Addr → Nat → V → Hp → Prop) (pm : ∀ D i v H1 H2, ExBut D H1 H2 → Pe D i v H1 → Pe D i v H2)
    (he : ∀ D i acc H', H D = none → i < n → Ex H H' → H' D = some (.lst acc) → ∀ R : VK, (∀ v H2, Ex H' H2 → Pe D i v H2 → R v H2) → te ((wipe σ vs).set j (some (x i))) H' R)
    (q : ∀ D ys H2, H D = none → Ex H H2 → H2 D = some (.lst ys) → ys.length = n → (∀ i y, ys[i]? = some y → Pe D i y H2) → Q (.ref D) H2) : Lcj J (gName j) tYes te vs σ H Q := by
  refine l_any w hn hw (fun D i acc H' => H D = none ∧ Ex H H' ∧ acc.length = i ∧ ∀ k y, acc[k]? = some y → Pe D k y H') (fun D i acc H' h => sm _ _ h.2.1 s0) (fun D hD => ⟨hD, Ex.new hD, rfl, fun k y h => by simp at h⟩) ?_ ?_
  · intro D i acc H' hD hi ha hd ⟨_, e, hl, hp⟩ R r1 r2
    refine r2 H' fun R2 r => ?_
    refine he D i acc H' hD hi e hd R2 fun v H2 e2 pv => ?_
    have m1 : ExBut D H' (upd H2 D (.lst (acc ++ [v]))) := ExBut.upd (.of e2)
    have m2 : ExBut D H2 (upd H2 D (.lst (acc ++ [v]))) := ExBut.upd (.refl D H2)
    refine r v H2 (e2 D _ hd) ⟨hD, ExBut.ex e hD m1, by rw [List.length_append, hl]; rfl, fun k y hk => ?_⟩
    by_cases h : k < acc.length
    · rw [List.getElem?_append_left h] at hk
      exact pm D k y _ _ m1 (hp k y hk)
    · have hlen : k < (acc ++ [v]).length := (List.getElem?_eq_some_iff.mp hk).1
      rw [List.length_append] at hlen
      have e : k = acc.length := by simp at hlen; omega
      rw [e, List.getElem?_concat_length] at hk
      cases hk
      rw [e, hl]
      exact pm D i v _ _ m2 pv
  · intro D acc H2 hD _ hd ⟨_, e, hl, hp⟩
    exact q D acc H2 hD e hd hl hp
theorem eq_map {ys : List V} {n : Nat} {v : Nat → V} (hl : ys.length = n) (h : ∀ i y, ys[i]? = some y → y = v i) : ys = (List.range n).map v := by
  apply List.ext_getElem?
  intro i
  by_cases hi : i < n
  · rw [List.getElem?_map, List.getElem?_range hi, List.getElem?_eq_getElem (by omega)]
    exact congrArg some (h i _ (List.getElem?_eq_getElem (by omega)))
  · rw [List.getElem?_eq_none (by omega), List.getElem?_eq_none (by rw [List.length_map, List.length_range]; omega)]
/-- items that are told: the i-th is v i -/
theorem l_val {J : It} {n : Nat} {x : Nat → V} {S : Hp → Prop} (w : Walks J n x S) (hn : n ≤ 40000) (hw : ∀ v, wipe ((wipe σ vs).set j (some v)) vs = wipe σ vs)
    (s0 : S H) (sm : ∀ H1 H2, Ex H1 H2 → S H1 → S H2) (v : Nat → V)
    (he : ∀ i H', i < n → Ex H H' → ∀ R : VK, (∀ H2, Ex H' H2 → R (v i) H2) → te ((wipe σ vs).set j (some (x i))) H' R)
    (q : ∀ p H2, H p = none → Ex H H2 → H2 p = some (.lst ((List.range n).map v)) → Q (.ref p) H2) : Lcj J (gName j) tYes te vs σ H Q :=
  l_grow w hn hw s0 sm (fun _ i y _ => y = v i) (fun _ _ _ _ _ _ h => h) (fun D i acc H' hD hi e hd R r => he i H' hi e R fun H2 e2 => r _ H2 e2 rfl)
    fun D ys H2 hD e hd hl hp => q D H2 hD e (by rw [hd, eq_map hl hp])
/-- over range(n) -/
theorem l_rng1 {n : Int} (h0 : 0 ≤ n) (hn : n ≤ 40000) (hw : ∀ v, wipe ((wipe σ vs).set j (some v)) vs = wipe σ vs) (v : Nat → V)
    (he : ∀ (i : Nat) H', (i : Int) < n → Ex H H' → ∀ R : VK, (∀ H2, Ex H' H2 → R (v i) H2) → te ((wipe σ vs).set j (some (.int (i : Int)))) H' R)
    (q : ∀ p H2, H p = none → Ex H H2 → H2 p = some (.lst ((List.range n.toNat).map v)) → Q (.ref p) H2) :
    ∃ k : Int, [V.int n] = [.int k] ∧ -(2 ^ 62) ≤ k ∧ k < 2 ^ 62 ∧ Lcj (Itr 0 k.toNat) (gName j) tYes te vs σ H Q :=
  ⟨n, rfl, by omega, by omega, l_val walks_rng (by omega) hw trivial (fun _ _ _ h => h) v (fun i H' hi e R r => by
    have e0 : (0 : Int) + (i : Int) = (i : Int) := Int.zero_add _
    show te ((wipe σ vs).set j (some (.int (0 + (i : Int))))) H' R
    rw [e0]
    exact he i H' (by omega) e R r) q⟩
/-- over range(0, n, 2) -/
theorem l_rng2 {n : Int} {m : Nat} (h0 : n = 2 * m) (hn : m ≤ 40000) (hw : ∀ v, wipe ((wipe σ vs).set j (some v)) vs = wipe σ vs) (v : Nat → V)
    (he : ∀ (i : Nat) H', i < m → Ex H H' → ∀ R : VK, (∀ H2, Ex H' H2 → R (v i) H2) → te ((wipe σ vs).set j (some (.int (2 * (i : Int))))) H' R)
    (q : ∀ p H2, H p = none → Ex H H2 → H2 p = some (.lst ((List.range m).map v)) → Q (.ref p) H2) :
    ∃ (a b c : Int) (k : Nat), [V.int 0, V.int n, V.int 2] = [.int a, .int b, .int c] ∧ RgC a b c k ∧ Lcj (Itc a c k) (gName j) tYes te vs σ H Q := by
  have hr : RgC 0 n 2 m := by
    refine ⟨by decide, by decide, ?_, ?_⟩
    · subst h0
      unfold Builtin.Range.small Builtin.Range.rangeSize
      rw [if_pos (show (2 : Int) > 0 by decide), if_pos (show (2 : Int) > 0 by decide)]
      have hf : ∀ x : Int, 0 ≤ x → x ≤ 100000 → Builtin.Range.rangeFitsLong x = true := fun x h1 h2 => by
        unfold Builtin.Range.rangeFitsLong
        simp only [Bool.and_eq_true, decide_eq_true_eq]
        omega
      have h3 : (0 : Int) ≤ (if (0 : Int) < 2 * (m : Int) then (2 * (m : Int) - 0 - 1) / 2 + 1 else 0) ∧ (if (0 : Int) < 2 * (m : Int) then (2 * (m : Int) - 0 - 1) / 2 + 1 else 0) ≤ 100000 := by split <;> omega
      rw [hf 0 (by omega) (by omega), hf (2 * (m : Int)) (by omega) (by omega), hf 2 (by omega) (by omega), hf _ h3.1 h3.2, hf (2 * (m : Int) + (2 - 1)) (by omega) (by omega)]
      simp
    · subst h0
      unfold Builtin.Range.rangeSize
      split <;> omega
  refine ⟨0, n, 2, m, rfl, hr, l_val walks_rngC hn hw trivial (fun _ _ _ h => h) v (fun i H' hi e R r => ?_) q⟩
  have e0 : (0 : Int) + (i : Int) * 2 = 2 * (i : Int) := by omega
  show te ((wipe σ vs).set j (some (.int (0 + (i : Int) * 2)))) H' R
  rw [e0]
  exact he i H' hi e R r
/-- over a list -/
theorem l_list {a : Addr} {xs : List V} (hx : SqL K H a xs) (hn : xs.length ≤ 40000) (hw : ∀ v, wipe ((wipe σ vs).set j (some v)) vs = wipe σ vs) (v : Nat → V)
    (he : ∀ (i : Nat) x H', xs[i]? = some x → Ex H H' → ∀ R : VK, (∀ H2, Ex H' H2 → R (v i) H2) → te ((wipe σ vs).set j (some x)) H' R)
    (q : ∀ p H2, H p = none → Ex H H2 → H2 p = some (.lst ((List.range xs.length).map v)) → Q (.ref p) H2) :
    ∃ b, V.ref a = .ref b ∧ (∃ ys, SqL K H b ys) ∧ Lcj (Itl K b) (gName j) tYes te vs σ H Q :=
  ⟨a, rfl, ⟨xs, hx⟩, l_val walks_list hn hw hx (fun _ _ e h => ex_l e h) v (fun i H' hi e R r => by
    have z : xs[i]? = some xs[i] := List.getElem?_eq_getElem hi
    show te ((wipe σ vs).set j (some ((xs[i]?).getD .non))) H' R
    rw [z]
    exact he i xs[i] H' z e R r) q⟩
theorem l_tup {a : Addr} {xs : List V} (hx : SqT K H a xs) (hn : xs.length ≤ 40000) (hw : ∀ v, wipe ((wipe σ vs).set j (some v)) vs = wipe σ vs) (v : Nat → V)
    (he : ∀ (i : Nat) x H', xs[i]? = some x → Ex H H' → ∀ R : VK, (∀ H2, Ex H' H2 → R (v i) H2) → te ((wipe σ vs).set j (some x)) H' R)
    (q : ∀ p H2, H p = none → Ex H H2 → H2 p = some (.lst ((List.range xs.length).map v)) → Q (.ref p) H2) :
    ∃ b, V.ref a = .ref b ∧ (∃ ys, SqT K H b ys) ∧ Lcj (Itt K b) (gName j) tYes te vs σ H Q :=
  ⟨a, rfl, ⟨xs, hx⟩, l_val walks_tup hn hw hx (fun _ _ e h => ex_t e h) v (fun i H' hi e R r => by
    have z : xs[i]? = some xs[i] := List.getElem?_eq_getElem hi
    show te ((wipe σ vs).set j (some ((xs[i]?).getD .non))) H' R
    rw [z]
    exact he i xs[i] H' z e R r) q⟩
end
end Kit

namespace Kit
open PySem PySem.Spec PyProof.Rows L2 Evl
/-! ### the rules that speak of the written part, with it named -/
section
variable (K : PySem.W.Frag) {X : Cx}
theorem ixL (h : X.K = K := by rfl) : IxR X (rIxL K) := h ▸ ix_list
theorem ixT (h : X.K = K := by rfl) : IxR X (rIxT K) := h ▸ ix_tup
theorem kLen (h : X.K = K := by rfl) : CallR X (.builtin "len") (rLenS K) := h ▸ call_len_seq
theorem kList (h : X.K = K := by rfl) : CallR X (.type "list") (rListS K) := h ▸ call_list_of
theorem kTuple (h : X.K = K := by rfl) : CallR X (.type "tuple") (rTupS K) := h ▸ call_tuple_of
theorem kIn (h : X.K = K := by rfl) : OpR X (compareOp .In) (rIn K false) := h ▸ op_in_seq
theorem kNotIn (h : X.K = K := by rfl) : OpR X (compareOp .NotIn) (rIn K true) := h ▸ op_notIn_seq
theorem kEqD (hu : X.A.units + 64 < cLine) (h : X.K = K := by rfl) : OpR X (compareOp .Eq) (rEqD K) := h ▸ op_eqD hu
theorem kNeD (hu : X.A.units + 64 < cLine) (h : X.K = K := by rfl) : OpR X (compareOp .NotEq) (rNeD K) := h ▸ op_neD hu
theorem kCat (h : X.K = K := by rfl) : OpR X (binaryOp .Add) (rCatA K) := h ▸ op_catA
theorem kRepT (h : X.K = K := by rfl) : OpR X (binaryOp .Mult) (rRepT K) := h ▸ op_repT
theorem kSlL (h : X.K = K := by rfl) : SlR X (rSlL K) := h ▸ sl_list
theorem kSlT (h : X.K = K := by rfl) : SlR X (rSlA K) := h ▸ sl_tupA
theorem kIsi (h : X.K = K := by rfl) : CallR X (.builtin "isinstance") (rIsi K) := h ▸ call_isi
theorem kFld {e : Expr} {ta : TE} {f : Str} {pos : Pos} (he : PE X e ta) (hb : attributeBase e f X.env (eval e X.env) = eval e X.env) (h : X.K = K := by rfl) : PE X (.Attribute e f pos) (tFld K ta f) := h ▸ pe_fld he hb
theorem kSet {o value : Expr} {ta tv : TE} {f : Str} {pos pos' : Pos} (ha : PE X o ta) (hv : PE X value tv) (hs : swapsWith value (some (.Attribute o f pos')) pos.line X.env = pure false) (h : X.K = K := by rfl) : PS X (.Assign [.Attribute o f pos'] value pos) (sFld K ta tv f) := h ▸ ps_fld ha hv hs
theorem kpList {tg l : Expr} {tl : TE} (hl : PE X l tl) (h : X.K = K := by rfl) : PI X tg l (iList K tl) := h ▸ pi_list hl
theorem kpTup {tg l : Expr} {tl : TE} (hl : PE X l tl) (h : X.K = K := by rfl) : PI X tg l (iTup K tl) := h ▸ pi_tup hl
theorem kgTup {es : List Expr} {k : Nat} {t : TGs} {n : Nat} {pos : Pos} (hc : X.calm = true) (hg : PGs X es t) (hn : (assignEach es X.env).length = n := by rfl) (hst : (assignEach es X.env).findIdx? (·.1) = none := by rfl) (h : X.K = K := by rfl) : PG X (.Tuple es k pos) (gTup K n t) := h ▸ pg_tup hc hg hn hst
end
end Kit

namespace Kit
open PySem PySem.Spec PyProof.Rows L2 Evl
/-! ### == of data -/
def isFlN : V → Bool
  | .non | .bl _ | .int _ => true
  | _ => false
theorem fln_fl : ∀ {vs : List V}, vs.all isFlN = true → vs.all isFl = true
  | [], _ => rfl
  | v :: vs, h => by
    rw [List.all_cons, Bool.and_eq_true] at h ⊢
    refine ⟨?_, fln_fl h.2⟩
    cases v <;> first | rfl | cases h.1
theorem flats_ok : ∀ {vs : List V}, vs.all isFlN = true → PyData.canLayAll0 (vs.map flatD) = true ∧ PyData.depthAll (vs.map flatD) = 0
  | [], _ => ⟨rfl, rfl⟩
  | v :: vs, h => by
    rw [List.all_cons, Bool.and_eq_true] at h
    obtain ⟨h1, h2⟩ := flats_ok h.2
    have h3 : (flatD v).canLay0 = true ∧ PyData.depth (flatD v) = 0 := by
      cases v <;> first | (cases h.1; done) | exact ⟨by simp [flatD, PyData.canLay0], by simp [flatD, PyData.depth]⟩
    rw [List.map_cons, PyData.canLayAll0, PyData.depthAll, h1, h2, h3.1, h3.2]
    exact ⟨rfl, rfl⟩
theorem shaped_tup {vs : List V} (h : vs.all isFlN = true) : SeqAt.shaped (.tuple (vs.map flatD)) = true := by
  obtain ⟨h1, h2⟩ := flats_ok h
  unfold SeqAt.shaped
  rw [PyData.canLay0, PyData.depth, h1, h2]
  rfl
theorem shaped_lst {vs : List V} (h : vs.all isFlN = true) : SeqAt.shaped (.list (vs.map flatD)) = true := by
  obtain ⟨h1, h2⟩ := flats_ok h
  unfold SeqAt.shaped
  rw [PyData.canLay0, PyData.depth, h1, h2]
  rfl
theorem ints_fln : ∀ r : List Int, (r.map V.int).all isFlN = true
  | [] => rfl
  | _ :: r => by
    rw [List.map_cons, List.all_cons, ints_fln r]
    rfl
theorem eqvAll_ints : ∀ r s : List Int, PyData.eqvAll ((r.map V.int).map flatD) ((s.map V.int).map flatD) = decide (r = s)
  | [], [] => by simp [PyData.eqvAll]
  | [], _ :: _ => by simp [PyData.eqvAll]
  | _ :: _, [] => by simp [PyData.eqvAll]
  | x :: r, y :: s => by
    show PyData.eqvAll (.int x :: (r.map V.int).map flatD) (.int y :: (s.map V.int).map flatD) = _
    rw [PyData.eqvAll, eqvAll_ints r s]
    by_cases h : x = y
    · subst h
      simp [PyData.eqv]
    · simp [PyData.eqv, h]
section
variable {H : Hp} {Q : VK} {K : PySem.W.Frag} {a b : Addr} {r s : List Int}
theorem w_neTT (h1 : SqT K H a (r.map V.int)) (h2 : SqT K H b (s.map V.int)) (q : Q (.bl (!decide (r = s))) H) : rNeD K (.ref a) (.ref b) H Q :=
  w_neD (dp_tup h1 (fln_fl (ints_fln r))) (dp_tup h2 (fln_fl (ints_fln s))) (shaped_tup (ints_fln r)) (shaped_tup (ints_fln s)) (by rw [PyData.eqv, eqvAll_ints]; exact q)
theorem w_eqTT (h1 : SqT K H a (r.map V.int)) (h2 : SqT K H b (s.map V.int)) (q : Q (.bl (decide (r = s))) H) : rEqD K (.ref a) (.ref b) H Q :=
  w_eqD (dp_tup h1 (fln_fl (ints_fln r))) (dp_tup h2 (fln_fl (ints_fln s))) (shaped_tup (ints_fln r)) (shaped_tup (ints_fln s)) (by rw [PyData.eqv, eqvAll_ints]; exact q)
theorem w_neLL (h1 : SqL K H a (r.map V.int)) (h2 : SqL K H b (s.map V.int)) (q : Q (.bl (!decide (r = s))) H) : rNeD K (.ref a) (.ref b) H Q :=
  w_neD (dp_lst h1 (fln_fl (ints_fln r))) (dp_lst h2 (fln_fl (ints_fln s))) (shaped_lst (ints_fln r)) (shaped_lst (ints_fln s)) (by rw [PyData.eqv, eqvAll_ints]; exact q)
theorem w_eqLL (h1 : SqL K H a (r.map V.int)) (h2 : SqL K H b (s.map V.int)) (q : Q (.bl (decide (r = s))) H) : rEqD K (.ref a) (.ref b) H Q :=
  w_eqD (dp_lst h1 (fln_fl (ints_fln r))) (dp_lst h2 (fln_fl (ints_fln s))) (shaped_lst (ints_fln r)) (shaped_lst (ints_fln s)) (by rw [PyData.eqv, eqvAll_ints]; exact q)
end
end Kit
namespace Kit
open PySem PySem.Spec PyProof.Rows L2 Evl
/-! ### steps of the walk that ask nothing: found by the goal's head -/
class Step (G : Prop) (G' : outParam Prop) : Prop where
  go : G' → G
theorem step {G G' : Prop} [h : Step G G'] (x : G') : G := h.go x
class GetN (l : St) (i : Nat) (v : outParam V) : Prop where
  eq : l[i]? = some (some v)
class SetN (l : St) (i : Nat) (f : outParam (V → St)) : Prop where
  eq : ∀ v, l.set i (some v) = f v
section
variable {l : St} {a : Option V} {v : V} {n : Nat} {f : V → St}
instance : GetN (some v :: l) 0 v := ⟨rfl⟩
instance [h : GetN l n v] : GetN (a :: l) (n + 1) v := ⟨h.eq⟩
instance : SetN (a :: l) 0 (fun v => some v :: l) := ⟨fun _ => rfl⟩
instance [h : SetN l n f] : SetN (a :: l) (n + 1) (fun v => a :: f v) := ⟨fun v => congrArg (a :: ·) (h.eq v)⟩
end
section
variable {σ : St} {H H1 H2 : Hp} {Q : VK} {R : Bool → Hp → Prop} {A : List V → Hp → Prop} {i n : Nat} {v x y : V} {ta tb te tv : TE} {tl tr : TA} {b : Bool} {K : PySem.W.Frag} {C dx p : Addr} {fs : List (Str × V)} {f : Str} {t u c : TT}
instance [h : GetN σ i v] : Step (tVar i σ H Q) (Q v H) := ⟨fun q => w_var h.eq q⟩
instance : Step (tC v σ H Q) (Q v H) := ⟨w_c⟩
instance {r : R2} : Step (tOp r ta tb σ H Q) (ta σ H fun x H1 => tb σ H1 fun y H2 => r x y H2 Q) := ⟨w_op⟩
instance {r : V → Hp → VK → Prop} : Step (tUn r ta σ H Q) (ta σ H fun x H1 => r x H1 Q) := ⟨w_un⟩
instance {r : List V → Hp → VK → Prop} : Step (tCB r tl σ H Q) (tl σ H fun vs H1 => r vs H1 Q) := ⟨w_cb⟩
instance : Step (tNil σ H A) (A [] H) := ⟨w_nil⟩
instance : Step (tCons te tr σ H A) (te σ H fun x H1 => tr σ H1 fun xs H2 => A (x :: xs) H2) := ⟨w_cons⟩
instance : Step (tTup tl σ H Q) (tl σ H fun xs H1 => Alloc xs.length (.tup xs) H1 Q) := ⟨w_tup⟩
instance : Step (tLst tl σ H Q) (tl σ H fun xs H1 => Alloc xs.length (.lst xs) H1 Q) := ⟨w_lst⟩
instance {sp : Sp} {E : XK} : Step (tCall sp [] E tl σ H Q) (tl σ H fun vs H1 => sp vs H1 Q E) := ⟨w_call0⟩
instance : Step (tTest te σ H R) (te σ H fun x H' => ∃ k, x = .bl k ∧ R k H') := ⟨w_test⟩
instance : Step (tB te σ H R) (te σ H fun x H' => ∃ k, x = .bl k ∧ R k H') := ⟨w_B⟩
instance : Step (tAnd t u σ H R) (t σ H fun c H1 => if c = true then u σ H1 R else R false H1) := ⟨w_and⟩
instance : Step (tOr t u σ H R) (t σ H fun c H1 => if c = true then R true H1 else u σ H1 R) := ⟨w_or⟩
instance : Step (tNot t σ H R) (t σ H fun c H1 => R (!c) H1) := ⟨w_not⟩
instance : Step (tAndV ta tb σ H Q) (ta σ H fun x H1 => ∃ c, x = .bl c ∧ if c = true then tb σ H1 Q else Q (.bl false) H1) := ⟨w_andV⟩
instance : Step (tOrV ta tb σ H Q) (ta σ H fun x H1 => ∃ c, x = .bl c ∧ if c = true then Q (.bl true) H1 else tb σ H1 Q) := ⟨w_orV⟩
instance : Step (tNotV ta σ H Q) (ta σ H fun x H1 => ∃ c, x = .bl c ∧ Q (.bl (!c)) H1) := ⟨w_notV⟩
instance : Step (tIf t ta tb σ H Q) (t σ H fun c H1 => if c = true then ta σ H1 Q else tb σ H1 Q) := ⟨w_ifE⟩
instance : Step (tFld K ta f σ H Q) (ta σ H fun x H1 => FldOf K f x H1 Q) := ⟨w_fld⟩
instance {m : Str} {sp : Sp} {E : XK} : Step (tMeth C m sp [] E ta tl σ H Q) (ta σ H fun x H1 => InsOf C m x H1 (tl σ H1 fun vs H2 => sp (x :: vs) H2 Q E)) := ⟨w_meth⟩
instance {sp : Sp} {E : XK} : Step (tMake C sp [] E tl σ H Q) (tl σ H fun vs H1 => MakeOf C sp E vs H1 Q) := ⟨w_make⟩
instance {k : Bool} {P : Bool → Prop} : Step (∃ k', V.bl k = V.bl k' ∧ P k') (P k) := ⟨w_blE⟩
instance {g : Int → Int → V} {i j : Int} : Step (rI0 g (.int i) (.int j) H Q) (Q (g i j) H) := ⟨w_I0⟩
instance {g : Int → V} {i : Int} : Step (rU g (.int i) H Q) (Q (g i) H) := ⟨w_U⟩
instance {i j : Int} : Step (rEq (.int i) (.int j) H Q) (Q (.bl (decide (i = j))) H) := ⟨w_eqI⟩
instance {i j : Int} : Step (rNe (.int i) (.int j) H Q) (Q (.bl (!decide (i = j))) H) := ⟨w_neI⟩
instance {i j : Bool} : Step (rEq (.bl i) (.bl j) H Q) (Q (.bl (i == j)) H) := ⟨w_eqB⟩
instance {i : Int} : Step (rInt [.int i] H Q) (Q (.int i) H) := ⟨w_int⟩
instance {i j : Int} : Step (rMax [.int i, .int j] H Q) (Q (.int (if j > i then j else i)) H) := ⟨w_max⟩
instance {i j : Int} : Step (rMin [.int i, .int j] H Q) (Q (.int (if j < i then j else i)) H) := ⟨w_min⟩
instance {i : Int} : Step (rAbs [.int i] H Q) (Q (.int (if i < 0 then -i else i)) H) := ⟨w_abs⟩
instance : Step (rIsNo .non .non H Q) (Q (.bl true) H) := ⟨w_isNN⟩
instance {i : Int} : Step (rIsNo (.int i) .non H Q) (Q (.bl false) H) := ⟨w_isNI⟩
instance {i : Bool} : Step (rIsNo (.bl i) .non H Q) (Q (.bl false) H) := ⟨w_isNB⟩
instance {i : Addr} : Step (rIsNo (.ref i) .non H Q) (Q (.bl false) H) := ⟨w_isNR⟩
instance : Step (rNotNo .non .non H Q) (Q (.bl false) H) := ⟨w_notNN⟩
instance {i : Int} : Step (rNotNo (.int i) .non H Q) (Q (.bl true) H) := ⟨w_notNI⟩
instance {i : Bool} : Step (rNotNo (.bl i) .non H Q) (Q (.bl true) H) := ⟨w_notNB⟩
instance {i : Addr} : Step (rNotNo (.ref i) .non H Q) (Q (.bl true) H) := ⟨w_notNR⟩
instance {T : String} {r : V → List V → Hp → VK → Prop} {to : TE} : Step (tBM K T r to tl σ H Q) (to σ H fun x H1 => tyV K T x H1 ∧ tl σ H1 fun xs H2 => r x xs H2 Q) := ⟨w_bm⟩
instance {T : String} {r : V → List V → Hp → VK → Prop} {to : TE} : Step (tBM0 K T r to σ H Q) (to σ H fun x H1 => tyV K T x H1 ∧ r x [] H1 Q) := ⟨w_bm0⟩
instance {r : V → Option Int → Option Int → Hp → VK → Prop} {to th : TO} : Step (L2.tSl r te to th σ H Q) (te σ H fun x H1 => to σ H1 fun l H2 => th σ H2 fun u H3 => r x l u H3 Q) := ⟨w_sl⟩
instance {W : Option Int → Hp → Prop} : Step (tNoPart σ H W) (W none H) := ⟨w_po⟩
instance {W : Option Int → Hp → Prop} : Step (tPart te σ H W) (te σ H fun x H1 => PartOf W x H1) := ⟨w_ps⟩
instance {W : Option Int → Hp → Prop} {i : Int} : Step (PartOf W (.int i) H) (W (some i) H) := ⟨w_pi⟩
instance {A B : Prop} : Step (if true = true then A else B) A := ⟨i_T⟩
instance {A B : Prop} : Step (if false = true then A else B) B := ⟨i_F⟩
instance {A B : Prop} {k : Bool} : Step (if (!k) = true then A else B) (if k = true then B else A) := ⟨i_N⟩
end
section
variable {σ : St} {H : Hp} {nx bk ct : St → Hp → Prop} {rt : VK} {t u : TS} {c : TT} {te : TE} {i : Nat} {K : PySem.W.Frag} {vs : List Nat} {Q : VK}
instance (priority := 2000) {l : St} {v : V} {f : V → St} [h : SetN l i f] : Step (Sm t nx rt bk ct (l.set i (some v)) H) (Sm t nx rt bk ct (f v) H) := ⟨fun q => by rw [h.eq]; exact q⟩
instance : Step (Sm (tSeq t u) nx rt bk ct σ H) (Sm t (fun σ H => Sm u nx rt bk ct σ H) rt bk ct σ H) := ⟨m_seq⟩
instance (priority := high) {f : V → St} [h : SetN σ i f] : Step (Sm (tAsg te (gName i)) nx rt bk ct σ H) (te σ H fun v H1 => nx (f v) H1) := ⟨fun q => m_asg (by simp only [h.eq]; exact q)⟩
instance (priority := low) {g : TG} : Step (Sm (tAsg te g) nx rt bk ct σ H) (te σ H fun v H1 => g v σ H1 nx) := ⟨m_asgG⟩
instance : Step (Sm (tRet te) nx rt bk ct σ H) (te σ H rt) := ⟨m_ret⟩
instance : Step (Sm tRetN nx rt bk ct σ H) (rt .non H) := ⟨m_retN⟩
instance : Step (Sm (tDrop te) nx rt bk ct σ H) (te σ H fun _ H1 => nx σ H1) := ⟨m_drop⟩
instance : Step (Sm tNext nx rt bk ct σ H) (nx σ H) := ⟨m_next⟩
instance : Step (Sm tBreak nx rt bk ct σ H) (bk σ H) := ⟨m_brk⟩
instance : Step (Sm tCont nx rt bk ct σ H) (ct σ H) := ⟨m_cont⟩
instance : Step (Sm (tIfS c t u) nx rt bk ct σ H) (c σ H fun b H1 => if b = true then Sm t nx rt bk ct σ H1 else Sm u nx rt bk ct σ H1) := ⟨m_if⟩
instance {ta tv : TE} {f : Str} : Step (Sm (sFld K ta tv f) nx rt bk ct σ H) (tv σ H fun y H1 => ta σ H1 fun x H2 => PutOf K f y x H2 (nx σ)) := ⟨m_fld⟩
instance {wi : TI} {g : TG} : Step (Sm (tFor wi g t) nx rt bk ct σ H) (wi σ H fun J H1 => Fj J g t nx rt σ H1) := ⟨m_for⟩
instance {tl : TA} {R : It → Hp → Prop} : Step (iRng1 tl σ H R) (tl σ H fun vs H1 => ∃ j : Int, vs = [.int j] ∧ -(2 ^ 62) ≤ j ∧ j < 2 ^ 62 ∧ R (Itr 0 j.toNat) H1) := ⟨w_rng1⟩
instance {tl : TA} {R : It → Hp → Prop} : Step (iRng2 tl σ H R) (tl σ H fun vs H1 => ∃ i j : Int, vs = [.int i, .int j] ∧ (-(2 ^ 62) ≤ i ∧ i < 2 ^ 62 ∧ -(2 ^ 62) ≤ j ∧ j < 2 ^ 62) ∧ R (Itr i (j - i).toNat) H1) := ⟨w_rng2⟩
instance {tl : TA} {R : It → Hp → Prop} : Step (iRng3 tl σ H R) (tl σ H fun vs H1 => ∃ (i j c : Int) (n : Nat), vs = [.int i, .int j, .int c] ∧ RgC i j c n ∧ R (Itc i c n) H1) := ⟨w_rng3⟩
instance {R : It → Hp → Prop} : Step (iList K te σ H R) (te σ H fun x H1 => ∃ a, x = .ref a ∧ (∃ xs, SqL K H1 a xs) ∧ R (Itl K a) H1) := ⟨w_itl⟩
instance {R : It → Hp → Prop} : Step (iTup K te σ H R) (te σ H fun x H1 => ∃ a, x = .ref a ∧ (∃ xs, SqT K H1 a xs) ∧ R (Itt K a) H1) := ⟨w_itt⟩
instance {wi : TI} {g : TG} {tt : TT} : Step (tLc wi g tt te vs σ H Q) (wi σ H fun J H1 => Lcj J g tt te vs σ H1 Q) := ⟨w_lc⟩
end
end Kit

set_option Elab.async false
set_option linter.all false
set_option maxRecDepth 100000
set_option maxHeartbeats 4000000
/-! errors of the program's own, without an __init__, two below ValueError -/
namespace Kit
open PySem PySem.Spec PyProof.Rows L2 Evl
structure ExT (K : PySem.W.Frag) (mg : Str → Option Value) (x : Str) where
  C : Addr
  g : mg x = some (.ref C)
  x : PySem.W.excIn K C [.type "ValueError", .type "Exception", .type "BaseException", .type "object"] "ValueError.__new__" = true
  k : PySem.W.keepIn K (.ref C) = true
  b : PySem.W.subIn K (.ref C) (.type "BaseException") = some true
  t : PySem.W.typeIn K (.ref C) = some (.type "type")
  e : PySem.W.exmOne K (.ref C) (.ref C) = some true
/-- a class names its own errors -/
theorem exm_own {K : PySem.W.Frag} {S : Addr} (hB : PySem.W.subIn K (.ref S) (.type "BaseException") = some true) (hC : PySem.W.isClsIn K S = true) (hT : PySem.W.typeIn K (.ref S) = some (.type "type")) (hS : PySem.W.subIn K (.ref S) (.ref S) = some true) : PySem.W.exmOne K (.ref S) (.ref S) = some true := by
  have hC' : (PySem.W.clsIn K S).isSome = true := hC
  unfold PySem.W.exmOne PySem.W.kitCls
  simp [hB, hC', hT, hS]
theorem ext_mk {K : PySem.W.Frag} {mg : Str → Option Value} {x : Str} {C : Addr} (g : mg x = some (.ref C)) (hx : PySem.W.excIn K C [.type "ValueError", .type "Exception", .type "BaseException", .type "object"] "ValueError.__new__" = true) (k : PySem.W.keepIn K (.ref C) = true)
    (hB : PySem.W.subIn K (.ref C) (.type "BaseException") = some true) (hT : PySem.W.typeIn K (.ref C) = some (.type "type")) (hC : PySem.W.isClsIn K C = true) (hS : PySem.W.subIn K (.ref C) (.ref C) = some true) : ∃ T : ExT K mg x, T.C = C := ⟨⟨C, g, hx, k, hB, hT, exm_own hB hC hT hS⟩, rfl⟩
def tRs (E : XK) (cls : Value) : TS := fun _ _ H => E cls none H
section
variable {X : Cx} {x : Str} {p pos pos2 : Pos}
/-- x() -/
theorem pmk_own0 {mg : Str → Option Value} {K : PySem.W.Frag} (T : ExT K mg x) (hK : X.K = K) (hm : X.mg = mg) (hg : Gl X x) (hdb : (x == ("__debug__" : Str)) = false := by decide) : PMk X (.Call (.Name x p) [] [] pos) (fun _ H Q => Q (.ref T.C) none H) := by
  subst hK
  subst hm
  intro pins s σ H Q I h
  refine wpAny_Call_Name_kw (ld_glob I hg T.g ?_ hdb)
  refine PySem.W.callWith_K0 I.kIn T.k ?_
  obtain ⟨bm, N, nm, qn, bs, hdct, sn, sub, ab, col, dd, k0, k1, k2, k3, k5, mN, hC, hN, hni, tail⟩ := exc_obj I.kIn T.x
  refine wpAny_call_exc_subT PySem.F.excBase_ValueError tail hC hN hni (fun h' e hm => ?_) (Nat.zero_le _)
  exact mk_of I hm (raises_own T.b T.t) h (I.hok.gone hm.new)
/-- raise x() -/
theorem ps_raise0 {E : XK} {mg : Str → Option Value} {K : PySem.W.Frag} (hc : X.calm = true) (tk : Takes X (fun cls d _ H => E cls d H)) (T : ExT K mg x) (hK : X.K = K) (hm : X.mg = mg) (hg : Gl X x) (hdb : (x == ("__debug__" : Str)) = false := by decide) :
    PS X (.Raise (some (.Call (.Name x p) [] [] pos)) none pos2) (tRs E (.ref T.C)) := ps_raise hc tk (pmk_own0 T hK hm hg hdb)
end
theorem m_raise {E : XK} {cls : Value} {nx bk ct : L2.St → Hp → Prop} {rt : VK} {σ : L2.St} {H : Hp} (h : E cls none H) : Sm (tRs E cls) nx rt bk ct σ H := h
instance {E : XK} {cls : Value} {nx bk ct : L2.St → Hp → Prop} {rt : VK} {σ : L2.St} {H : Hp} : Step (Sm (tRs E cls) nx rt bk ct σ H) (E cls none H) := ⟨m_raise⟩
/-- try: a call; except x: return True -/
def tRefused (K : PySem.W.Frag) (C : Addr) (sp : Sp) (tl : TA) : TS := fun D σ H => tDrop (tCallS sp (WE (wOnly K (.ref C) (fun _ _ _ => tRet (tC (.bl true))) (fun _ _ _ _ => False) D)) tl) D σ H
theorem m_refused {K : PySem.W.Frag} {C : Addr} {sp : Sp} {tl : TA} {nx bk ct : L2.St → Hp → Prop} {rt : VK} {σ : L2.St} {H : Hp}
    (h : tl σ H fun vs H1 => sp vs H1 (fun _ H2 => nx σ H2) (WE (wOnly K (.ref C) (fun _ _ _ => tRet (tC (.bl true))) (fun _ _ _ _ => False) ⟨nx, rt, bk, ct⟩) σ)) : Sm (tRefused K C sp tl) nx rt bk ct σ H := h
theorem w_caught {K : PySem.W.Frag} {C : Addr} {D : Ends} {σ : L2.St} {H : Hp} {d : Option Addr} (e : PySem.W.exmOne K (.ref C) (.ref C) = some true) (q : D.rt (.bl true) H) : WE (wOnly K (.ref C) (fun _ _ _ => tRet (tC (.bl true))) (fun _ _ _ _ => False) D) σ (.ref C) d H :=
  ⟨true, e, fun _ _ _ => q, fun z => Bool.noConfusion z⟩
end Kit

set_option Elab.async false
set_option linter.all false
set_option maxRecDepth 100000
set_option maxHeartbeats 4000000
/-! several except clauses, some of them with a name -/
namespace Kit
open PySem PySem.Spec PyProof.Rows L2
def oexB (K : PySem.W.Frag) (C : Addr) : Bool := match K.lookup C with
  | some ⟨.type "type", _, .cls cd, sl⟩ => (match cd.mro, sl.toList with
    | .ref C' :: bm, [_, _, _, _, some (.builtin n), _] => C' == C && n == "ValueError.__new__" && !cd.hasDel && cd.hasDict && PySem.HandSPX.refsVE bm
    | _, _ => false)
  | _ => false
theorem oexB_ok {K : PySem.W.Frag} {C : Addr} (q : oexB K C = true) : ∃ nm q N bs bm sn sub ab col dd k0 k1 k2 k3 k5, K.lookup C = some (excClassObj nm q C N bs bm true sn sub ab col dd k0 k1 k2 k3 k5 "ValueError.__new__") ∧ PySem.HandSPX.refsVE bm = true := by
  unfold oexB at q
  split at q
  · rename_i dd cd sl ho
    split at q
    · rename_i C' bm k0 k1 k2 k3 n k5 hm hs
      simp only [Bool.and_eq_true, beq_iff_eq, Bool.not_eq_true'] at q
      obtain ⟨⟨⟨⟨rfl, rfl⟩, hdel⟩, hd⟩, hv⟩ := q
      obtain ⟨nm, bs, mro, ns, qn, hdct, sn, sub, ab, col, del⟩ := cd
      dsimp only at hm hdel hd
      subst hm hdel hd
      have hsl : sl = #[k0, k1, k2, k3, some (.builtin "ValueError.__new__"), k5] := by
        obtain ⟨l⟩ := sl
        simp only at hs
        rw [hs]
      subst hsl
      exact ⟨nm, qn, ns, bs, bm, sn, sub, ab, col, dd, k0, k1, k2, k3, k5, ho, hv⟩
    · cases q
  · cases q
theorem oex_mk {K : PySem.W.Frag} {C : Addr} (q : oexB K C = true) (sa : PySem.W.findIn K (.ref C) "__setattr__" = some (some (.builtin "object.__setattr__"))) (b : PySem.W.subIn K (.ref C) (.type "BaseException") = some true) (t : PySem.W.typeIn K (.ref C) = some (.type "type")) (k : PySem.W.keepIn K (.ref C) = true) : OexC K C := ⟨oexB_ok q, sa, b, t, k⟩
/-- an error's class and another one -/
theorem exm_pair {K : PySem.W.Frag} {S D : Addr} {b : Bool} (hB : PySem.W.subIn K (.ref D) (.type "BaseException") = some true) (hC : PySem.W.isClsIn K D = true) (hT : PySem.W.typeIn K (.ref D) = some (.type "type")) (hS : PySem.W.subIn K (.ref S) (.ref D) = some b) : PySem.W.exmOne K (.ref S) (.ref D) = some b := by
  have hC' : (PySem.W.clsIn K D).isSome = true := hC
  unfold PySem.W.exmOne PySem.W.kitCls
  simp [hB, hC', hT, hS]
structure ExI (K : PySem.W.Frag) (mg : Str → Option Value) (x : Str) (fI : Addr) where
  C : Addr
  g : mg x = some (.ref C)
  o : OexC K C
  i : PySem.W.findIn K (.ref C) "__init__" = some (some (.ref fI))
  t : PySem.W.typeIn K (.ref fI) = some (.type "function")
  e : PySem.W.exmOne K (.ref C) (.ref C) = some true
  xf : XfC K C
def wHs (K : PySem.W.Frag) (Wout : WX) (D : Ends) : List (Value × Option Nat × (Addr → Value → Option Addr → TS)) → WX
  | [] => Wout
  | (c, none, ts) :: r => fun cls d σ H => ∃ b, PySem.W.exmOne K cls c = some b ∧ (b = true → ∀ a, H a = none → ts a cls d D σ H) ∧ (b = false → wHs K Wout D r cls d σ H)
  | (c, some i, ts) :: r => fun cls d σ H => ∃ b, PySem.W.exmOne K cls c = some b ∧ (b = true → ∀ a, H a = none → ts a cls d { nx := fun σ' H' => D.nx (σ'.set i none) H', rt := D.rt, bk := fun σ' H' => D.bk (σ'.set i none) H', ct := fun σ' H' => D.ct (σ'.set i none) H' } (σ.set i (some (.ref a))) H) ∧ (b = false → wHs K Wout D r cls d σ H)
inductive HsOk (X : Cx) : List ExceptHandler → List (Value × Option Nat × (Addr → Value → Option Addr → TS)) → Prop
  | nil : HsOk X [] []
  | cons {x : Str} {c : Value} {ts : Addr → Value → Option Addr → TS} {b₀ : Stmt} {suite : List Stmt} {np pos' : Pos} {hds : List ExceptHandler} {l : List (Value × Option Nat × (Addr → Value → Option Addr → TS))} (hc : Names X x c)
      (hsu : ∀ (a : Addr) (oe : Obj) (cls : Value) (d : Option Addr) (pn : List (Addr × Obj)), Zc cls d oe → (∃ vs, oe.data = .fields vs) → PSs (X.suite a ((a, oe) :: pn)) (b₀ :: suite) (ts a cls d)) (r : HsOk X hds l) :
      HsOk X (.ExceptHandler (some (.Name x np)) none (b₀ :: suite) pos' :: hds) ((c, none, ts) :: l)
  | named {x n : Str} {c : Value} {i : Nat} {ts : Addr → Value → Option Addr → TS} {b₀ : Stmt} {suite : List Stmt} {np pos' : Pos} {hds : List ExceptHandler} {l : List (Value × Option Nat × (Addr → Value → Option Addr → TS))} (hN : X.N.Nodup) (hi : X.N[i]? = some n) (hln : X.env.kindOf n = some .local) (hc : Names X x c)
      (hsu : ∀ (a : Addr) (oe : Obj) (cls : Value) (d : Option Addr) (pn : List (Addr × Obj)), Zc cls d oe → (∃ vs, oe.data = .fields vs) → PSs (X.suite a ((a, oe) :: pn)) (b₀ :: suite) (ts a cls d)) (r : HsOk X hds l) :
      HsOk X (.ExceptHandler (some (.Name x np)) (some n) (b₀ :: suite) pos' :: hds) ((c, some i, ts) :: l)
section
variable {X : Cx} {body : List Stmt} {h₀ : ExceptHandler} {hds : List ExceptHandler} {l : List (Value × Option Nat × (Addr → Value → Option Addr → TS))} {pos : Pos} {tb : WX → TS} {Wout : WX}
theorem ps_try_hs (hs : X.stack = X.env :: X.outer) (hf : X.env.frame = some X.env.locals) (tk : Takes X Wout)
    (hb : ∀ (W : WX) (pn : List (Addr × Obj)) (xe : Value → Shared → Prop), Takes (X.tr pn xe) W → PassesOwn (model X.prog X.w) X.A X.env xe → PSs (X.tr pn xe) body (tb W))
    (hh : HsOk X (h₀ :: hds) l) : PS X (.Try body (h₀ :: hds) [] [] pos) (fun D σ H => tb (wHs X.K Wout D l) D σ H) := by
  refine ⟨fun pins s σ H D I h => ?_⟩
  have ok := I.ok
  have hfr : X.A.frames = some (X.env :: X.outer) := by rw [ok.frames, hs]
  refine wpAny_Try_except ?_
  refine wpAny_mono ((hb (wHs X.K Wout D l) (X.pn ++ pins) (fun e s₁ => wpAny (model X.prog X.w) X.A (noteFrame e X.env) (fun _ s₂ => wpAny (model X.prog X.w) X.A (setFlight e none) (fun _ s₃ =>
    wpAny (model X.prog X.w) X.A (handleBy e X.env (h₀ :: hds)) (SP X pins D) X.xe s₃) X.xe s₂) X.xe s₁) (fun u s' xx => ?_) PassesOwn.looking).run [] s σ H D (I.toTry _) h) (fun f s1 hsp => ?_) (fun e s1 he => he)
  · obtain ⟨a, B, sI, pins', σ', H', cls, d, rfl, J', nb, up, sky, na, os, ag, w⟩ := xx
    have J : Inv X pins σ' H' sI := J'.ofTry ok
    have sky' : Sky B (X.env :: X.outer) a (Zc cls d) X.env.locals s'.heap := by rw [← hs]; exact sky
    show wpAny (model X.prog X.w) X.A (noteFrame (.ref a) X.env) _ _ _
    refine Sky.land Zc.steady hfr hf sky' fun h3 fl3 up3 => ?_
    have J3 : Inv X pins σ' H' { s' with heap := h3 } := J.landed nb fl3.1 (up.trans up3) os ag
    obtain ⟨oe3, vs3, he3, hz3, hd3⟩ := fl3.there
    have notFr : ∀ {h : Heap} {o : Obj} {vs : Array Value}, h.FunFrames B (X.env :: X.outer) → h.get? a = some o → o.data = .fields vs → a ∉ frs (X.env :: X.outer) := fun {h o vs} ff e dd hm => by
      obtain ⟨_, o', e', hnf⟩ := ff.mem hm
      rw [e] at e'; cases e'
      exact hnf _ dd
    have nfr := notFr fl3.2.2.1 he3 hd3
    have nL : a ≠ X.env.locals := fun z => nfr (List.mem_filterMap.mpr ⟨X.env, List.mem_cons_self, by rw [hf, z]⟩)
    have nF : a ∉ X.fs := fun hm => by
      obtain ⟨e, he, q⟩ := List.mem_filterMap.mp hm
      exact nfr (List.mem_filterMap.mpr ⟨e, List.mem_cons_of_mem _ he, q⟩)
    have S3 := J3.suite he3 hd3 na nL nF
    have LT : PySem.W.Looks (model X.prog X.w) h3 (typeOf (.ref a)) cls := fun A Q E s k q => wpAny_typeOf_ref (k _ _ he3) (by rw [hz3.1]; exact q)
    have go : ∀ {hds' : List ExceptHandler} {l' : List (Value × Option Nat × (Addr → Value → Option Addr → TS))}, HsOk X hds' l' → wHs X.K Wout D l' cls d σ' H' →
        wpAny (model X.prog X.w) X.A (handleBy (.ref a) X.env hds') (SP X pins D) X.xe { s' with heap := h3 } := by
      intro hds' l' hk
      induction hk with
      | nil =>
        intro w
        refine wpAny_handleBy_nil ?_
        obtain ⟨k1, k2, k3, oe, vs, T, oT, ts', he, hz, hd, h1, hr⟩ := id fl3
        unfold PySem.passOn
        refine wpAny_bind (wpAny_field he hd h1 ?_)
        rw [if_neg (show ¬ ((Value.ref T == Value.none) = true) from by simp)]
        have fin : wpAny (model X.prog X.w) X.A (setFlight (.ref a) X.env.frame) (fun _ s4 => wpAny (model X.prog X.w) X.A (throw (.ref a) : Sem Flow) (SP X pins D) X.xe s4) X.xe { s' with heap := h3 } := by
          rw [hf]
          refine HandSPX.setFlight_upZ fl3 fun h4 hh4 up4 => wpAny_throw (tk _ _ ?_)
          exact ⟨a, B, sI, pins, σ', H', cls, d, rfl, J, nb, (up.trans up3).trans up4, .inr (.inr (by rw [hs]; exact hh4)), na, os, ag, w⟩
        first
          | exact wpAny_bind (wpAny_pure (wpAny_bind fin))
          | exact wpAny_bind fin
      | @cons x c ts b₀ suite np pos' hds2 l2 hc hsu r ih =>
        intro w
        obtain ⟨b, hb1, hyes, hno⟩ := w
        refine wpAny_handleBy_cons (codeAny_handlers_test ?_) (by intro q; cases q)
        have LM := PySem.W.exm_one (M := model X.prog X.w) (J3.kIn) LT hb1
        have test : ∀ {Q : Value → Shared → Prop} {E : Value → Shared → Prop}, Q c { s' with heap := h3 } → wpAny (model X.prog X.w) (X.A.mark (some (.ref a))) (eval (.Name x np) X.env) Q E { s' with heap := h3 } := fun {Q E} q => by
          obtain ⟨hg, hdbg, hm | ⟨hm, hv, hnn⟩⟩ := hc
          · exact ld_glob (X := X.suite a ((a, oe3) :: (X.pn ++ pins))) S3 hg hm q hdbg
          · exact ld_blt (X := X.suite a ((a, oe3) :: (X.pn ++ pins))) S3 hg hm hv q hnn hdbg
        refine test (LM.here ?_)
        cases b with
        | true =>
          refine codeAny_handlers_suite ?_
          refine HandSPX.lands_againZ fl3 fun h4 fl4 up4 => ?_
          have J4 : Inv X pins σ' H' { s' with heap := h4 } := J.landed nb fl4.1 ((up.trans up3).trans up4) os ag
          obtain ⟨oe4, vs4, he4, hz4, hd4⟩ := fl4.there
          have S4 := J4.suite he4 hd4 na nL nF
          refine wpAny_mono ((hsu a oe4 cls d (X.pn ++ pins) hz4 ⟨_, hd4⟩).run [] _ _ H' _ S4 (hyes rfl a na)) (fun f s6 hsp => ?_) (fun _ _ z => False.elim z)
          cases f with
          | next =>
            obtain ⟨σ6, H6, S6, q6⟩ := hsp
            exact ⟨_, _, S6.unsuite ok, q6⟩
          | brk =>
            obtain ⟨σ6, H6, S6, q6⟩ := hsp
            exact ⟨_, _, S6.unsuite ok, q6⟩
          | cont =>
            obtain ⟨σ6, H6, S6, q6⟩ := hsp
            exact ⟨_, _, S6.unsuite ok, q6⟩
          | ret u =>
            obtain ⟨v6, σ6, H6, S6, r6, q6⟩ := hsp
            exact ⟨_, _, _, S6.unsuite ok, r6, q6⟩
        | false =>
          show wpAny _ X.A (handleBy (.ref a) X.env hds2) _ _ _
          exact ih (hno rfl)
      | @named x n c i ts b₀ suite np pos' hds2 l2 hN hi hln hc hsu r ih =>
        intro w
        obtain ⟨b, hb1, hyes, hno⟩ := w
        have hloc : Loc X.env.scope n := .inl hln
        refine wpAny_handleBy_cons (codeAny_handlers_test ?_) (by intro q; cases q)
        have LM := PySem.W.exm_one (M := model X.prog X.w) (J3.kIn) LT hb1
        have test : ∀ {Q : Value → Shared → Prop} {E : Value → Shared → Prop}, Q c { s' with heap := h3 } → wpAny (model X.prog X.w) (X.A.mark (some (.ref a))) (eval (.Name x np) X.env) Q E { s' with heap := h3 } := fun {Q E} q => by
          obtain ⟨hg, hdbg, hm | ⟨hm, hv, hnn⟩⟩ := hc
          · exact ld_glob (X := X.suite a ((a, oe3) :: (X.pn ++ pins))) S3 hg hm q hdbg
          · exact ld_blt (X := X.suite a ((a, oe3) :: (X.pn ++ pins))) S3 hg hm hv q hnn hdbg
        refine test (LM.here ?_)
        cases b with
        | true =>
          refine codeAny_handlers_suite_as ?_
          refine HandSPX.lands_againZ fl3 fun h4 fl4 up4 => ?_
          have J4 : Inv X pins σ' H' { s' with heap := h4 } := J.landed nb fl4.1 ((up.trans up3).trans up4) os ag
          obtain ⟨oe4, vs4, he4, hz4, hd4⟩ := fl4.there
          have S4 := J4.suite he4 hd4 na nL nF
          refine store_ok (X := X.suite a ((a, oe4) :: (X.pn ++ pins))) (v := .ref a) S4 hN hi hloc rfl (fun s5 S5 => ?_) (.inr hln)
          refine wpAny_mono ((hsu a oe4 cls d (X.pn ++ pins) hz4 ⟨_, hd4⟩).run [] s5 _ H' _ S5 (hyes rfl a na)) (fun f s6 hsp => ?_) (fun _ _ z => False.elim z)
          have end_ : ∀ {σ6 : L2.St} {H6 : Hp} {Q : Shared → Prop}, Inv (X.suite a ((a, oe4) :: (X.pn ++ pins))) [] σ6 H6 s6 → (∀ s7, Inv X pins (σ6.set i none) H6 s7 → Q s7) →
              wpAny (model X.prog X.w) X.A (do bindName X.env n .none; unbindBehindTheSuite X.env n pos') (fun _ s7 => Q s7) X.xe s6 := fun {σ6 H6 Q} S6 hq => gone_ok (S6.unsuite ok) hN hi hln hq
          cases f with
          | next =>
            obtain ⟨σ6, H6, S6, q6⟩ := hsp
            exact end_ S6 fun s7 J7 => ⟨_, _, J7, q6⟩
          | brk =>
            obtain ⟨σ6, H6, S6, q6⟩ := hsp
            exact end_ S6 fun s7 J7 => ⟨_, _, J7, q6⟩
          | cont =>
            obtain ⟨σ6, H6, S6, q6⟩ := hsp
            exact end_ S6 fun s7 J7 => ⟨_, _, J7, q6⟩
          | ret u =>
            obtain ⟨v6, σ6, H6, S6, r6, q6⟩ := hsp
            exact end_ S6 fun s7 J7 => ⟨_, _, _, J7, r6, q6⟩
        | false =>
          show wpAny _ X.A (handleBy (.ref a) X.env hds2) _ _ _
          exact ih (hno rfl)
    exact go hh w
  · cases f with
    | next =>
      obtain ⟨σ', H', J', q⟩ := hsp
      exact wpAny_execs_nil ⟨σ', H', J'.ofTry ok, q⟩
    | brk =>
      obtain ⟨σ', H', J', q⟩ := hsp
      exact ⟨σ', H', J'.ofTry ok, q⟩
    | cont =>
      obtain ⟨σ', H', J', q⟩ := hsp
      exact ⟨σ', H', J'.ofTry ok, q⟩
    | ret u =>
      obtain ⟨v, σ', H', J', r, q⟩ := hsp
      exact ⟨v, σ', H', J'.ofTry ok, r, q⟩
end

/-- an own error with fields stands -/
theorem m_ost {K : PySem.W.Frag} {f : Str} {to te : TE} {nx bk ct : L2.St → Hp → Prop} {rt : VK} {σ : L2.St} {H : Hp} (h : te σ H fun y H1 => to σ H1 fun x H2 => ∃ a C : Addr, x = .ref a ∧ OexC K C ∧ PySem.W.findIn K (.ref C) f = some none ∧
  ((H2 a = some (exo a C none) ∧ ∀ dx, H2 dx = none → dx ≠ a → nx σ (upd (upd H2 dx (exd dx [(f, y)])) a (exo a C (some dx)))) ∨
    ∃ (dx : Addr) (fs : List (Str × V)), H2 a = some (exo a C (some dx)) ∧ H2 dx = some (exd dx fs) ∧ fs.length ≤ 900 ∧ nx σ (upd H2 dx (exd dx ((f, y) :: fs))))) : Sm (tOst K f to te) nx rt bk ct σ H := h
/-- try: a call; except .. -/
def tTry (K : PySem.W.Frag) (sp : Sp) (tl : TA) (l : List (Value × Option Nat × (Addr → Value → Option Addr → TS))) : TS := fun D σ H => tDrop (tCallS sp (WE (wHs K (fun _ _ _ _ => False) D l)) tl) D σ H
theorem m_try {K : PySem.W.Frag} {sp : Sp} {tl : TA} {l : List (Value × Option Nat × (Addr → Value → Option Addr → TS))} {nx bk ct : L2.St → Hp → Prop} {rt : VK} {σ : L2.St} {H : Hp}
    (h : tl σ H fun vs H1 => sp vs H1 (fun _ H2 => nx σ H2) fun cls d H2 => wHs K (fun _ _ _ _ => False) ⟨nx, rt, bk, ct⟩ l cls d σ H2) : Sm (tTry K sp tl l) nx rt bk ct σ H := h
theorem wh_no {K : PySem.W.Frag} {W : WX} {D : Ends} {c : Value} {i : Option Nat} {ts : Addr → Value → Option Addr → TS} {l : List (Value × Option Nat × (Addr → Value → Option Addr → TS))} {cls : Value} {d : Option Addr} {σ : L2.St} {H : Hp}
    (e : PySem.W.exmOne K cls c = some false) (h : wHs K W D l cls d σ H) : wHs K W D ((c, i, ts) :: l) cls d σ H := by
  cases i with
  | none => exact ⟨false, e, fun z => Bool.noConfusion z, fun _ => h⟩
  | some i => exact ⟨false, e, fun z => Bool.noConfusion z, fun _ => h⟩
theorem wh_yes {K : PySem.W.Frag} {W : WX} {c : Value} {ts : Addr → Value → Option Addr → TS} {l : List (Value × Option Nat × (Addr → Value → Option Addr → TS))} {cls : Value} {d : Option Addr} {nx bk ct : L2.St → Hp → Prop} {rt : VK} {σ : L2.St} {H : Hp}
    (e : PySem.W.exmOne K cls c = some true) (h : ∀ a, H a = none → Sm (ts a cls d) nx rt bk ct σ H) : wHs K W ⟨nx, rt, bk, ct⟩ ((c, none, ts) :: l) cls d σ H := ⟨true, e, fun _ a na => h a na, fun z => Bool.noConfusion z⟩
theorem wh_as {K : PySem.W.Frag} {W : WX} {c : Value} {i : Nat} {ts : Addr → Value → Option Addr → TS} {l : List (Value × Option Nat × (Addr → Value → Option Addr → TS))} {cls : Value} {d : Option Addr} {nx bk ct : L2.St → Hp → Prop} {rt : VK} {σ : L2.St} {H : Hp}
    (e : PySem.W.exmOne K cls c = some true) (h : ∀ a, H a = none → Sm (ts a cls d) (fun σ' H' => nx (σ'.set i none) H') rt (fun σ' H' => bk (σ'.set i none) H') (fun σ' H' => ct (σ'.set i none) H') (σ.set i (some (.ref a))) H) : wHs K W ⟨nx, rt, bk, ct⟩ ((c, some i, ts) :: l) cls d σ H := ⟨true, e, fun _ a na => h a na, fun z => Bool.noConfusion z⟩
theorem w_xf {a C : Addr} {f : Str} {te : TE} {cls : Value} {d : Option Addr} {σ : L2.St} {H : Hp} {Q : VK} (h : te σ H fun x H1 => x = .ref a ∧ cls = .ref C ∧ ∃ (dd : Addr) (fs : List (Str × V)) (v : V), d = some dd ∧ H1 dd = some (.xd fs) ∧ fs.lookup f = some v ∧ Q v H1) : tXf a cls d C f te σ H Q := h
theorem m_mk {C : Addr} {sp : Sp} {tl : TA} {E : XK} {nx bk ct : L2.St → Hp → Prop} {rt : VK} {σ : L2.St} {H : Hp}
    (h : tl σ H fun vs H1 => vs.length ≤ 1000 ∧ ∀ a, H1 a = none → sp (.ref a :: (vs ++ [])) (upd H1 a (exo a C none)) (fun v H2 => v = .non ∧ ∃ (d : Addr) (fs : List (Str × V)), H2 a = some (exo a C (some d)) ∧ H2 d = some (exd d fs) ∧ H1 d = none ∧ E (.ref C) (some d) (upd (del H2 a) d (.xd fs))) (fun _ _ _ => False)) :
    Sm (fun _ σ H => tMkO C sp [] tl σ H fun cls d H' => E cls d H') nx rt bk ct σ H := h
end Kit

set_option Elab.async false
set_option linter.all false
set_option maxRecDepth 100000
set_option maxHeartbeats 4000000
namespace My
open PySem PySem.Spec PyProof.Rows L2
/-! ### the walk: "wp" goes as far as it can, "wp1" one step; "hp": what stands at an address; "ex": a heap grown; "sqL", "sqT": a list, a tuple to be read; "side": a side condition; "ix": an item -/
local macro_rules | `(tactic| walk_at "hp") => `(tactic| first | with_reducible assumption | exact Kit.ex_get (by with_reducible assumption) (by walk_at "hp") | fail)
local macro_rules | `(tactic| walk_at "ex") => `(tactic| first | with_reducible assumption | with_reducible exact Evl.Ex.refl _ | exact Kit.ex_snoc (by with_reducible assumption) (by walk_at "ex") | exact Kit.ex_but (by with_reducible assumption) (by with_reducible assumption) (by walk_at "ex") | fail)
local macro_rules | `(tactic| walk_at "but") => `(tactic| first | with_reducible assumption | with_reducible exact Kit.ExBut.refl _ _ | exact Kit.but_snoc (by with_reducible assumption) (by walk_at "but") | exact Kit.but_snocE (by with_reducible assumption) (by walk_at "but") | fail)
local macro_rules | `(tactic| walk_at "sqL") => `(tactic| first | with_reducible assumption | exact Evl.sq_of (by with_reducible assumption) | exact Evl.ex_l (by with_reducible assumption) (by walk_at "sqL") | fail)
local macro_rules | `(tactic| walk_at "sqT") => `(tactic| first | with_reducible assumption | exact Evl.st_of (by with_reducible assumption) | exact Evl.ex_t (by with_reducible assumption) (by walk_at "sqT") | fail)
local macro_rules | `(tactic| walk_at "sq2") => `(tactic| first | with_reducible assumption | exact Or.inr (Evl.st_of (by with_reducible assumption)) | exact Or.inl (Evl.sq_of (by with_reducible assumption)) | exact Or.inl (by walk_at "sqL") | exact Or.inr (by walk_at "sqT") | fail)
local macro_rules | `(tactic| walk_at "len") => `(tactic| (first | assumption | omega | fail))
local macro_rules | `(tactic| walk_at "len2") => `(tactic| first | exact Nat.le_of_ble_eq_true rfl | omega | (simp; omega) | fail)
local macro_rules | `(tactic| walk_at "side") => `(tactic| first | (with_reducible exact trivial) | (show (0 : Int) < _; omega) | (show (0 : Int) < _; decide) | (show L2.CDiv _ _; exact ⟨by omega, by omega⟩) | (show L2.CMul _ _; exact .inr ⟨by omega, by omega⟩) | (show L2.CMul _ _; exact .inl ⟨by omega, by omega⟩) | (show L2.CDivW _ _; exact Kit.divW (by omega) (by omega)) | (show L2.CDivW _ _; exact Kit.divW (by decide) (by decide)) | (show L2.CPow _ _; exact ⟨by decide, by decide, by decide⟩) | fail)
local macro_rules | `(tactic| walk_at "ix") => `(tactic| first | exact L2.atI_nat (j := 0) rfl | exact L2.atI_nat (j := 1) rfl | exact L2.atI_nat (j := 2) rfl | exact L2.atI_nat (j := 3) rfl | exact L2.atI_nat (j := 4) rfl | exact L2.atI_nat (j := 5) rfl | assumption | fail)
local macro_rules | `(tactic| walk_at "norm") => `(tactic| ((with_reducible show Kit.Sm _ _ _ _ _ (List.set _ _ _) _); refine Kit.m_norm (by simp only [List.set_cons_succ, List.set_cons_zero]; exact rfl) ?_))
local macro_rules | `(tactic| walk_at "wpA") => `(tactic| first
  | with_reducible refine Kit.i_R ?_
  | ((with_reducible refine Kit.i_D ?_ ?_) <;> intro _)
  | ((with_reducible show L2.rI _ _ _ _ _ _); refine Kit.w_I (by walk_at "side") ?_)
  | ((with_reducible show Kit.Alloc _ _ _ _); refine Kit.w_new (by first | exact Nat.le_of_ble_eq_true rfl | walk_at "len") ?_; intro _ _ _ _ _)
  | ((with_reducible show L2.rIxL _ _ (V.int _) _ _); refine Kit.w_ixL (by walk_at "sqL") (by walk_at "ix") ?_)
  | ((with_reducible show L2.rIxT _ _ (V.int _) _ _); refine Kit.w_ixT (by walk_at "sqT") (by walk_at "ix") ?_)
  | ((with_reducible show L2.rIn _ false _ _ _ _); first | refine Kit.w_inLt (by walk_at "sq2") (by decide +kernel) ?_ | refine Kit.w_inLf (by walk_at "sq2") (by decide +kernel) ?_)
  | ((with_reducible show L2.rEq (V.str _) _ _ _); first | with_reducible refine Kit.w_eqS ?_ | refine Kit.w_eqSF (by decide +kernel) ?_)
  | fail)
local macro_rules | `(tactic| walk_at "wpB") => `(tactic| first
  | ((with_reducible show L2.rSlL _ _ _ _ _ _); refine Kit.w_slL (by walk_at "sqL") ?_; intro _ _ _ _ _)
  | ((with_reducible show L2.rSlA _ _ _ _ _ _); refine Kit.w_slT (by walk_at "sqT") ?_; intro _ _ _ _)
  | ((with_reducible show L2.rCatA _ _ _ _ _); refine Kit.w_catT (by walk_at "sqT") (by walk_at "sqT") (by walk_at "len2") ?_; intro _ _ _ _)
  | ((with_reducible show L2.rCat _ _ _ _); refine Kit.w_catL (by walk_at "hp") (by walk_at "hp") (by walk_at "len2") ?_; intro _ _ _ _ _)
  | ((with_reducible show L2.tyV _ "list" _ _ ∧ _); refine Kit.w_tyL (by walk_at "sqL") ?_)
  | ((with_reducible refine Kit.w_made ?_); intro _ _ _ _ _ _)
  | ((with_reducible show Evl.rLenS _ _ _ _); refine Kit.w_len (by walk_at "sq2") ?_)
  | ((with_reducible show Evl.rListS _ _ _ _); refine Kit.w_list (by walk_at "sq2") ?_; intro _ _ _ _ _)
  | ((with_reducible show Kit.rTupS _ _ _ _); first | (refine Kit.w_tuple (by walk_at "sqL") ?_; intro _ _ _ _ _) | refine Kit.w_tupleT (by walk_at "sqT") ?_)
  | ((with_reducible show L2.rSetL _ (V.int _) _ _ _); refine Kit.w_setL (by walk_at "hp") (by first | exact rfl | exact Evl.ixN_nat (by omega)) (by first | (simp only [List.set_cons_succ, List.set_cons_zero]; exact rfl) | exact rfl) ?_; intro _ _ _)
  | ((with_reducible show L2.rNeD _ _ _ _ _); first | refine Kit.w_neTT (by walk_at "sqT") (by walk_at "sqT") ?_ | refine Kit.w_neLL (by walk_at "sqL") (by walk_at "sqL") ?_)
  | ((with_reducible show L2.rEqD _ _ _ _ _); first | refine Kit.w_eqTT (by walk_at "sqT") (by walk_at "sqT") ?_ | refine Kit.w_eqLL (by walk_at "sqL") (by walk_at "sqL") ?_)
  | fail)
local macro_rules | `(tactic| walk_at "wpC") => `(tactic| first
  | with_reducible refine Kit.w_intB ?_
  | ((with_reducible show L2.rIsi _ _ _ _); first | refine Kit.w_isiInt (b := true) (by decide +kernel) ?_ | refine Kit.w_isiInt (b := false) (by decide +kernel) ?_ | refine Kit.w_isiNon (b := true) (by decide +kernel) ?_ | refine Kit.w_isiNon (b := false) (by decide +kernel) ?_ | refine Kit.w_isiBl (b := true) (by decide +kernel) ?_ | refine Kit.w_isiBl (b := false) (by decide +kernel) ?_ | refine Kit.w_isiStr (b := true) (by decide +kernel) ?_ | refine Kit.w_isiStr (b := false) (by decide +kernel) ?_ | refine Kit.w_isiTup (b := true) (by walk_at "sqT") (by decide +kernel) ?_ | refine Kit.w_isiTup (b := false) (by walk_at "sqT") (by decide +kernel) ?_ | refine Kit.w_isiLst (b := true) (by walk_at "sqL") (by decide +kernel) ?_ | refine Kit.w_isiLst (b := false) (by walk_at "sqL") (by decide +kernel) ?_)
  | with_reducible refine Kit.m_gsub ?_
  | with_reducible refine Kit.w_dget ?_
  | ((with_reducible refine Kit.w_disp ?_); intro _ _ _ _ _)
  | with_reducible refine Kit.w_pp ?_
  | with_reducible refine Kit.w_pn ?_
  | fail)
local macro_rules | `(tactic| walk_at "wpS") => `(tactic| first
  | ((with_reducible show L2.tVar _ _ _ _); refine Kit.w_var rfl ?_)
  | with_reducible refine Kit.w_op ?_
  | with_reducible refine Kit.w_c ?_
  | with_reducible refine Kit.w_cons ?_
  | with_reducible refine Kit.w_nil ?_
  | ((with_reducible show Kit.Sm _ _ _ _ _ _ _); first
      | ((with_reducible show Kit.Sm _ _ _ _ _ (List.set _ _ _) _); refine Kit.m_norm (by simp only [List.set_cons_succ, List.set_cons_zero]; exact rfl) ?_)
      | with_reducible refine Kit.m_seq ?_
      | with_reducible refine Kit.m_asg ?_
      | with_reducible refine Kit.m_if ?_
      | with_reducible refine Kit.m_ret ?_
      | with_reducible refine Kit.m_next ?_
      | with_reducible refine Kit.m_asgG ?_
      | with_reducible refine Kit.m_drop ?_
      | with_reducible refine Kit.m_fld ?_
      | with_reducible refine Kit.m_for ?_
      | with_reducible refine Kit.m_retN ?_
      | with_reducible refine Kit.m_cont ?_
      | with_reducible refine Kit.m_brk ?_)
  | with_reducible refine Kit.w_test ?_
  | with_reducible refine Kit.w_bl ?_
  | with_reducible refine Kit.w_blE ?_
  | with_reducible refine Kit.w_I0 ?_
  | with_reducible refine Kit.w_eqI ?_
  | with_reducible refine Kit.i_T ?_
  | with_reducible refine Kit.i_F ?_
  | with_reducible refine Kit.i_N ?_
  | with_reducible refine Kit.w_cb ?_
  | with_reducible refine Kit.w_call0 ?_
  | with_reducible refine Kit.w_tup ?_
  | with_reducible refine Kit.w_lst ?_
  | with_reducible refine Kit.w_int ?_
  | with_reducible refine Kit.w_not ?_
  | with_reducible refine Kit.w_and ?_
  | with_reducible refine Kit.w_or ?_
  | with_reducible refine Kit.w_B ?_
  | with_reducible refine Kit.w_ifE ?_
  | with_reducible refine Kit.w_fld ?_
  | with_reducible refine Kit.w_meth ?_
  | with_reducible refine Kit.w_sl ?_
  | with_reducible refine Kit.w_po ?_
  | with_reducible refine Kit.w_ps ?_
  | with_reducible refine Kit.w_pi ?_
  | with_reducible refine Kit.w_bm ?_
  | with_reducible refine Kit.w_bm0 ?_
  | with_reducible refine Kit.w_make ?_
  | with_reducible refine Kit.w_neI ?_
  | with_reducible refine Kit.w_un ?_
  | with_reducible refine Kit.w_U ?_
  | with_reducible refine Kit.w_andV ?_
  | with_reducible refine Kit.w_orV ?_
  | with_reducible refine Kit.w_notV ?_
  | with_reducible refine Kit.w_eqB ?_
  | with_reducible refine Kit.w_max ?_
  | with_reducible refine Kit.w_min ?_
  | with_reducible refine Kit.w_abs ?_
  | ((with_reducible show Kit.rIsNo _ _ _ _); first | with_reducible refine Kit.w_isNN ?_ | with_reducible refine Kit.w_isNI ?_ | with_reducible refine Kit.w_isNB ?_ | with_reducible refine Kit.w_isNR ?_)
  | ((with_reducible show Kit.rNotNo _ _ _ _); first | with_reducible refine Kit.w_notNN ?_ | with_reducible refine Kit.w_notNI ?_ | with_reducible refine Kit.w_notNB ?_ | with_reducible refine Kit.w_notNR ?_)
  | with_reducible refine Kit.w_rng1 ?_
  | with_reducible refine Kit.w_rng2 ?_
  | with_reducible refine Kit.w_rng3 ?_
  | with_reducible refine Kit.w_lc ?_
  | with_reducible refine Kit.w_itl ?_
  | with_reducible refine Kit.w_itt ?_
  | fail)
local macro_rules | `(tactic| walk_at "wpZ") => `(tactic| first
  | ((with_reducible refine Kit.i_B ?_ ?_) <;> intro _)
  | fail)
local macro_rules | `(tactic| walk_at "wp1") => `(tactic| first | walk_at "wpA" | walk_at "wpB" | walk_at "wpC" | walk_at "wpZ" | walk_at "wpS")
local macro_rules | `(tactic| walk_at "wp") => `(tactic| repeat' (first | with_reducible refine Kit.step ?_ | walk_at "wp1"))

/-! ### the text by places -/
def topS (i : Nat) : Stmt := PySem.Challenge.pw_onestepcourt_k00_errors_and_limits.main.body.getD i (.Pass ⟨0, 0, 0, 0⟩)
abbrev s_BadSource___init : Stmt := inClass (topS 2) 0
abbrev N_BadSource___init : List Str := ["self", "line", "reason"]
theorem sc_BadSource___init : FnScope N_BadSource___init ["self", "line", "reason"] (defScope s_BadSource___init) := ⟨rfl, rfl, rfl, by decide +kernel, rfl, by decide +kernel, by decide +kernel⟩
abbrev s_BadProgram___init : Stmt := inClass (topS 4) 0
abbrev N_BadProgram___init : List Str := ["self", "reason"]
theorem sc_BadProgram___init : FnScope N_BadProgram___init ["self", "reason"] (defScope s_BadProgram___init) := ⟨rfl, rfl, rfl, by decide +kernel, rfl, by decide +kernel, by decide +kernel⟩
abbrev s_BadSchedule___init : Stmt := inClass (topS 8) 0
abbrev N_BadSchedule___init : List Str := ["self", "line"]
theorem sc_BadSchedule___init : FnScope N_BadSchedule___init ["self", "line"] (defScope s_BadSchedule___init) := ⟨rfl, rfl, rfl, by decide +kernel, rfl, by decide +kernel, by decide +kernel⟩
abbrev s_law_cell : Stmt := topS 25
abbrev N_law_cell : List Str := ["script", "k"]
theorem sc_law_cell : FnScope N_law_cell ["script", "k"] (defScope s_law_cell) := ⟨rfl, rfl, rfl, by decide +kernel, rfl, by decide +kernel, by decide +kernel⟩
abbrev s_law_raised : Stmt := topS 26
abbrev N_law_raised : List Str := ["line", "reason", "which"]
theorem sc_law_raised : FnScope N_law_raised ["line", "reason", "which"] (defScope s_law_raised) := ⟨rfl, rfl, rfl, by decide +kernel, rfl, by decide +kernel, by decide +kernel⟩
abbrev s_law_is_0 : Stmt := topS 27
abbrev N_law_is_0 : List Str := ["line", "reason", "which", "error"]
theorem sc_law_is_0 : FnScope N_law_is_0 ["line", "reason", "which"] (defScope s_law_is_0) := ⟨rfl, rfl, rfl, by decide +kernel, rfl, by decide +kernel, by decide +kernel⟩
abbrev s_law_is_1 : Stmt := topS 28
abbrev N_law_is_1 : List Str := ["line", "reason", "which", "error"]
theorem sc_law_is_1 : FnScope N_law_is_1 ["line", "reason", "which"] (defScope s_law_is_1) := ⟨rfl, rfl, rfl, by decide +kernel, rfl, by decide +kernel, by decide +kernel⟩
abbrev s_law_is_2 : Stmt := topS 29
abbrev N_law_is_2 : List Str := ["line", "reason", "which", "error"]
theorem sc_law_is_2 : FnScope N_law_is_2 ["line", "reason", "which"] (defScope s_law_is_2) := ⟨rfl, rfl, rfl, by decide +kernel, rfl, by decide +kernel, by decide +kernel⟩
abbrev s_law_is_3 : Stmt := topS 30
abbrev N_law_is_3 : List Str := ["line", "reason", "which"]
theorem sc_law_is_3 : FnScope N_law_is_3 ["line", "reason", "which"] (defScope s_law_is_3) := ⟨rfl, rfl, rfl, by decide +kernel, rfl, by decide +kernel, by decide +kernel⟩
abbrev s_law_is_4 : Stmt := topS 31
abbrev N_law_is_4 : List Str := ["line", "reason", "which"]
theorem sc_law_is_4 : FnScope N_law_is_4 ["line", "reason", "which"] (defScope s_law_is_4) := ⟨rfl, rfl, rfl, by decide +kernel, rfl, by decide +kernel, by decide +kernel⟩
abbrev s_law_is_5 : Stmt := topS 32
abbrev N_law_is_5 : List Str := ["line", "reason", "which"]
theorem sc_law_is_5 : FnScope N_law_is_5 ["line", "reason", "which"] (defScope s_law_is_5) := ⟨rfl, rfl, rfl, by decide +kernel, rfl, by decide +kernel, by decide +kernel⟩
abbrev s_law_is_6 : Stmt := topS 33
abbrev N_law_is_6 : List Str := ["line", "reason", "which"]
theorem sc_law_is_6 : FnScope N_law_is_6 ["line", "reason", "which"] (defScope s_law_is_6) := ⟨rfl, rfl, rfl, by decide +kernel, rfl, by decide +kernel, by decide +kernel⟩
abbrev s_law : Stmt := topS 34
abbrev N_law : List Str := ["script", "line", "reason", "which", "told"]
theorem sc_law : FnScope N_law ["script"] (defScope s_law) := ⟨rfl, rfl, rfl, by decide +kernel, rfl, by decide +kernel, by decide +kernel⟩
/-! ### what the top has written -/
structure Txt (K : PySem.W.Frag) (mg : Str → Option Value) where
  f_BadSource___init : Kit.GFn K "__init__" "BadSource.__init__" s_BadSource___init ["self", "line", "reason"]
  f_BadProgram___init : Kit.GFn K "__init__" "BadProgram.__init__" s_BadProgram___init ["self", "reason"]
  f_BadSchedule___init : Kit.GFn K "__init__" "BadSchedule.__init__" s_BadSchedule___init ["self", "line"]
  f_law_cell : Kit.GFn' K mg "_law_cell" "_law_cell" s_law_cell ["script", "k"]
  f_law_raised : Kit.GFn' K mg "_law_raised" "_law_raised" s_law_raised ["line", "reason", "which"]
  f_law_is_0 : Kit.GFn' K mg "_law_is_0" "_law_is_0" s_law_is_0 ["line", "reason", "which"]
  f_law_is_1 : Kit.GFn' K mg "_law_is_1" "_law_is_1" s_law_is_1 ["line", "reason", "which"]
  f_law_is_2 : Kit.GFn' K mg "_law_is_2" "_law_is_2" s_law_is_2 ["line", "reason", "which"]
  f_law_is_3 : Kit.GFn' K mg "_law_is_3" "_law_is_3" s_law_is_3 ["line", "reason", "which"]
  f_law_is_4 : Kit.GFn' K mg "_law_is_4" "_law_is_4" s_law_is_4 ["line", "reason", "which"]
  f_law_is_5 : Kit.GFn' K mg "_law_is_5" "_law_is_5" s_law_is_5 ["line", "reason", "which"]
  f_law_is_6 : Kit.GFn' K mg "_law_is_6" "_law_is_6" s_law_is_6 ["line", "reason", "which"]
  f_law : Kit.GFn' K mg "law" "law" s_law ["script"]
  e_CourtError : Kit.ExT K mg "CourtError"
  e_BadTree : Kit.ExT K mg "BadTree"
  e_BadFit : Kit.ExT K mg "BadFit"
  e_BadOpening : Kit.ExT K mg "BadOpening"
  e_BadCall : Kit.ExT K mg "BadCall"
  e_BadSource : Kit.ExI K mg "BadSource" f_BadSource___init.f
  n_BadSource_line : PySem.W.findIn K (.ref e_BadSource.C) "line" = some none
  n_BadSource_reason : PySem.W.findIn K (.ref e_BadSource.C) "reason" = some none
  e_BadProgram : Kit.ExI K mg "BadProgram" f_BadProgram___init.f
  n_BadProgram_reason : PySem.W.findIn K (.ref e_BadProgram.C) "reason" = some none
  e_BadSchedule : Kit.ExI K mg "BadSchedule" f_BadSchedule___init.f
  n_BadSchedule_line : PySem.W.findIn K (.ref e_BadSchedule.C) "line" = some none
  p_BadSource_BadProgram : PySem.W.exmOne K (.ref e_BadSource.C) (.ref e_BadProgram.C) = some false
  p_BadSource_BadSchedule : PySem.W.exmOne K (.ref e_BadSource.C) (.ref e_BadSchedule.C) = some false
  p_BadSource_BadFit : PySem.W.exmOne K (.ref e_BadSource.C) (.ref e_BadFit.C) = some false
  p_BadSource_BadOpening : PySem.W.exmOne K (.ref e_BadSource.C) (.ref e_BadOpening.C) = some false
  p_BadSource_BadCall : PySem.W.exmOne K (.ref e_BadSource.C) (.ref e_BadCall.C) = some false
  p_BadSource_BadTree : PySem.W.exmOne K (.ref e_BadSource.C) (.ref e_BadTree.C) = some false
  p_BadProgram_BadSource : PySem.W.exmOne K (.ref e_BadProgram.C) (.ref e_BadSource.C) = some false
  p_BadProgram_BadSchedule : PySem.W.exmOne K (.ref e_BadProgram.C) (.ref e_BadSchedule.C) = some false
  p_BadProgram_BadFit : PySem.W.exmOne K (.ref e_BadProgram.C) (.ref e_BadFit.C) = some false
  p_BadProgram_BadOpening : PySem.W.exmOne K (.ref e_BadProgram.C) (.ref e_BadOpening.C) = some false
  p_BadProgram_BadCall : PySem.W.exmOne K (.ref e_BadProgram.C) (.ref e_BadCall.C) = some false
  p_BadProgram_BadTree : PySem.W.exmOne K (.ref e_BadProgram.C) (.ref e_BadTree.C) = some false
  p_BadSchedule_BadSource : PySem.W.exmOne K (.ref e_BadSchedule.C) (.ref e_BadSource.C) = some false
  p_BadSchedule_BadProgram : PySem.W.exmOne K (.ref e_BadSchedule.C) (.ref e_BadProgram.C) = some false
  p_BadSchedule_BadFit : PySem.W.exmOne K (.ref e_BadSchedule.C) (.ref e_BadFit.C) = some false
  p_BadSchedule_BadOpening : PySem.W.exmOne K (.ref e_BadSchedule.C) (.ref e_BadOpening.C) = some false
  p_BadSchedule_BadCall : PySem.W.exmOne K (.ref e_BadSchedule.C) (.ref e_BadCall.C) = some false
  p_BadSchedule_BadTree : PySem.W.exmOne K (.ref e_BadSchedule.C) (.ref e_BadTree.C) = some false
  p_BadFit_BadSource : PySem.W.exmOne K (.ref e_BadFit.C) (.ref e_BadSource.C) = some false
  p_BadFit_BadProgram : PySem.W.exmOne K (.ref e_BadFit.C) (.ref e_BadProgram.C) = some false
  p_BadFit_BadSchedule : PySem.W.exmOne K (.ref e_BadFit.C) (.ref e_BadSchedule.C) = some false
  p_BadFit_BadOpening : PySem.W.exmOne K (.ref e_BadFit.C) (.ref e_BadOpening.C) = some false
  p_BadFit_BadCall : PySem.W.exmOne K (.ref e_BadFit.C) (.ref e_BadCall.C) = some false
  p_BadFit_BadTree : PySem.W.exmOne K (.ref e_BadFit.C) (.ref e_BadTree.C) = some false
  p_BadOpening_BadSource : PySem.W.exmOne K (.ref e_BadOpening.C) (.ref e_BadSource.C) = some false
  p_BadOpening_BadProgram : PySem.W.exmOne K (.ref e_BadOpening.C) (.ref e_BadProgram.C) = some false
  p_BadOpening_BadSchedule : PySem.W.exmOne K (.ref e_BadOpening.C) (.ref e_BadSchedule.C) = some false
  p_BadOpening_BadFit : PySem.W.exmOne K (.ref e_BadOpening.C) (.ref e_BadFit.C) = some false
  p_BadOpening_BadCall : PySem.W.exmOne K (.ref e_BadOpening.C) (.ref e_BadCall.C) = some false
  p_BadOpening_BadTree : PySem.W.exmOne K (.ref e_BadOpening.C) (.ref e_BadTree.C) = some false
  p_BadCall_BadSource : PySem.W.exmOne K (.ref e_BadCall.C) (.ref e_BadSource.C) = some false
  p_BadCall_BadProgram : PySem.W.exmOne K (.ref e_BadCall.C) (.ref e_BadProgram.C) = some false
  p_BadCall_BadSchedule : PySem.W.exmOne K (.ref e_BadCall.C) (.ref e_BadSchedule.C) = some false
  p_BadCall_BadFit : PySem.W.exmOne K (.ref e_BadCall.C) (.ref e_BadFit.C) = some false
  p_BadCall_BadOpening : PySem.W.exmOne K (.ref e_BadCall.C) (.ref e_BadOpening.C) = some false
  p_BadCall_BadTree : PySem.W.exmOne K (.ref e_BadCall.C) (.ref e_BadTree.C) = some false
  p_BadTree_BadSource : PySem.W.exmOne K (.ref e_BadTree.C) (.ref e_BadSource.C) = some false
  p_BadTree_BadProgram : PySem.W.exmOne K (.ref e_BadTree.C) (.ref e_BadProgram.C) = some false
  p_BadTree_BadSchedule : PySem.W.exmOne K (.ref e_BadTree.C) (.ref e_BadSchedule.C) = some false
  p_BadTree_BadFit : PySem.W.exmOne K (.ref e_BadTree.C) (.ref e_BadFit.C) = some false
  p_BadTree_BadOpening : PySem.W.exmOne K (.ref e_BadTree.C) (.ref e_BadOpening.C) = some false
  p_BadTree_BadCall : PySem.W.exmOne K (.ref e_BadTree.C) (.ref e_BadCall.C) = some false
  p_BadSource_CourtError : PySem.W.exmOne K (.ref e_BadSource.C) (.ref e_CourtError.C) = some true
  p_BadProgram_CourtError : PySem.W.exmOne K (.ref e_BadProgram.C) (.ref e_CourtError.C) = some true
  p_BadSchedule_CourtError : PySem.W.exmOne K (.ref e_BadSchedule.C) (.ref e_CourtError.C) = some true
  p_BadFit_CourtError : PySem.W.exmOne K (.ref e_BadFit.C) (.ref e_CourtError.C) = some true
  p_BadOpening_CourtError : PySem.W.exmOne K (.ref e_BadOpening.C) (.ref e_CourtError.C) = some true
  p_BadCall_CourtError : PySem.W.exmOne K (.ref e_BadCall.C) (.ref e_CourtError.C) = some true
  p_BadTree_CourtError : PySem.W.exmOne K (.ref e_BadTree.C) (.ref e_CourtError.C) = some true
  t_DEPTH : Tok
  g_DEPTH : mg "DEPTH" = some (.int 8 t_DEPTH)
  t_MOST_FUNCTIONS : Tok
  g_MOST_FUNCTIONS : mg "MOST_FUNCTIONS" = some (.int 8 t_MOST_FUNCTIONS)
  t_MOST_INPUTS : Tok
  g_MOST_INPUTS : mg "MOST_INPUTS" = some (.int 16 t_MOST_INPUTS)
  t_MOST_LATE : Tok
  g_MOST_LATE : mg "MOST_LATE" = some (.int 9 t_MOST_LATE)
  t_MOST_LEVEL : Tok
  g_MOST_LEVEL : mg "MOST_LEVEL" = some (.int 8 t_MOST_LEVEL)
  t_MOST_NAME : Tok
  g_MOST_NAME : mg "MOST_NAME" = some (.int 12 t_MOST_NAME)
  t_MOST_NESTED : Tok
  g_MOST_NESTED : mg "MOST_NESTED" = some (.int 12 t_MOST_NESTED)
  t_MOST_OPEN : Tok
  g_MOST_OPEN : mg "MOST_OPEN" = some (.int 16 t_MOST_OPEN)
  t_MOST_PARAMS : Tok
  g_MOST_PARAMS : mg "MOST_PARAMS" = some (.int 4 t_MOST_PARAMS)
  t_MOST_PLAYERS : Tok
  g_MOST_PLAYERS : mg "MOST_PLAYERS" = some (.int 6 t_MOST_PLAYERS)
  t_MOST_SIZE : Tok
  g_MOST_SIZE : mg "MOST_SIZE" = some (.int 64 t_MOST_SIZE)
  t_MOST_TABLES : Tok
  g_MOST_TABLES : mg "MOST_TABLES" = some (.int 8 t_MOST_TABLES)
  t_MOST_TEXT : Tok
  g_MOST_TEXT : mg "MOST_TEXT" = some (.int 8000 t_MOST_TEXT)
  t_MOST_TOLD : Tok
  g_MOST_TOLD : mg "MOST_TOLD" = some (.int 16 t_MOST_TOLD)
  t_MOST_WORD : Tok
  g_MOST_WORD : mg "MOST_WORD" = some (.int 65535 t_MOST_WORD)
  z_abs : mg "abs" = none
  z_int : mg "int" = none
  z_len : mg "len" = none
  z_range : mg "range" = none
theorem ex_done {Q : VK} {v u : V} {H H' : Hp} (q : ∀ H', Evl.Ex H H' → Q v H') (e : Evl.Ex H H') (h : v = u) : Q u H' := h ▸ q H' e
section
variable {P : Program} {w : World} {K : PySem.W.Frag} {mg : Str → Option Value} {base : Heap}

/-! ### errors -/
def sp_err2 (C : Addr) : Sp := fun vs H Q _ => ∃ (a : Addr) (x y : V), vs = [.ref a, x, y] ∧ OexC K C ∧ PySem.W.findIn K (.ref C) "line" = some none ∧ PySem.W.findIn K (.ref C) "reason" = some none ∧ H a = some (exo a C none) ∧
  ∀ d H2, H d = none → d ≠ a → (∀ b, b ≠ a → b ≠ d → H2 b = H b) → H2 a = some (exo a C (some d)) → H2 d = some (exd d [("reason", y), ("line", x)]) → Q .non H2
def sp_err1 (C : Addr) (f : Str) : Sp := fun vs H Q _ => ∃ (a : Addr) (x : V), vs = [.ref a, x] ∧ OexC K C ∧ PySem.W.findIn K (.ref C) f = some none ∧ H a = some (exo a C none) ∧
  ∀ d H2, H d = none → d ≠ a → (∀ b, b ≠ a → b ≠ d → H2 b = H b) → H2 a = some (exo a C (some d)) → H2 d = some (exd d [(f, x)]) → Q .non H2
theorem ok_BadSource___init (T : Txt K mg) : FnOk P w K mg base CX0 1 T.f_BadSource___init.f T.f_BadSource___init.fd ["self", "line", "reason"] (sp_err2 (K := K) T.e_BadSource.C) := by
  refine T.f_BadSource___init.F.ok sc_BadSource___init (fun vs H Q E h => ?_) (fun cdv A outer s H vs Q E hr h => ?_)
  · obtain ⟨a, x, y, rfl, ho, hl, hr', hH, q⟩ := h
    rfl
  obtain ⟨a, x, y, rfl, ho, hl, hr', hH, q⟩ := h
  have nd := sc_BadSource___init.nd
  refine Kit.ok_body (σ := [some _, some _, some _]) ((pss_cons (ps_ost (pv 0) (pv 1))
    (pss_one (ps_ost (pv 0) (pv 2))))) rfl ?_
  refine Kit.m_seq ?_
  refine Kit.m_ost ?_
  walk_at "wp"
  refine ⟨a, _, rfl, ho, hl, .inl ⟨hH, fun dx hd hn => ?_⟩⟩
  refine Kit.m_ost ?_
  walk_at "wp"
  refine ⟨a, _, rfl, ho, hr', .inr ⟨dx, [("line", x)], upd_same, (upd_ne hn).trans upd_same, Nat.le_of_ble_eq_true rfl, ?_⟩⟩
  refine q dx _ hd hn (fun b h1 h2 => ?_) ?_ upd_same
  · rw [upd_ne h2, upd_ne h1, upd_ne h2]
  · rw [upd_ne (Ne.symm hn), upd_same]
theorem ok_BadProgram___init (T : Txt K mg) : FnOk P w K mg base CX0 1 T.f_BadProgram___init.f T.f_BadProgram___init.fd ["self", "reason"] (sp_err1 (K := K) T.e_BadProgram.C "reason") := by
  refine T.f_BadProgram___init.F.ok sc_BadProgram___init (fun vs H Q E h => ?_) (fun cdv A outer s H vs Q E hr h => ?_)
  · obtain ⟨a, x, rfl, ho, hl, hH, q⟩ := h
    rfl
  obtain ⟨a, x, rfl, ho, hl, hH, q⟩ := h
  have nd := sc_BadProgram___init.nd
  refine Kit.ok_body (σ := [some _, some _]) ((pss_one (ps_ost (pv 0) (pv 1)))) rfl ?_
  refine Kit.m_ost ?_
  walk_at "wp"
  refine ⟨a, _, rfl, ho, hl, .inl ⟨hH, fun dx hd hn => ?_⟩⟩
  refine q dx _ hd hn (fun b h1 h2 => ?_) upd_same ?_
  · rw [upd_ne h1, upd_ne h2]
  · rw [upd_ne hn, upd_same]
theorem ok_BadSchedule___init (T : Txt K mg) : FnOk P w K mg base CX0 1 T.f_BadSchedule___init.f T.f_BadSchedule___init.fd ["self", "line"] (sp_err1 (K := K) T.e_BadSchedule.C "line") := by
  refine T.f_BadSchedule___init.F.ok sc_BadSchedule___init (fun vs H Q E h => ?_) (fun cdv A outer s H vs Q E hr h => ?_)
  · obtain ⟨a, x, rfl, ho, hl, hH, q⟩ := h
    rfl
  obtain ⟨a, x, rfl, ho, hl, hH, q⟩ := h
  have nd := sc_BadSchedule___init.nd
  refine Kit.ok_body (σ := [some _, some _]) ((pss_one (ps_ost (pv 0) (pv 1)))) rfl ?_
  refine Kit.m_ost ?_
  walk_at "wp"
  refine ⟨a, _, rfl, ho, hl, .inl ⟨hH, fun dx hd hn => ?_⟩⟩
  refine q dx _ hd hn (fun b h1 h2 => ?_) upd_same ?_
  · rw [upd_ne h1, upd_ne h2]
  · rw [upd_ne hn, upd_same]
/-- the errors that are raised -/
def sp_raised (T : Txt K mg) : Sp := fun vs H Q E => ∃ (l : Int) (r : Str) (w : Int), vs = [.int l, .str r, .int w] ∧ 0 ≤ w ∧ w ≤ 6 ∧
  (w = 0 → ∀ d H', Evl.Ex H H' → H' d = some (.xd [("reason", .str r), ("line", .int l)]) → E (.ref T.e_BadSource.C) (some d) H') ∧
  (w = 1 → ∀ d H', Evl.Ex H H' → H' d = some (.xd [("reason", .str r)]) → E (.ref T.e_BadProgram.C) (some d) H') ∧
  (w = 2 → ∀ d H', Evl.Ex H H' → H' d = some (.xd [("line", .int l)]) → E (.ref T.e_BadSchedule.C) (some d) H') ∧
  (w = 3 → E (.ref T.e_BadFit.C) none H) ∧ (w = 4 → E (.ref T.e_BadOpening.C) none H) ∧ (w = 5 → E (.ref T.e_BadCall.C) none H) ∧ (w = 6 → E (.ref T.e_BadTree.C) none H)
theorem ex_made {H H2 : Hp} {a d C : Addr} {fs : List (Str × V)} (ha : H a = none) (hd : H d = none) (k : ∀ b, b ≠ a → b ≠ d → H2 b = upd H a (exo a C none) b) : Evl.Ex H (upd (del H2 a) d (.xd fs)) := fun b o hb => by
  have h1 : b ≠ a := ne_of_none hb ha
  have h2 : b ≠ d := ne_of_none hb hd
  rw [upd_ne h2, del_ne h1, k b h1 h2, upd_ne h1]
  exact hb
theorem ok_law_raised (T : Txt K mg) : FnOk P w K mg base (L2.CX P w) 3 T.f_law_raised.f T.f_law_raised.fd ["line", "reason", "which"] (sp_raised T) := by
  have G_BadProgram___init := ok_BadProgram___init (P := P) (w := w) (base := base) T
  have G_BadSchedule___init := ok_BadSchedule___init (P := P) (w := w) (base := base) T
  have G_BadSource___init := ok_BadSource___init (P := P) (w := w) (base := base) T
  refine T.f_law_raised.F.okX sc_law_raised (fun vs H Q E h => ?_) (fun cdv A outer s H vs Q E hr h => ?_)
  · obtain ⟨l, r, w', rfl, h0, h6, q0, q1, q2, q3, q4, q5, q6⟩ := h
    rfl
  obtain ⟨l, r, w', rfl, h0, h6, q0, q1, q2, q3, q4, q5, q6⟩ := h
  have nd := sc_law_raised.nd
  have hr1 : Room 1 _ := hr.mono (by decide)
  have hr2 : Room 2 _ := hr.mono (by decide)
  refine Kit.ok_body (σ := [some _, some _, some _]) ((pss_cons (ps_if (pt_cmpR op_eq (pv 2) pe_int (nomark _))
    (pss_one (ps_raise rfl (takes_of rfl rfl rfl rfl) (pmk_oex T.e_BadSource.o T.e_BadSource.i T.e_BadSource.t G_BadSource___init hr2 T.f_BadSource___init.b .nil pass0 (by exact rfl) T.e_BadSource.g (pa_cons (pv 0) (pa_cons (pv 1) pa_nil)))))
    pss_nil)
    (pss_cons (ps_if (pt_cmpR op_eq (pv 2) pe_int (nomark _))
    (pss_one (ps_raise rfl (takes_of rfl rfl rfl rfl) (pmk_oex T.e_BadProgram.o T.e_BadProgram.i T.e_BadProgram.t G_BadProgram___init hr2 T.f_BadProgram___init.b .nil pass0 (by exact rfl) T.e_BadProgram.g (pa_cons (pv 1) pa_nil))))
    pss_nil)
    (pss_cons (ps_if (pt_cmpR op_eq (pv 2) pe_int (nomark _))
    (pss_one (ps_raise rfl (takes_of rfl rfl rfl rfl) (pmk_oex T.e_BadSchedule.o T.e_BadSchedule.i T.e_BadSchedule.t G_BadSchedule___init hr2 T.f_BadSchedule___init.b .nil pass0 (by exact rfl) T.e_BadSchedule.g (pa_cons (pv 0) pa_nil))))
    pss_nil)
    (pss_cons (ps_if (pt_cmpR op_eq (pv 2) pe_int (nomark _))
    (pss_one (Kit.ps_raise0 rfl (takes_of rfl rfl rfl rfl) T.e_BadFit rfl rfl (by exact rfl)))
    pss_nil)
    (pss_cons (ps_if (pt_cmpR op_eq (pv 2) pe_int (nomark _))
    (pss_one (Kit.ps_raise0 rfl (takes_of rfl rfl rfl rfl) T.e_BadOpening rfl rfl (by exact rfl)))
    pss_nil)
    (pss_cons (ps_if (pt_cmpR op_eq (pv 2) pe_int (nomark _))
    (pss_one (Kit.ps_raise0 rfl (takes_of rfl rfl rfl rfl) T.e_BadCall rfl rfl (by exact rfl)))
    pss_nil)
    (pss_one (Kit.ps_raise0 rfl (takes_of rfl rfl rfl rfl) T.e_BadTree rfl rfl (by exact rfl)))))))))) rfl ?_
  walk_at "wp"
  · refine Kit.m_mk ?_
    walk_at "wp"
    refine ⟨Nat.le_of_ble_eq_true rfl, fun a na => ⟨a, _, _, rfl, T.e_BadSource.o, T.n_BadSource_line, T.n_BadSource_reason, upd_same, fun d H2 hd hn k ha hd2 => ?_⟩⟩
    rw [upd_ne hn] at hd
    exact ⟨rfl, d, _, ha, hd2, hd, q0 (by assumption) d _ (ex_made na hd k) upd_same⟩
  · refine Kit.m_mk ?_
    walk_at "wp"
    refine ⟨Nat.le_of_ble_eq_true rfl, fun a na => ⟨a, _, rfl, T.e_BadProgram.o, T.n_BadProgram_reason, upd_same, fun d H2 hd hn k ha hd2 => ?_⟩⟩
    rw [upd_ne hn] at hd
    exact ⟨rfl, d, _, ha, hd2, hd, q1 (by assumption) d _ (ex_made na hd k) upd_same⟩
  · refine Kit.m_mk ?_
    walk_at "wp"
    refine ⟨Nat.le_of_ble_eq_true rfl, fun a na => ⟨a, _, rfl, T.e_BadSchedule.o, T.n_BadSchedule_line, upd_same, fun d H2 hd hn k ha hd2 => ?_⟩⟩
    rw [upd_ne hn] at hd
    exact ⟨rfl, d, _, ha, hd2, hd, q2 (by assumption) d _ (ex_made na hd k) upd_same⟩
  · exact q3 (by assumption)
  · exact q4 (by assumption)
  · exact q5 (by assumption)
  · exact q6 (by omega)
def sp_is : Sp := fun vs H Q _ => ∃ (l : Int) (r : Str) (w : Int), vs = [.int l, .str r, .int w] ∧ 0 ≤ w ∧ w ≤ 6 ∧ ∀ H', Evl.Ex H H' → Q (.bl true) H'
theorem ok_law_is_0 (T : Txt K mg) : FnOk P w K mg base CX0 4 T.f_law_is_0.f T.f_law_is_0.fd ["line", "reason", "which"] (sp_is) := by
  have G_law_raised := ok_law_raised (P := P) (w := w) (base := base) T
  refine T.f_law_is_0.F.ok sc_law_is_0 (fun vs H Q E h => ?_) (fun cdv A outer s H vs Q E hr h => ?_)
  · obtain ⟨l, r, w', rfl, h0, h6, q⟩ := h
    rfl
  obtain ⟨l, r, w', rfl, h0, h6, q⟩ := h
  have nd := sc_law_is_0.nd
  have hr3 : Room 3 _ := hr.mono (by decide)
  refine Kit.ok_body (σ := [some _, some _, some _, none]) ((pss_cons (Kit.ps_try_hs (tb := fun W => _) (Wout := fun _ _ _ _ => False) rfl rfl takes0 (fun W pn xe tk _ => (pss_one (ps_expr (pe_callS G_law_raised hr3 (by rfl) T.f_law_raised.g T.f_law_raised.F.kp T.f_law_raised.b (fun σ => passAt tk σ) (pa_cons (pv 0) (pa_cons (pv 1) (pa_cons (pv 2) pa_nil)))))))
    (.named (i := 3) nd rfl rfl ⟨rfl, by decide, Or.inl T.e_BadSource.g⟩ (fun a oe cls d pn hz hf => (pss_one (ps_ret (pe_and (pe_cmpR op_eq (pv 2) pe_int (nomark _)) (pe_and (pe_cmpR op_eq (pe_xf T.e_BadSource.xf T.n_BadSource_line hz hf (pv 3)) (pv 0) (nomark _)) (pe_one (pe_cmpR op_eq (pe_xf T.e_BadSource.xf T.n_BadSource_reason hz hf (pv 3)) (pv 1) (nomark _)))))))) (.cons ⟨rfl, by decide, Or.inl T.e_CourtError.g⟩ (fun a oe cls d pn hz hf => (pss_one (ps_ret (pe_cmpR op_ne (pv 2) pe_int (nomark _))))) .nil)))
    (pss_one (ps_ret pe_bl)))) rfl ?_
  refine Kit.m_seq ?_
  refine Kit.m_try ?_
  walk_at "wp"
  refine ⟨l, r, w', rfl, h0, h6, ?_, ?_, ?_, ?_, ?_, ?_, ?_⟩
  · rintro rfl d H' e hd
    refine Kit.wh_as T.e_BadSource.e fun a na => ?_
    walk_at "wp"
    refine Kit.w_xf ?_
    walk_at "wp"
    refine ⟨rfl, rfl, d, _, _, rfl, hd, by rfl, ?_⟩
    walk_at "wp"
    refine Kit.w_xf ?_
    walk_at "wp"
    refine ⟨rfl, rfl, d, _, _, rfl, hd, by rfl, ?_⟩
    walk_at "wp"
    first | exact q _ e | (rw [decide_eq_true rfl]; exact q _ e)
  · rintro rfl d H' e hd
    refine Kit.wh_no T.p_BadProgram_BadSource (Kit.wh_yes T.p_BadProgram_CourtError fun a na => ?_)
    walk_at "wp"
    exact q _ e
  · rintro rfl d H' e hd
    refine Kit.wh_no T.p_BadSchedule_BadSource (Kit.wh_yes T.p_BadSchedule_CourtError fun a na => ?_)
    walk_at "wp"
    exact q _ e
  · rintro rfl
    refine Kit.wh_no T.p_BadFit_BadSource (Kit.wh_yes T.p_BadFit_CourtError fun a na => ?_)
    walk_at "wp"
    exact q _ (Evl.Ex.refl _)
  · rintro rfl
    refine Kit.wh_no T.p_BadOpening_BadSource (Kit.wh_yes T.p_BadOpening_CourtError fun a na => ?_)
    walk_at "wp"
    exact q _ (Evl.Ex.refl _)
  · rintro rfl
    refine Kit.wh_no T.p_BadCall_BadSource (Kit.wh_yes T.p_BadCall_CourtError fun a na => ?_)
    walk_at "wp"
    exact q _ (Evl.Ex.refl _)
  · rintro rfl
    refine Kit.wh_no T.p_BadTree_BadSource (Kit.wh_yes T.p_BadTree_CourtError fun a na => ?_)
    walk_at "wp"
    exact q _ (Evl.Ex.refl _)
theorem ok_law_is_1 (T : Txt K mg) : FnOk P w K mg base CX0 4 T.f_law_is_1.f T.f_law_is_1.fd ["line", "reason", "which"] (sp_is) := by
  have G_law_raised := ok_law_raised (P := P) (w := w) (base := base) T
  refine T.f_law_is_1.F.ok sc_law_is_1 (fun vs H Q E h => ?_) (fun cdv A outer s H vs Q E hr h => ?_)
  · obtain ⟨l, r, w', rfl, h0, h6, q⟩ := h
    rfl
  obtain ⟨l, r, w', rfl, h0, h6, q⟩ := h
  have nd := sc_law_is_1.nd
  have hr3 : Room 3 _ := hr.mono (by decide)
  refine Kit.ok_body (σ := [some _, some _, some _, none]) ((pss_cons (Kit.ps_try_hs (tb := fun W => _) (Wout := fun _ _ _ _ => False) rfl rfl takes0 (fun W pn xe tk _ => (pss_one (ps_expr (pe_callS G_law_raised hr3 (by rfl) T.f_law_raised.g T.f_law_raised.F.kp T.f_law_raised.b (fun σ => passAt tk σ) (pa_cons (pv 0) (pa_cons (pv 1) (pa_cons (pv 2) pa_nil)))))))
    (.named (i := 3) nd rfl rfl ⟨rfl, by decide, Or.inl T.e_BadProgram.g⟩ (fun a oe cls d pn hz hf => (pss_one (ps_ret (pe_and (pe_cmpR op_eq (pv 2) pe_int (nomark _)) (pe_one (pe_cmpR op_eq (pe_xf T.e_BadProgram.xf T.n_BadProgram_reason hz hf (pv 3)) (pv 1) (nomark _))))))) (.cons ⟨rfl, by decide, Or.inl T.e_CourtError.g⟩ (fun a oe cls d pn hz hf => (pss_one (ps_ret (pe_cmpR op_ne (pv 2) pe_int (nomark _))))) .nil)))
    (pss_one (ps_ret pe_bl)))) rfl ?_
  refine Kit.m_seq ?_
  refine Kit.m_try ?_
  walk_at "wp"
  refine ⟨l, r, w', rfl, h0, h6, ?_, ?_, ?_, ?_, ?_, ?_, ?_⟩
  · rintro rfl d H' e hd
    refine Kit.wh_no T.p_BadSource_BadProgram (Kit.wh_yes T.p_BadSource_CourtError fun a na => ?_)
    walk_at "wp"
    exact q _ e
  · rintro rfl d H' e hd
    refine Kit.wh_as T.e_BadProgram.e fun a na => ?_
    walk_at "wp"
    refine Kit.w_xf ?_
    walk_at "wp"
    refine ⟨rfl, rfl, d, _, _, rfl, hd, by rfl, ?_⟩
    walk_at "wp"
    first | exact q _ e | (rw [decide_eq_true rfl]; exact q _ e)
  · rintro rfl d H' e hd
    refine Kit.wh_no T.p_BadSchedule_BadProgram (Kit.wh_yes T.p_BadSchedule_CourtError fun a na => ?_)
    walk_at "wp"
    exact q _ e
  · rintro rfl
    refine Kit.wh_no T.p_BadFit_BadProgram (Kit.wh_yes T.p_BadFit_CourtError fun a na => ?_)
    walk_at "wp"
    exact q _ (Evl.Ex.refl _)
  · rintro rfl
    refine Kit.wh_no T.p_BadOpening_BadProgram (Kit.wh_yes T.p_BadOpening_CourtError fun a na => ?_)
    walk_at "wp"
    exact q _ (Evl.Ex.refl _)
  · rintro rfl
    refine Kit.wh_no T.p_BadCall_BadProgram (Kit.wh_yes T.p_BadCall_CourtError fun a na => ?_)
    walk_at "wp"
    exact q _ (Evl.Ex.refl _)
  · rintro rfl
    refine Kit.wh_no T.p_BadTree_BadProgram (Kit.wh_yes T.p_BadTree_CourtError fun a na => ?_)
    walk_at "wp"
    exact q _ (Evl.Ex.refl _)
theorem ok_law_is_2 (T : Txt K mg) : FnOk P w K mg base CX0 4 T.f_law_is_2.f T.f_law_is_2.fd ["line", "reason", "which"] (sp_is) := by
  have G_law_raised := ok_law_raised (P := P) (w := w) (base := base) T
  refine T.f_law_is_2.F.ok sc_law_is_2 (fun vs H Q E h => ?_) (fun cdv A outer s H vs Q E hr h => ?_)
  · obtain ⟨l, r, w', rfl, h0, h6, q⟩ := h
    rfl
  obtain ⟨l, r, w', rfl, h0, h6, q⟩ := h
  have nd := sc_law_is_2.nd
  have hr3 : Room 3 _ := hr.mono (by decide)
  refine Kit.ok_body (σ := [some _, some _, some _, none]) ((pss_cons (Kit.ps_try_hs (tb := fun W => _) (Wout := fun _ _ _ _ => False) rfl rfl takes0 (fun W pn xe tk _ => (pss_one (ps_expr (pe_callS G_law_raised hr3 (by rfl) T.f_law_raised.g T.f_law_raised.F.kp T.f_law_raised.b (fun σ => passAt tk σ) (pa_cons (pv 0) (pa_cons (pv 1) (pa_cons (pv 2) pa_nil)))))))
    (.named (i := 3) nd rfl rfl ⟨rfl, by decide, Or.inl T.e_BadSchedule.g⟩ (fun a oe cls d pn hz hf => (pss_one (ps_ret (pe_and (pe_cmpR op_eq (pv 2) pe_int (nomark _)) (pe_one (pe_cmpR op_eq (pe_xf T.e_BadSchedule.xf T.n_BadSchedule_line hz hf (pv 3)) (pv 0) (nomark _))))))) (.cons ⟨rfl, by decide, Or.inl T.e_CourtError.g⟩ (fun a oe cls d pn hz hf => (pss_one (ps_ret (pe_cmpR op_ne (pv 2) pe_int (nomark _))))) .nil)))
    (pss_one (ps_ret pe_bl)))) rfl ?_
  refine Kit.m_seq ?_
  refine Kit.m_try ?_
  walk_at "wp"
  refine ⟨l, r, w', rfl, h0, h6, ?_, ?_, ?_, ?_, ?_, ?_, ?_⟩
  · rintro rfl d H' e hd
    refine Kit.wh_no T.p_BadSource_BadSchedule (Kit.wh_yes T.p_BadSource_CourtError fun a na => ?_)
    walk_at "wp"
    exact q _ e
  · rintro rfl d H' e hd
    refine Kit.wh_no T.p_BadProgram_BadSchedule (Kit.wh_yes T.p_BadProgram_CourtError fun a na => ?_)
    walk_at "wp"
    exact q _ e
  · rintro rfl d H' e hd
    refine Kit.wh_as T.e_BadSchedule.e fun a na => ?_
    walk_at "wp"
    refine Kit.w_xf ?_
    walk_at "wp"
    refine ⟨rfl, rfl, d, _, _, rfl, hd, by rfl, ?_⟩
    walk_at "wp"
    first | exact q _ e | (rw [decide_eq_true rfl]; exact q _ e)
  · rintro rfl
    refine Kit.wh_no T.p_BadFit_BadSchedule (Kit.wh_yes T.p_BadFit_CourtError fun a na => ?_)
    walk_at "wp"
    exact q _ (Evl.Ex.refl _)
  · rintro rfl
    refine Kit.wh_no T.p_BadOpening_BadSchedule (Kit.wh_yes T.p_BadOpening_CourtError fun a na => ?_)
    walk_at "wp"
    exact q _ (Evl.Ex.refl _)
  · rintro rfl
    refine Kit.wh_no T.p_BadCall_BadSchedule (Kit.wh_yes T.p_BadCall_CourtError fun a na => ?_)
    walk_at "wp"
    exact q _ (Evl.Ex.refl _)
  · rintro rfl
    refine Kit.wh_no T.p_BadTree_BadSchedule (Kit.wh_yes T.p_BadTree_CourtError fun a na => ?_)
    walk_at "wp"
    exact q _ (Evl.Ex.refl _)
theorem ok_law_is_3 (T : Txt K mg) : FnOk P w K mg base CX0 4 T.f_law_is_3.f T.f_law_is_3.fd ["line", "reason", "which"] (sp_is) := by
  have G_law_raised := ok_law_raised (P := P) (w := w) (base := base) T
  refine T.f_law_is_3.F.ok sc_law_is_3 (fun vs H Q E h => ?_) (fun cdv A outer s H vs Q E hr h => ?_)
  · obtain ⟨l, r, w', rfl, h0, h6, q⟩ := h
    rfl
  obtain ⟨l, r, w', rfl, h0, h6, q⟩ := h
  have nd := sc_law_is_3.nd
  have hr3 : Room 3 _ := hr.mono (by decide)
  refine Kit.ok_body (σ := [some _, some _, some _]) ((pss_cons (Kit.ps_try_hs (tb := fun W => _) (Wout := fun _ _ _ _ => False) rfl rfl takes0 (fun W pn xe tk _ => (pss_one (ps_expr (pe_callS G_law_raised hr3 (by rfl) T.f_law_raised.g T.f_law_raised.F.kp T.f_law_raised.b (fun σ => passAt tk σ) (pa_cons (pv 0) (pa_cons (pv 1) (pa_cons (pv 2) pa_nil)))))))
    (.cons ⟨rfl, by decide, Or.inl T.e_BadFit.g⟩ (fun a oe cls d pn hz hf => (pss_one (ps_ret (pe_cmpR op_eq (pv 2) pe_int (nomark _))))) (.cons ⟨rfl, by decide, Or.inl T.e_CourtError.g⟩ (fun a oe cls d pn hz hf => (pss_one (ps_ret (pe_cmpR op_ne (pv 2) pe_int (nomark _))))) .nil)))
    (pss_one (ps_ret pe_bl)))) rfl ?_
  refine Kit.m_seq ?_
  refine Kit.m_try ?_
  walk_at "wp"
  refine ⟨l, r, w', rfl, h0, h6, ?_, ?_, ?_, ?_, ?_, ?_, ?_⟩
  · rintro rfl d H' e hd
    refine Kit.wh_no T.p_BadSource_BadFit (Kit.wh_yes T.p_BadSource_CourtError fun a na => ?_)
    walk_at "wp"
    exact q _ e
  · rintro rfl d H' e hd
    refine Kit.wh_no T.p_BadProgram_BadFit (Kit.wh_yes T.p_BadProgram_CourtError fun a na => ?_)
    walk_at "wp"
    exact q _ e
  · rintro rfl d H' e hd
    refine Kit.wh_no T.p_BadSchedule_BadFit (Kit.wh_yes T.p_BadSchedule_CourtError fun a na => ?_)
    walk_at "wp"
    exact q _ e
  · rintro rfl
    refine Kit.wh_yes T.e_BadFit.e fun a na => ?_
    walk_at "wp"
    exact q _ (Evl.Ex.refl _)
  · rintro rfl
    refine Kit.wh_no T.p_BadOpening_BadFit (Kit.wh_yes T.p_BadOpening_CourtError fun a na => ?_)
    walk_at "wp"
    exact q _ (Evl.Ex.refl _)
  · rintro rfl
    refine Kit.wh_no T.p_BadCall_BadFit (Kit.wh_yes T.p_BadCall_CourtError fun a na => ?_)
    walk_at "wp"
    exact q _ (Evl.Ex.refl _)
  · rintro rfl
    refine Kit.wh_no T.p_BadTree_BadFit (Kit.wh_yes T.p_BadTree_CourtError fun a na => ?_)
    walk_at "wp"
    exact q _ (Evl.Ex.refl _)
theorem ok_law_is_4 (T : Txt K mg) : FnOk P w K mg base CX0 4 T.f_law_is_4.f T.f_law_is_4.fd ["line", "reason", "which"] (sp_is) := by
  have G_law_raised := ok_law_raised (P := P) (w := w) (base := base) T
  refine T.f_law_is_4.F.ok sc_law_is_4 (fun vs H Q E h => ?_) (fun cdv A outer s H vs Q E hr h => ?_)
  · obtain ⟨l, r, w', rfl, h0, h6, q⟩ := h
    rfl
  obtain ⟨l, r, w', rfl, h0, h6, q⟩ := h
  have nd := sc_law_is_4.nd
  have hr3 : Room 3 _ := hr.mono (by decide)
  refine Kit.ok_body (σ := [some _, some _, some _]) ((pss_cons (Kit.ps_try_hs (tb := fun W => _) (Wout := fun _ _ _ _ => False) rfl rfl takes0 (fun W pn xe tk _ => (pss_one (ps_expr (pe_callS G_law_raised hr3 (by rfl) T.f_law_raised.g T.f_law_raised.F.kp T.f_law_raised.b (fun σ => passAt tk σ) (pa_cons (pv 0) (pa_cons (pv 1) (pa_cons (pv 2) pa_nil)))))))
    (.cons ⟨rfl, by decide, Or.inl T.e_BadOpening.g⟩ (fun a oe cls d pn hz hf => (pss_one (ps_ret (pe_cmpR op_eq (pv 2) pe_int (nomark _))))) (.cons ⟨rfl, by decide, Or.inl T.e_CourtError.g⟩ (fun a oe cls d pn hz hf => (pss_one (ps_ret (pe_cmpR op_ne (pv 2) pe_int (nomark _))))) .nil)))
    (pss_one (ps_ret pe_bl)))) rfl ?_
  refine Kit.m_seq ?_
  refine Kit.m_try ?_
  walk_at "wp"
  refine ⟨l, r, w', rfl, h0, h6, ?_, ?_, ?_, ?_, ?_, ?_, ?_⟩
  · rintro rfl d H' e hd
    refine Kit.wh_no T.p_BadSource_BadOpening (Kit.wh_yes T.p_BadSource_CourtError fun a na => ?_)
    walk_at "wp"
    exact q _ e
  · rintro rfl d H' e hd
    refine Kit.wh_no T.p_BadProgram_BadOpening (Kit.wh_yes T.p_BadProgram_CourtError fun a na => ?_)
    walk_at "wp"
    exact q _ e
  · rintro rfl d H' e hd
    refine Kit.wh_no T.p_BadSchedule_BadOpening (Kit.wh_yes T.p_BadSchedule_CourtError fun a na => ?_)
    walk_at "wp"
    exact q _ e
  · rintro rfl
    refine Kit.wh_no T.p_BadFit_BadOpening (Kit.wh_yes T.p_BadFit_CourtError fun a na => ?_)
    walk_at "wp"
    exact q _ (Evl.Ex.refl _)
  · rintro rfl
    refine Kit.wh_yes T.e_BadOpening.e fun a na => ?_
    walk_at "wp"
    exact q _ (Evl.Ex.refl _)
  · rintro rfl
    refine Kit.wh_no T.p_BadCall_BadOpening (Kit.wh_yes T.p_BadCall_CourtError fun a na => ?_)
    walk_at "wp"
    exact q _ (Evl.Ex.refl _)
  · rintro rfl
    refine Kit.wh_no T.p_BadTree_BadOpening (Kit.wh_yes T.p_BadTree_CourtError fun a na => ?_)
    walk_at "wp"
    exact q _ (Evl.Ex.refl _)
theorem ok_law_is_5 (T : Txt K mg) : FnOk P w K mg base CX0 4 T.f_law_is_5.f T.f_law_is_5.fd ["line", "reason", "which"] (sp_is) := by
  have G_law_raised := ok_law_raised (P := P) (w := w) (base := base) T
  refine T.f_law_is_5.F.ok sc_law_is_5 (fun vs H Q E h => ?_) (fun cdv A outer s H vs Q E hr h => ?_)
  · obtain ⟨l, r, w', rfl, h0, h6, q⟩ := h
    rfl
  obtain ⟨l, r, w', rfl, h0, h6, q⟩ := h
  have nd := sc_law_is_5.nd
  have hr3 : Room 3 _ := hr.mono (by decide)
  refine Kit.ok_body (σ := [some _, some _, some _]) ((pss_cons (Kit.ps_try_hs (tb := fun W => _) (Wout := fun _ _ _ _ => False) rfl rfl takes0 (fun W pn xe tk _ => (pss_one (ps_expr (pe_callS G_law_raised hr3 (by rfl) T.f_law_raised.g T.f_law_raised.F.kp T.f_law_raised.b (fun σ => passAt tk σ) (pa_cons (pv 0) (pa_cons (pv 1) (pa_cons (pv 2) pa_nil)))))))
    (.cons ⟨rfl, by decide, Or.inl T.e_BadCall.g⟩ (fun a oe cls d pn hz hf => (pss_one (ps_ret (pe_cmpR op_eq (pv 2) pe_int (nomark _))))) (.cons ⟨rfl, by decide, Or.inl T.e_CourtError.g⟩ (fun a oe cls d pn hz hf => (pss_one (ps_ret (pe_cmpR op_ne (pv 2) pe_int (nomark _))))) .nil)))
    (pss_one (ps_ret pe_bl)))) rfl ?_
  refine Kit.m_seq ?_
  refine Kit.m_try ?_
  walk_at "wp"
  refine ⟨l, r, w', rfl, h0, h6, ?_, ?_, ?_, ?_, ?_, ?_, ?_⟩
  · rintro rfl d H' e hd
    refine Kit.wh_no T.p_BadSource_BadCall (Kit.wh_yes T.p_BadSource_CourtError fun a na => ?_)
    walk_at "wp"
    exact q _ e
  · rintro rfl d H' e hd
    refine Kit.wh_no T.p_BadProgram_BadCall (Kit.wh_yes T.p_BadProgram_CourtError fun a na => ?_)
    walk_at "wp"
    exact q _ e
  · rintro rfl d H' e hd
    refine Kit.wh_no T.p_BadSchedule_BadCall (Kit.wh_yes T.p_BadSchedule_CourtError fun a na => ?_)
    walk_at "wp"
    exact q _ e
  · rintro rfl
    refine Kit.wh_no T.p_BadFit_BadCall (Kit.wh_yes T.p_BadFit_CourtError fun a na => ?_)
    walk_at "wp"
    exact q _ (Evl.Ex.refl _)
  · rintro rfl
    refine Kit.wh_no T.p_BadOpening_BadCall (Kit.wh_yes T.p_BadOpening_CourtError fun a na => ?_)
    walk_at "wp"
    exact q _ (Evl.Ex.refl _)
  · rintro rfl
    refine Kit.wh_yes T.e_BadCall.e fun a na => ?_
    walk_at "wp"
    exact q _ (Evl.Ex.refl _)
  · rintro rfl
    refine Kit.wh_no T.p_BadTree_BadCall (Kit.wh_yes T.p_BadTree_CourtError fun a na => ?_)
    walk_at "wp"
    exact q _ (Evl.Ex.refl _)
theorem ok_law_is_6 (T : Txt K mg) : FnOk P w K mg base CX0 4 T.f_law_is_6.f T.f_law_is_6.fd ["line", "reason", "which"] (sp_is) := by
  have G_law_raised := ok_law_raised (P := P) (w := w) (base := base) T
  refine T.f_law_is_6.F.ok sc_law_is_6 (fun vs H Q E h => ?_) (fun cdv A outer s H vs Q E hr h => ?_)
  · obtain ⟨l, r, w', rfl, h0, h6, q⟩ := h
    rfl
  obtain ⟨l, r, w', rfl, h0, h6, q⟩ := h
  have nd := sc_law_is_6.nd
  have hr3 : Room 3 _ := hr.mono (by decide)
  refine Kit.ok_body (σ := [some _, some _, some _]) ((pss_cons (Kit.ps_try_hs (tb := fun W => _) (Wout := fun _ _ _ _ => False) rfl rfl takes0 (fun W pn xe tk _ => (pss_one (ps_expr (pe_callS G_law_raised hr3 (by rfl) T.f_law_raised.g T.f_law_raised.F.kp T.f_law_raised.b (fun σ => passAt tk σ) (pa_cons (pv 0) (pa_cons (pv 1) (pa_cons (pv 2) pa_nil)))))))
    (.cons ⟨rfl, by decide, Or.inl T.e_BadTree.g⟩ (fun a oe cls d pn hz hf => (pss_one (ps_ret (pe_cmpR op_eq (pv 2) pe_int (nomark _))))) (.cons ⟨rfl, by decide, Or.inl T.e_CourtError.g⟩ (fun a oe cls d pn hz hf => (pss_one (ps_ret (pe_cmpR op_ne (pv 2) pe_int (nomark _))))) .nil)))
    (pss_one (ps_ret pe_bl)))) rfl ?_
  refine Kit.m_seq ?_
  refine Kit.m_try ?_
  walk_at "wp"
  refine ⟨l, r, w', rfl, h0, h6, ?_, ?_, ?_, ?_, ?_, ?_, ?_⟩
  · rintro rfl d H' e hd
    refine Kit.wh_no T.p_BadSource_BadTree (Kit.wh_yes T.p_BadSource_CourtError fun a na => ?_)
    walk_at "wp"
    exact q _ e
  · rintro rfl d H' e hd
    refine Kit.wh_no T.p_BadProgram_BadTree (Kit.wh_yes T.p_BadProgram_CourtError fun a na => ?_)
    walk_at "wp"
    exact q _ e
  · rintro rfl d H' e hd
    refine Kit.wh_no T.p_BadSchedule_BadTree (Kit.wh_yes T.p_BadSchedule_CourtError fun a na => ?_)
    walk_at "wp"
    exact q _ e
  · rintro rfl
    refine Kit.wh_no T.p_BadFit_BadTree (Kit.wh_yes T.p_BadFit_CourtError fun a na => ?_)
    walk_at "wp"
    exact q _ (Evl.Ex.refl _)
  · rintro rfl
    refine Kit.wh_no T.p_BadOpening_BadTree (Kit.wh_yes T.p_BadOpening_CourtError fun a na => ?_)
    walk_at "wp"
    exact q _ (Evl.Ex.refl _)
  · rintro rfl
    refine Kit.wh_no T.p_BadCall_BadTree (Kit.wh_yes T.p_BadCall_CourtError fun a na => ?_)
    walk_at "wp"
    exact q _ (Evl.Ex.refl _)
  · rintro rfl
    refine Kit.wh_yes T.e_BadTree.e fun a na => ?_
    walk_at "wp"
    exact q _ (Evl.Ex.refl _)
def sp_cell : Sp := fun vs H Q _ => ∃ (a : Addr) (ns : List Int) (k : Int), vs = [.ref a, .int k] ∧ SqL K H a (ns.map V.int) ∧ 0 ≤ k ∧ ∀ c : Int, 0 ≤ c → Q (.int c) H
theorem ok_law_cell (T : Txt K mg) : FnOk P w K mg base CX0 1 T.f_law_cell.f T.f_law_cell.fd ["script", "k"] (sp_cell (K := K)) := by
  refine T.f_law_cell.F.ok sc_law_cell (fun vs H Q E h => ?_) (fun cdv A outer s H vs Q E hr h => ?_)
  · obtain ⟨a, ns, k, rfl, hS, hk, q⟩ := h
    rfl
  obtain ⟨a, ns, k, rfl, hS, hk, q⟩ := h
  have nd := sc_law_cell.nd
  refine Kit.ok_body (σ := [some _, some _]) ((pss_cons (ps_if (pt_cmpR op_lt (pv 1) (pe_callB (Kit.kLen K) (by rfl) T.z_len (by decide +kernel) (pa_cons (pv 0) pa_nil)) (nomark _))
    (pss_one (ps_ret (pe_callB Kit.k_abs (by rfl) T.z_abs (by decide +kernel) (pa_cons (pe_callTy Kit.k_int (by rfl) T.z_int (by decide +kernel) (pa_cons (pe_ix (Kit.ixL K) (pv 0) (pv 1) (fun _ _ => rfl)) pa_nil)) pa_nil))))
    pss_nil)
    (pss_one (ps_ret pe_int)))) rfl ?_
  walk_at "wp"
  · obtain ⟨c, hc⟩ := Kit.int_at hk (by assumption)
    refine Kit.w_ixL hS hc ?_
    walk_at "wp"
    exact q _ (by split <;> omega)
  · exact q 0 (by decide)
def sp_law (K : PySem.W.Frag) : Sp := fun vs H Q _ => ∃ (a : Addr) (ns : List Int), vs = [.ref a] ∧ SqL K H a (ns.map V.int) ∧ ns.length ≤ 63 ∧ ∀ H', Q (.bl true) H'
theorem sp_law_of {K : PySem.W.Frag} {H : Hp} {a : Addr} {ns : List Int} (hl : ns.length ≤ 63) (hS : SqL K H a (ns.map V.int)) : sp_law K [.ref a] H (fun v _ => v = .bl true) fun _ _ _ => False := ⟨a, ns, rfl, hS, hl, fun _ => rfl⟩
theorem three_at {x y z : V} {c : Int} : ∃ v ∈ [x, y, z], atI [x, y, z] (c % 3) = some v := by
  have h : c % 3 = 0 ∨ c % 3 = 1 ∨ c % 3 = 2 := by omega
  rcases h with h | h | h <;> rw [h]
  · exact ⟨x, by simp, L2.atI_nat (j := 0) rfl⟩
  · exact ⟨y, by simp, L2.atI_nat (j := 1) rfl⟩
  · exact ⟨z, by simp, L2.atI_nat (j := 2) rfl⟩
theorem w_rep {l : Addr} {xs : List V} {k : Int} {H : Hp} {Q : VK} (h : H l = some (.lst xs)) (h0 : 0 ≤ k) (h1 : k ≤ 1000) (hx : xs.length ≤ 10) (q : ∀ p H2, H p = none → Evl.Ex H H2 → H2 p = some (.lst (List.replicate k.toNat xs).flatten) → Q (.ref p) H2) : rRep (.ref l) (.int k) H Q :=
  ⟨l, k, xs, rfl, rfl, h, by omega, by omega, Evl.sz_of (Nat.le_trans (Nat.mul_le_mul hx (show k.toNat ≤ 1000 by omega)) (by decide)), fun p hp => q p _ hp (Evl.Ex.new hp) upd_same⟩
theorem ne_tup {xs : List V} {a b : Addr} {H : Hp} {Q : VK} (h1 : SqT K H a xs) (h2 : SqT K H b xs) (f : xs.all Kit.isFlN = true) (e : PyData.eqv (.tuple (xs.map Kit.flatD)) (.tuple (xs.map Kit.flatD)) = true) (q : Q (.bl false) H) : rNeD K (.ref a) (.ref b) H Q :=
  Kit.w_neD (Kit.dp_tup h1 (Kit.fln_fl f)) (Kit.dp_tup h2 (Kit.fln_fl f)) (Kit.shaped_tup f) (Kit.shaped_tup f) (by rw [e]; exact q)
theorem eq_tup {xs : List V} {a b : Addr} {H : Hp} {Q : VK} (h1 : SqT K H a xs) (h2 : SqT K H b xs) (f : xs.all Kit.isFlN = true) (e : PyData.eqv (.tuple (xs.map Kit.flatD)) (.tuple (xs.map Kit.flatD)) = true) (q : Q (.bl true) H) : rEqD K (.ref a) (.ref b) H Q :=
  Kit.w_eqD (Kit.dp_tup h1 (Kit.fln_fl f)) (Kit.dp_tup h2 (Kit.fln_fl f)) (Kit.shaped_tup f) (Kit.shaped_tup f) (by rw [e]; exact q)
theorem ne_lst {xs : List V} {a b : Addr} {H : Hp} {Q : VK} (h1 : SqL K H a xs) (h2 : SqL K H b xs) (f : xs.all Kit.isFlN = true) (e : PyData.eqv (.list (xs.map Kit.flatD)) (.list (xs.map Kit.flatD)) = true) (q : Q (.bl false) H) : rNeD K (.ref a) (.ref b) H Q :=
  Kit.w_neD (Kit.dp_lst h1 (Kit.fln_fl f)) (Kit.dp_lst h2 (Kit.fln_fl f)) (Kit.shaped_lst f) (Kit.shaped_lst f) (by rw [e]; exact q)
theorem ok_law (T : Txt K mg) : FnOk P w K mg base CX0 5 T.f_law.f T.f_law.fd ["script"] (sp_law K) := by
  have G_law_cell := ok_law_cell (P := P) (w := w) (base := base) T
  have G_law_is_0 := ok_law_is_0 (P := P) (w := w) (base := base) T
  have G_law_is_1 := ok_law_is_1 (P := P) (w := w) (base := base) T
  have G_law_is_2 := ok_law_is_2 (P := P) (w := w) (base := base) T
  have G_law_is_3 := ok_law_is_3 (P := P) (w := w) (base := base) T
  have G_law_is_4 := ok_law_is_4 (P := P) (w := w) (base := base) T
  have G_law_is_5 := ok_law_is_5 (P := P) (w := w) (base := base) T
  have G_law_is_6 := ok_law_is_6 (P := P) (w := w) (base := base) T
  refine T.f_law.F.ok sc_law (fun vs H Q E h => ?_) (fun cdv A outer s H vs Q E hr h => ?_)
  · obtain ⟨a, ns, rfl, hS, hl, q⟩ := h
    rfl
  obtain ⟨a, ns, rfl, hS, hl, q⟩ := h
  have nd := sc_law.nd
  have hr1 : Room 1 _ := hr.mono (by decide)
  have hr4 : Room 4 _ := hr.mono (by decide)
  refine Kit.ok_body (σ := [some _, none, none, none, none]) ((pss_cons (ps_set (i := 1) nd rfl (Or.inl rfl) (pe_op op_add pe_int (pe_op op_mod (pe_call G_law_cell hr1 (by rfl) T.f_law_cell.g T.f_law_cell.F.kp T.f_law_cell.b .nil pass0 (pa_cons (pv 0) (pa_cons pe_int pa_nil))) (pe_op op_pow pe_int pe_int))))
    (pss_cons (ps_set (i := 2) nd rfl (Or.inl rfl) (pe_ix (Kit.ixL K) (pe_lst (pa_cons pe_str (pa_cons pe_str (pa_cons pe_str pa_nil)))) (pe_op op_mod (pe_call G_law_cell hr1 (by rfl) T.f_law_cell.g T.f_law_cell.F.kp T.f_law_cell.b .nil pass0 (pa_cons (pv 0) (pa_cons pe_int pa_nil))) pe_int) (fun _ _ => rfl)))
    (pss_cons (ps_for PassesOwn.never rfl (pi_range1 (by rfl) T.z_range (pa_cons pe_int pa_nil)) (pg_name (i := 3) nd rfl (Or.inl rfl))
    (pss_cons (ps_set (i := 4) nd rfl (Or.inl rfl) (pe_lst (pa_cons (pe_call G_law_is_0 hr4 (by rfl) T.f_law_is_0.g T.f_law_is_0.F.kp T.f_law_is_0.b .nil pass0 (pa_cons (pv 1) (pa_cons (pv 2) (pa_cons (pv 3) pa_nil)))) (pa_cons (pe_call G_law_is_1 hr4 (by rfl) T.f_law_is_1.g T.f_law_is_1.F.kp T.f_law_is_1.b .nil pass0 (pa_cons (pv 1) (pa_cons (pv 2) (pa_cons (pv 3) pa_nil)))) (pa_cons (pe_call G_law_is_2 hr4 (by rfl) T.f_law_is_2.g T.f_law_is_2.F.kp T.f_law_is_2.b .nil pass0 (pa_cons (pv 1) (pa_cons (pv 2) (pa_cons (pv 3) pa_nil)))) pa_nil)))))
    (pss_cons (ps_set (i := 4) nd rfl (Or.inl rfl) (pe_op op_cat (pv 4) (pe_lst (pa_cons (pe_call G_law_is_3 hr4 (by rfl) T.f_law_is_3.g T.f_law_is_3.F.kp T.f_law_is_3.b .nil pass0 (pa_cons (pv 1) (pa_cons (pv 2) (pa_cons (pv 3) pa_nil)))) (pa_cons (pe_call G_law_is_4 hr4 (by rfl) T.f_law_is_4.g T.f_law_is_4.F.kp T.f_law_is_4.b .nil pass0 (pa_cons (pv 1) (pa_cons (pv 2) (pa_cons (pv 3) pa_nil)))) (pa_cons (pe_call G_law_is_5 hr4 (by rfl) T.f_law_is_5.g T.f_law_is_5.F.kp T.f_law_is_5.b .nil pass0 (pa_cons (pv 1) (pa_cons (pv 2) (pa_cons (pv 3) pa_nil)))) pa_nil))))))
    (pss_one (ps_if (PW.pt (pw_or (pt_cmpR (Kit.kNeD K hr.units) (pv 4) (pe_op op_rep (pe_lst (pa_cons pe_bl pa_nil)) pe_int) (nomark _)) (pw_or1 (pt_not (pt_val (pe_call G_law_is_6 hr4 (by rfl) T.f_law_is_6.g T.f_law_is_6.F.kp T.f_law_is_6.b .nil pass0 (pa_cons (pv 1) (pa_cons (pv 2) (pa_cons (pv 3) pa_nil)))))))))
    (pss_one (ps_ret pe_bl))
    pss_nil)))))
    (pss_cons (ps_if (pt_cmpR (Kit.kNeD K hr.units) (pe_tup (pa_cons (pe_glob (v := .int 8000) rfl T.g_MOST_TEXT ⟨_, rfl⟩) (pa_cons (pe_glob (v := .int 12) rfl T.g_MOST_NAME ⟨_, rfl⟩) (pa_cons (pe_glob (v := .int 64) rfl T.g_MOST_SIZE ⟨_, rfl⟩) (pa_cons (pe_glob (v := .int 8) rfl T.g_MOST_TABLES ⟨_, rfl⟩) (pa_cons (pe_glob (v := .int 8) rfl T.g_MOST_FUNCTIONS ⟨_, rfl⟩) (pa_cons (pe_glob (v := .int 4) rfl T.g_MOST_PARAMS ⟨_, rfl⟩) pa_nil))))))) (pe_tup (pa_cons pe_int (pa_cons pe_int (pa_cons pe_int (pa_cons pe_int (pa_cons pe_int (pa_cons pe_int pa_nil))))))) (nomark _))
    (pss_one (ps_ret pe_bl))
    pss_nil)
    (pss_cons (ps_if (pt_cmpR (Kit.kNeD K hr.units) (pe_tup (pa_cons (pe_glob (v := .int 12) rfl T.g_MOST_NESTED ⟨_, rfl⟩) (pa_cons (pe_glob (v := .int 16) rfl T.g_MOST_OPEN ⟨_, rfl⟩) (pa_cons (pe_glob (v := .int 6) rfl T.g_MOST_PLAYERS ⟨_, rfl⟩) (pa_cons (pe_glob (v := .int 9) rfl T.g_MOST_LATE ⟨_, rfl⟩) pa_nil))))) (pe_tup (pa_cons pe_int (pa_cons pe_int (pa_cons pe_int (pa_cons pe_int pa_nil))))) (nomark _))
    (pss_one (ps_ret pe_bl))
    pss_nil)
    (pss_one (ps_ret (pe_cmpR (Kit.kEqD K hr.units) (pe_tup (pa_cons (pe_glob (v := .int 8) rfl T.g_DEPTH ⟨_, rfl⟩) (pa_cons (pe_glob (v := .int 65535) rfl T.g_MOST_WORD ⟨_, rfl⟩) (pa_cons (pe_glob (v := .int 16) rfl T.g_MOST_INPUTS ⟨_, rfl⟩) (pa_cons (pe_glob (v := .int 16) rfl T.g_MOST_TOLD ⟨_, rfl⟩) (pa_cons (pe_glob (v := .int 8) rfl T.g_MOST_LEVEL ⟨_, rfl⟩) pa_nil)))))) (pe_tup (pa_cons pe_int (pa_cons pe_int (pa_cons pe_int (pa_cons pe_int (pa_cons pe_int pa_nil)))))) (nomark _)))))))))) rfl ?_
  try dsimp only [L2.cxOf, L2.Cx.nox]
  walk_at "wp"
  refine ⟨a, ns, _, rfl, hS, by decide, fun c hc => ?_⟩
  walk_at "wp"
  rename_i p1 H1 n1 e1 f1
  refine ⟨a, ns, _, rfl, Evl.ex_l e1 hS, by decide, fun c2 hc2 => ?_⟩
  walk_at "wp"
  obtain ⟨v, hv, hat⟩ := three_at (x := V.str "a name is missing") (y := V.str "too long") (z := V.str "") (c := c2)
  refine Kit.w_ixL (Evl.sq_of f1) hat ?_
  obtain ⟨r, rfl⟩ : ∃ r, v = V.str r := by
    simp only [List.mem_cons, List.not_mem_nil, or_false] at hv
    rcases hv with rfl | rfl | rfl <;> exact ⟨_, rfl⟩
  walk_at "wp"
  refine Kit.f_rng1 (by decide) (by decide) (fun _ σ' _ => ∃ L x3 x4, σ' = [some (.ref a), some (.int L), some (.str r), x3, x4]) ⟨_, _, _, rfl⟩ ?_ ?_
  · rintro i σ' H2 hi ⟨L, x3, x4, rfl⟩
    walk_at "wp"
    have is : ∀ {H : Hp} {Q : VK} {E : XK}, (∀ H', Evl.Ex H H' → Q (.bl true) H') → sp_is [.int L, .str r, .int (i : Int)] H Q E := fun q => ⟨L, r, (i : Int), rfl, by omega, by omega, q⟩
    refine is fun H3 e3 => ?_
    walk_at "wp"
    refine is fun H4 e4 => ?_
    walk_at "wp"
    refine is fun H5 e5 => ?_
    walk_at "wp"
    refine is fun H7 e7 => ?_
    walk_at "wp"
    refine is fun H8 e8 => ?_
    walk_at "wp"
    refine is fun H9 e9 => ?_
    walk_at "wp"
    rename_i H11 n11 e11 f11 p12 H12 n12 e12 f12
    refine w_rep f12 (by decide) (by decide) (by simp) fun p13 H13 n13 e13 f13 => ?_
    refine ne_lst (xs := [.bl true, .bl true, .bl true, .bl true, .bl true, .bl true]) (Evl.sq_of (e13 _ _ (e12 _ _ f11))) (Evl.sq_of f13) rfl rfl ?_
    walk_at "wp"
    refine is fun H14 e14 => ?_
    walk_at "wp"
    exact ⟨_, _, _, rfl⟩
  · rintro σ' H2 ⟨L, x3, x4, rfl⟩
    walk_at "wp"
    refine ne_tup (by walk_at "sqT") (by walk_at "sqT") rfl rfl ?_
    walk_at "wp"
    refine ne_tup (by walk_at "sqT") (by walk_at "sqT") rfl rfl ?_
    walk_at "wp"
    refine eq_tup (by walk_at "sqT") (by walk_at "sqT") rfl rfl ?_
    walk_at "wp"
    exact q _
end
theorem all_mk {l : PySem.W.OpenLaw} {w : World} {K : PySem.W.Frag} {h : Heap} {mg : Str → Option Value} {fa : Addr} (X : K.In h) (G : h.Ns mainGlobals mg) (hfa : mg "law" = some (.ref fa))
    {od0 an0 : Option Addr} {sl0 : Array (Option Value)} {oc0 kV0 dc0 pm0 cd0 ct0 : Value} {f0 : Addr}
    {od1 an1 : Option Addr} {sl1 : Array (Option Value)} {oc1 kV1 dc1 pm1 cd1 ct1 : Value} {f1 : Addr}
    {od2 an2 : Option Addr} {sl2 : Array (Option Value)} {oc2 kV2 dc2 pm2 cd2 ct2 : Value} {f2 : Addr}
    {od3 an3 : Option Addr} {sl3 : Array (Option Value)} {oc3 kV3 dc3 pm3 cd3 ct3 : Value} {f3 : Addr}
    {od4 an4 : Option Addr} {sl4 : Array (Option Value)} {oc4 kV4 dc4 pm4 cd4 ct4 : Value} {f4 : Addr}
    {od5 an5 : Option Addr} {sl5 : Array (Option Value)} {oc5 kV5 dc5 pm5 cd5 ct5 : Value} {f5 : Addr}
    {od6 an6 : Option Addr} {sl6 : Array (Option Value)} {oc6 kV6 dc6 pm6 cd6 ct6 : Value} {f6 : Addr}
    {od7 an7 : Option Addr} {sl7 : Array (Option Value)} {oc7 kV7 dc7 pm7 cd7 ct7 : Value} {f7 : Addr}
    {od8 an8 : Option Addr} {sl8 : Array (Option Value)} {oc8 kV8 dc8 pm8 cd8 ct8 : Value} {f8 : Addr}
    {od9 an9 : Option Addr} {sl9 : Array (Option Value)} {oc9 kV9 dc9 pm9 cd9 ct9 : Value} {f9 : Addr}
    {od10 an10 : Option Addr} {sl10 : Array (Option Value)} {oc10 kV10 dc10 pm10 cd10 ct10 : Value} {f10 : Addr}
    {od11 an11 : Option Addr} {sl11 : Array (Option Value)} {oc11 kV11 dc11 pm11 cd11 ct11 : Value} {f11 : Addr}
    {od12 an12 : Option Addr} {sl12 : Array (Option Value)} {oc12 kV12 dc12 pm12 cd12 ct12 : Value} {f12 : Addr}
    {C_CourtError : Addr}
    {C_BadTree : Addr}
    {C_BadFit : Addr}
    {C_BadOpening : Addr}
    {C_BadCall : Addr}
    {C_BadSource : Addr}
    {C_BadProgram : Addr}
    {C_BadSchedule : Addr}
    {t_DEPTH : Tok}
    {t_MOST_FUNCTIONS : Tok}
    {t_MOST_INPUTS : Tok}
    {t_MOST_LATE : Tok}
    {t_MOST_LEVEL : Tok}
    {t_MOST_NAME : Tok}
    {t_MOST_NESTED : Tok}
    {t_MOST_OPEN : Tok}
    {t_MOST_PARAMS : Tok}
    {t_MOST_PLAYERS : Tok}
    {t_MOST_SIZE : Tok}
    {t_MOST_TABLES : Tok}
    {t_MOST_TEXT : Tok}
    {t_MOST_TOLD : Tok}
    {t_MOST_WORD : Tok}
    (aX_BadSchedule : PySem.W.nsIn K mainGlobals "BadSchedule" = some (some (.ref C_BadSchedule)))
    (aX_BadProgram : PySem.W.nsIn K mainGlobals "BadProgram" = some (some (.ref C_BadProgram)))
    (aX_BadSource : PySem.W.nsIn K mainGlobals "BadSource" = some (some (.ref C_BadSource)))
    (a0 : PySem.W.findIn K (.ref C_BadSource) "__init__" = some (some (.ref f0)))
    (i0 : PySem.W.isFn K (.ref f0) = true)
    (l0 : K.lookup f0 = some ⟨oc0, od0, .func (PySem.W.fnOf "__init__" "BadSource.__init__" (defArgs s_BadSource___init) (defBody s_BadSource___init) (defScope s_BadSource___init) .none kV0 dc0 pm0 an0 cd0 ct0), sl0⟩)
    (c0 : PySem.W.codeIn K cd0 "BadSource.__init__" = true)
    (k0 : PySem.W.keepIn K (.ref f0) = true)
    (a1 : PySem.W.findIn K (.ref C_BadProgram) "__init__" = some (some (.ref f1)))
    (i1 : PySem.W.isFn K (.ref f1) = true)
    (l1 : K.lookup f1 = some ⟨oc1, od1, .func (PySem.W.fnOf "__init__" "BadProgram.__init__" (defArgs s_BadProgram___init) (defBody s_BadProgram___init) (defScope s_BadProgram___init) .none kV1 dc1 pm1 an1 cd1 ct1), sl1⟩)
    (c1 : PySem.W.codeIn K cd1 "BadProgram.__init__" = true)
    (k1 : PySem.W.keepIn K (.ref f1) = true)
    (a2 : PySem.W.findIn K (.ref C_BadSchedule) "__init__" = some (some (.ref f2)))
    (i2 : PySem.W.isFn K (.ref f2) = true)
    (l2 : K.lookup f2 = some ⟨oc2, od2, .func (PySem.W.fnOf "__init__" "BadSchedule.__init__" (defArgs s_BadSchedule___init) (defBody s_BadSchedule___init) (defScope s_BadSchedule___init) .none kV2 dc2 pm2 an2 cd2 ct2), sl2⟩)
    (c2 : PySem.W.codeIn K cd2 "BadSchedule.__init__" = true)
    (k2 : PySem.W.keepIn K (.ref f2) = true)
    (a3 : PySem.W.nsIn K mainGlobals "_law_cell" = some (some (.ref f3)))
    (l3 : K.lookup f3 = some ⟨oc3, od3, .func (PySem.W.fnOf "_law_cell" "_law_cell" (defArgs s_law_cell) (defBody s_law_cell) (defScope s_law_cell) .none kV3 dc3 pm3 an3 cd3 ct3), sl3⟩)
    (c3 : PySem.W.codeIn K cd3 "_law_cell" = true)
    (k3 : PySem.W.keepIn K (.ref f3) = true)
    (a4 : PySem.W.nsIn K mainGlobals "_law_raised" = some (some (.ref f4)))
    (l4 : K.lookup f4 = some ⟨oc4, od4, .func (PySem.W.fnOf "_law_raised" "_law_raised" (defArgs s_law_raised) (defBody s_law_raised) (defScope s_law_raised) .none kV4 dc4 pm4 an4 cd4 ct4), sl4⟩)
    (c4 : PySem.W.codeIn K cd4 "_law_raised" = true)
    (k4 : PySem.W.keepIn K (.ref f4) = true)
    (a5 : PySem.W.nsIn K mainGlobals "_law_is_0" = some (some (.ref f5)))
    (l5 : K.lookup f5 = some ⟨oc5, od5, .func (PySem.W.fnOf "_law_is_0" "_law_is_0" (defArgs s_law_is_0) (defBody s_law_is_0) (defScope s_law_is_0) .none kV5 dc5 pm5 an5 cd5 ct5), sl5⟩)
    (c5 : PySem.W.codeIn K cd5 "_law_is_0" = true)
    (k5 : PySem.W.keepIn K (.ref f5) = true)
    (a6 : PySem.W.nsIn K mainGlobals "_law_is_1" = some (some (.ref f6)))
    (l6 : K.lookup f6 = some ⟨oc6, od6, .func (PySem.W.fnOf "_law_is_1" "_law_is_1" (defArgs s_law_is_1) (defBody s_law_is_1) (defScope s_law_is_1) .none kV6 dc6 pm6 an6 cd6 ct6), sl6⟩)
    (c6 : PySem.W.codeIn K cd6 "_law_is_1" = true)
    (k6 : PySem.W.keepIn K (.ref f6) = true)
    (a7 : PySem.W.nsIn K mainGlobals "_law_is_2" = some (some (.ref f7)))
    (l7 : K.lookup f7 = some ⟨oc7, od7, .func (PySem.W.fnOf "_law_is_2" "_law_is_2" (defArgs s_law_is_2) (defBody s_law_is_2) (defScope s_law_is_2) .none kV7 dc7 pm7 an7 cd7 ct7), sl7⟩)
    (c7 : PySem.W.codeIn K cd7 "_law_is_2" = true)
    (k7 : PySem.W.keepIn K (.ref f7) = true)
    (a8 : PySem.W.nsIn K mainGlobals "_law_is_3" = some (some (.ref f8)))
    (l8 : K.lookup f8 = some ⟨oc8, od8, .func (PySem.W.fnOf "_law_is_3" "_law_is_3" (defArgs s_law_is_3) (defBody s_law_is_3) (defScope s_law_is_3) .none kV8 dc8 pm8 an8 cd8 ct8), sl8⟩)
    (c8 : PySem.W.codeIn K cd8 "_law_is_3" = true)
    (k8 : PySem.W.keepIn K (.ref f8) = true)
    (a9 : PySem.W.nsIn K mainGlobals "_law_is_4" = some (some (.ref f9)))
    (l9 : K.lookup f9 = some ⟨oc9, od9, .func (PySem.W.fnOf "_law_is_4" "_law_is_4" (defArgs s_law_is_4) (defBody s_law_is_4) (defScope s_law_is_4) .none kV9 dc9 pm9 an9 cd9 ct9), sl9⟩)
    (c9 : PySem.W.codeIn K cd9 "_law_is_4" = true)
    (k9 : PySem.W.keepIn K (.ref f9) = true)
    (a10 : PySem.W.nsIn K mainGlobals "_law_is_5" = some (some (.ref f10)))
    (l10 : K.lookup f10 = some ⟨oc10, od10, .func (PySem.W.fnOf "_law_is_5" "_law_is_5" (defArgs s_law_is_5) (defBody s_law_is_5) (defScope s_law_is_5) .none kV10 dc10 pm10 an10 cd10 ct10), sl10⟩)
    (c10 : PySem.W.codeIn K cd10 "_law_is_5" = true)
    (k10 : PySem.W.keepIn K (.ref f10) = true)
    (a11 : PySem.W.nsIn K mainGlobals "_law_is_6" = some (some (.ref f11)))
    (l11 : K.lookup f11 = some ⟨oc11, od11, .func (PySem.W.fnOf "_law_is_6" "_law_is_6" (defArgs s_law_is_6) (defBody s_law_is_6) (defScope s_law_is_6) .none kV11 dc11 pm11 an11 cd11 ct11), sl11⟩)
    (c11 : PySem.W.codeIn K cd11 "_law_is_6" = true)
    (k11 : PySem.W.keepIn K (.ref f11) = true)
    (a12 : PySem.W.nsIn K mainGlobals "law" = some (some (.ref f12)))
    (l12 : K.lookup f12 = some ⟨oc12, od12, .func (PySem.W.fnOf "law" "law" (defArgs s_law) (defBody s_law) (defScope s_law) .none kV12 dc12 pm12 an12 cd12 ct12), sl12⟩)
    (c12 : PySem.W.codeIn K cd12 "law" = true)
    (k12 : PySem.W.keepIn K (.ref f12) = true)
    (aX_CourtError : PySem.W.nsIn K mainGlobals "CourtError" = some (some (.ref C_CourtError)))
    (xX_CourtError : PySem.W.excIn K C_CourtError [.type "ValueError", .type "Exception", .type "BaseException", .type "object"] "ValueError.__new__" = true)
    (kX_CourtError : PySem.W.keepIn K (.ref C_CourtError) = true)
    (bX_CourtError : PySem.W.subIn K (.ref C_CourtError) (.type "BaseException") = some true)
    (tX_CourtError : PySem.W.typeIn K (.ref C_CourtError) = some (.type "type"))
    (iX_CourtError : PySem.W.isClsIn K C_CourtError = true)
    (sX_CourtError : PySem.W.subIn K (.ref C_CourtError) (.ref C_CourtError) = some true)
    (aX_BadTree : PySem.W.nsIn K mainGlobals "BadTree" = some (some (.ref C_BadTree)))
    (xX_BadTree : PySem.W.excIn K C_BadTree [.type "ValueError", .type "Exception", .type "BaseException", .type "object"] "ValueError.__new__" = true)
    (kX_BadTree : PySem.W.keepIn K (.ref C_BadTree) = true)
    (bX_BadTree : PySem.W.subIn K (.ref C_BadTree) (.type "BaseException") = some true)
    (tX_BadTree : PySem.W.typeIn K (.ref C_BadTree) = some (.type "type"))
    (iX_BadTree : PySem.W.isClsIn K C_BadTree = true)
    (sX_BadTree : PySem.W.subIn K (.ref C_BadTree) (.ref C_BadTree) = some true)
    (aX_BadFit : PySem.W.nsIn K mainGlobals "BadFit" = some (some (.ref C_BadFit)))
    (xX_BadFit : PySem.W.excIn K C_BadFit [.type "ValueError", .type "Exception", .type "BaseException", .type "object"] "ValueError.__new__" = true)
    (kX_BadFit : PySem.W.keepIn K (.ref C_BadFit) = true)
    (bX_BadFit : PySem.W.subIn K (.ref C_BadFit) (.type "BaseException") = some true)
    (tX_BadFit : PySem.W.typeIn K (.ref C_BadFit) = some (.type "type"))
    (iX_BadFit : PySem.W.isClsIn K C_BadFit = true)
    (sX_BadFit : PySem.W.subIn K (.ref C_BadFit) (.ref C_BadFit) = some true)
    (aX_BadOpening : PySem.W.nsIn K mainGlobals "BadOpening" = some (some (.ref C_BadOpening)))
    (xX_BadOpening : PySem.W.excIn K C_BadOpening [.type "ValueError", .type "Exception", .type "BaseException", .type "object"] "ValueError.__new__" = true)
    (kX_BadOpening : PySem.W.keepIn K (.ref C_BadOpening) = true)
    (bX_BadOpening : PySem.W.subIn K (.ref C_BadOpening) (.type "BaseException") = some true)
    (tX_BadOpening : PySem.W.typeIn K (.ref C_BadOpening) = some (.type "type"))
    (iX_BadOpening : PySem.W.isClsIn K C_BadOpening = true)
    (sX_BadOpening : PySem.W.subIn K (.ref C_BadOpening) (.ref C_BadOpening) = some true)
    (aX_BadCall : PySem.W.nsIn K mainGlobals "BadCall" = some (some (.ref C_BadCall)))
    (xX_BadCall : PySem.W.excIn K C_BadCall [.type "ValueError", .type "Exception", .type "BaseException", .type "object"] "ValueError.__new__" = true)
    (kX_BadCall : PySem.W.keepIn K (.ref C_BadCall) = true)
    (bX_BadCall : PySem.W.subIn K (.ref C_BadCall) (.type "BaseException") = some true)
    (tX_BadCall : PySem.W.typeIn K (.ref C_BadCall) = some (.type "type"))
    (iX_BadCall : PySem.W.isClsIn K C_BadCall = true)
    (sX_BadCall : PySem.W.subIn K (.ref C_BadCall) (.ref C_BadCall) = some true)
    (oX_BadSource : Kit.oexB K C_BadSource = true)
    (xX_BadSource : xfB K C_BadSource = true)
    (wX_BadSource : PySem.W.findIn K (.ref C_BadSource) "__setattr__" = some (some (.builtin "object.__setattr__")))
    (kX_BadSource : PySem.W.keepIn K (.ref C_BadSource) = true)
    (bX_BadSource : PySem.W.subIn K (.ref C_BadSource) (.type "BaseException") = some true)
    (tX_BadSource : PySem.W.typeIn K (.ref C_BadSource) = some (.type "type"))
    (iX_BadSource : PySem.W.isClsIn K C_BadSource = true)
    (sX_BadSource : PySem.W.subIn K (.ref C_BadSource) (.ref C_BadSource) = some true)
    (fX_BadSource : PySem.W.typeIn K (.ref f0) = some (.type "function"))
    (nX_BadSource_line : PySem.W.findIn K (.ref C_BadSource) "line" = some none)
    (nX_BadSource_reason : PySem.W.findIn K (.ref C_BadSource) "reason" = some none)
    (oX_BadProgram : Kit.oexB K C_BadProgram = true)
    (xX_BadProgram : xfB K C_BadProgram = true)
    (wX_BadProgram : PySem.W.findIn K (.ref C_BadProgram) "__setattr__" = some (some (.builtin "object.__setattr__")))
    (kX_BadProgram : PySem.W.keepIn K (.ref C_BadProgram) = true)
    (bX_BadProgram : PySem.W.subIn K (.ref C_BadProgram) (.type "BaseException") = some true)
    (tX_BadProgram : PySem.W.typeIn K (.ref C_BadProgram) = some (.type "type"))
    (iX_BadProgram : PySem.W.isClsIn K C_BadProgram = true)
    (sX_BadProgram : PySem.W.subIn K (.ref C_BadProgram) (.ref C_BadProgram) = some true)
    (fX_BadProgram : PySem.W.typeIn K (.ref f1) = some (.type "function"))
    (nX_BadProgram_reason : PySem.W.findIn K (.ref C_BadProgram) "reason" = some none)
    (oX_BadSchedule : Kit.oexB K C_BadSchedule = true)
    (xX_BadSchedule : xfB K C_BadSchedule = true)
    (wX_BadSchedule : PySem.W.findIn K (.ref C_BadSchedule) "__setattr__" = some (some (.builtin "object.__setattr__")))
    (kX_BadSchedule : PySem.W.keepIn K (.ref C_BadSchedule) = true)
    (bX_BadSchedule : PySem.W.subIn K (.ref C_BadSchedule) (.type "BaseException") = some true)
    (tX_BadSchedule : PySem.W.typeIn K (.ref C_BadSchedule) = some (.type "type"))
    (iX_BadSchedule : PySem.W.isClsIn K C_BadSchedule = true)
    (sX_BadSchedule : PySem.W.subIn K (.ref C_BadSchedule) (.ref C_BadSchedule) = some true)
    (fX_BadSchedule : PySem.W.typeIn K (.ref f2) = some (.type "function"))
    (nX_BadSchedule_line : PySem.W.findIn K (.ref C_BadSchedule) "line" = some none)
    (sX_BadSource_BadProgram : PySem.W.subIn K (.ref C_BadSource) (.ref C_BadProgram) = some false)
    (sX_BadSource_BadSchedule : PySem.W.subIn K (.ref C_BadSource) (.ref C_BadSchedule) = some false)
    (sX_BadSource_BadFit : PySem.W.subIn K (.ref C_BadSource) (.ref C_BadFit) = some false)
    (sX_BadSource_BadOpening : PySem.W.subIn K (.ref C_BadSource) (.ref C_BadOpening) = some false)
    (sX_BadSource_BadCall : PySem.W.subIn K (.ref C_BadSource) (.ref C_BadCall) = some false)
    (sX_BadSource_BadTree : PySem.W.subIn K (.ref C_BadSource) (.ref C_BadTree) = some false)
    (sX_BadProgram_BadSource : PySem.W.subIn K (.ref C_BadProgram) (.ref C_BadSource) = some false)
    (sX_BadProgram_BadSchedule : PySem.W.subIn K (.ref C_BadProgram) (.ref C_BadSchedule) = some false)
    (sX_BadProgram_BadFit : PySem.W.subIn K (.ref C_BadProgram) (.ref C_BadFit) = some false)
    (sX_BadProgram_BadOpening : PySem.W.subIn K (.ref C_BadProgram) (.ref C_BadOpening) = some false)
    (sX_BadProgram_BadCall : PySem.W.subIn K (.ref C_BadProgram) (.ref C_BadCall) = some false)
    (sX_BadProgram_BadTree : PySem.W.subIn K (.ref C_BadProgram) (.ref C_BadTree) = some false)
    (sX_BadSchedule_BadSource : PySem.W.subIn K (.ref C_BadSchedule) (.ref C_BadSource) = some false)
    (sX_BadSchedule_BadProgram : PySem.W.subIn K (.ref C_BadSchedule) (.ref C_BadProgram) = some false)
    (sX_BadSchedule_BadFit : PySem.W.subIn K (.ref C_BadSchedule) (.ref C_BadFit) = some false)
    (sX_BadSchedule_BadOpening : PySem.W.subIn K (.ref C_BadSchedule) (.ref C_BadOpening) = some false)
    (sX_BadSchedule_BadCall : PySem.W.subIn K (.ref C_BadSchedule) (.ref C_BadCall) = some false)
    (sX_BadSchedule_BadTree : PySem.W.subIn K (.ref C_BadSchedule) (.ref C_BadTree) = some false)
    (sX_BadFit_BadSource : PySem.W.subIn K (.ref C_BadFit) (.ref C_BadSource) = some false)
    (sX_BadFit_BadProgram : PySem.W.subIn K (.ref C_BadFit) (.ref C_BadProgram) = some false)
    (sX_BadFit_BadSchedule : PySem.W.subIn K (.ref C_BadFit) (.ref C_BadSchedule) = some false)
    (sX_BadFit_BadOpening : PySem.W.subIn K (.ref C_BadFit) (.ref C_BadOpening) = some false)
    (sX_BadFit_BadCall : PySem.W.subIn K (.ref C_BadFit) (.ref C_BadCall) = some false)
    (sX_BadFit_BadTree : PySem.W.subIn K (.ref C_BadFit) (.ref C_BadTree) = some false)
    (sX_BadOpening_BadSource : PySem.W.subIn K (.ref C_BadOpening) (.ref C_BadSource) = some false)
    (sX_BadOpening_BadProgram : PySem.W.subIn K (.ref C_BadOpening) (.ref C_BadProgram) = some false)
    (sX_BadOpening_BadSchedule : PySem.W.subIn K (.ref C_BadOpening) (.ref C_BadSchedule) = some false)
    (sX_BadOpening_BadFit : PySem.W.subIn K (.ref C_BadOpening) (.ref C_BadFit) = some false)
    (sX_BadOpening_BadCall : PySem.W.subIn K (.ref C_BadOpening) (.ref C_BadCall) = some false)
    (sX_BadOpening_BadTree : PySem.W.subIn K (.ref C_BadOpening) (.ref C_BadTree) = some false)
    (sX_BadCall_BadSource : PySem.W.subIn K (.ref C_BadCall) (.ref C_BadSource) = some false)
    (sX_BadCall_BadProgram : PySem.W.subIn K (.ref C_BadCall) (.ref C_BadProgram) = some false)
    (sX_BadCall_BadSchedule : PySem.W.subIn K (.ref C_BadCall) (.ref C_BadSchedule) = some false)
    (sX_BadCall_BadFit : PySem.W.subIn K (.ref C_BadCall) (.ref C_BadFit) = some false)
    (sX_BadCall_BadOpening : PySem.W.subIn K (.ref C_BadCall) (.ref C_BadOpening) = some false)
    (sX_BadCall_BadTree : PySem.W.subIn K (.ref C_BadCall) (.ref C_BadTree) = some false)
    (sX_BadTree_BadSource : PySem.W.subIn K (.ref C_BadTree) (.ref C_BadSource) = some false)
    (sX_BadTree_BadProgram : PySem.W.subIn K (.ref C_BadTree) (.ref C_BadProgram) = some false)
    (sX_BadTree_BadSchedule : PySem.W.subIn K (.ref C_BadTree) (.ref C_BadSchedule) = some false)
    (sX_BadTree_BadFit : PySem.W.subIn K (.ref C_BadTree) (.ref C_BadFit) = some false)
    (sX_BadTree_BadOpening : PySem.W.subIn K (.ref C_BadTree) (.ref C_BadOpening) = some false)
    (sX_BadTree_BadCall : PySem.W.subIn K (.ref C_BadTree) (.ref C_BadCall) = some false)
    (sX_BadSource_CourtError : PySem.W.subIn K (.ref C_BadSource) (.ref C_CourtError) = some true)
    (sX_BadProgram_CourtError : PySem.W.subIn K (.ref C_BadProgram) (.ref C_CourtError) = some true)
    (sX_BadSchedule_CourtError : PySem.W.subIn K (.ref C_BadSchedule) (.ref C_CourtError) = some true)
    (sX_BadFit_CourtError : PySem.W.subIn K (.ref C_BadFit) (.ref C_CourtError) = some true)
    (sX_BadOpening_CourtError : PySem.W.subIn K (.ref C_BadOpening) (.ref C_CourtError) = some true)
    (sX_BadCall_CourtError : PySem.W.subIn K (.ref C_BadCall) (.ref C_CourtError) = some true)
    (sX_BadTree_CourtError : PySem.W.subIn K (.ref C_BadTree) (.ref C_CourtError) = some true)
    (g_DEPTH : PySem.W.nsIn K mainGlobals "DEPTH" = some (some (.int 8 t_DEPTH)))
    (g_MOST_FUNCTIONS : PySem.W.nsIn K mainGlobals "MOST_FUNCTIONS" = some (some (.int 8 t_MOST_FUNCTIONS)))
    (g_MOST_INPUTS : PySem.W.nsIn K mainGlobals "MOST_INPUTS" = some (some (.int 16 t_MOST_INPUTS)))
    (g_MOST_LATE : PySem.W.nsIn K mainGlobals "MOST_LATE" = some (some (.int 9 t_MOST_LATE)))
    (g_MOST_LEVEL : PySem.W.nsIn K mainGlobals "MOST_LEVEL" = some (some (.int 8 t_MOST_LEVEL)))
    (g_MOST_NAME : PySem.W.nsIn K mainGlobals "MOST_NAME" = some (some (.int 12 t_MOST_NAME)))
    (g_MOST_NESTED : PySem.W.nsIn K mainGlobals "MOST_NESTED" = some (some (.int 12 t_MOST_NESTED)))
    (g_MOST_OPEN : PySem.W.nsIn K mainGlobals "MOST_OPEN" = some (some (.int 16 t_MOST_OPEN)))
    (g_MOST_PARAMS : PySem.W.nsIn K mainGlobals "MOST_PARAMS" = some (some (.int 4 t_MOST_PARAMS)))
    (g_MOST_PLAYERS : PySem.W.nsIn K mainGlobals "MOST_PLAYERS" = some (some (.int 6 t_MOST_PLAYERS)))
    (g_MOST_SIZE : PySem.W.nsIn K mainGlobals "MOST_SIZE" = some (some (.int 64 t_MOST_SIZE)))
    (g_MOST_TABLES : PySem.W.nsIn K mainGlobals "MOST_TABLES" = some (some (.int 8 t_MOST_TABLES)))
    (g_MOST_TEXT : PySem.W.nsIn K mainGlobals "MOST_TEXT" = some (some (.int 8000 t_MOST_TEXT)))
    (g_MOST_TOLD : PySem.W.nsIn K mainGlobals "MOST_TOLD" = some (some (.int 16 t_MOST_TOLD)))
    (g_MOST_WORD : PySem.W.nsIn K mainGlobals "MOST_WORD" = some (some (.int 65535 t_MOST_WORD)))
    (z_abs : PySem.W.nsIn K mainGlobals "abs" = some none)
    (z_int : PySem.W.nsIn K mainGlobals "int" = some none)
    (z_len : PySem.W.nsIn K mainGlobals "len" = some none)
    (z_range : PySem.W.nsIn K mainGlobals "range" = some none)
    : ∃ fd : FuncData, (∀ (s : Shared) (v : Value), BindsTo s fd ⟨[v], []⟩ [("script", v)]) ∧ ∀ base : Heap, K.In base → base.Ns mainGlobals mg → FnOk l.prog w K mg base CX0 5 fa fd ["script"] (sp_law K) := by
  have e := hfa.symm.trans (PySem.W.mg_of X G a12)
  have e2 : f12 = fa := by
    injection e with e
    injection e with e
    exact e.symm
  subst e2
  have F0 := fun_mk (st := s_BadSource___init) l0 c0 k0
  have b0 := F0.binds (ps := ["self", "line", "reason"]) fun _ _ _ _ _ _ us hl => match us, hl with | [_, _, _], _ => rfl
  have F1 := fun_mk (st := s_BadProgram___init) l1 c1 k1
  have b1 := F1.binds (ps := ["self", "reason"]) fun _ _ _ _ _ _ us hl => match us, hl with | [_, _], _ => rfl
  have F2 := fun_mk (st := s_BadSchedule___init) l2 c2 k2
  have b2 := F2.binds (ps := ["self", "line"]) fun _ _ _ _ _ _ us hl => match us, hl with | [_, _], _ => rfl
  have F3 := fun_mk (st := s_law_cell) l3 c3 k3
  have b3 := F3.binds (ps := ["script", "k"]) fun _ _ _ _ _ _ us hl => match us, hl with | [_, _], _ => rfl
  have F4 := fun_mk (st := s_law_raised) l4 c4 k4
  have b4 := F4.binds (ps := ["line", "reason", "which"]) fun _ _ _ _ _ _ us hl => match us, hl with | [_, _, _], _ => rfl
  have F5 := fun_mk (st := s_law_is_0) l5 c5 k5
  have b5 := F5.binds (ps := ["line", "reason", "which"]) fun _ _ _ _ _ _ us hl => match us, hl with | [_, _, _], _ => rfl
  have F6 := fun_mk (st := s_law_is_1) l6 c6 k6
  have b6 := F6.binds (ps := ["line", "reason", "which"]) fun _ _ _ _ _ _ us hl => match us, hl with | [_, _, _], _ => rfl
  have F7 := fun_mk (st := s_law_is_2) l7 c7 k7
  have b7 := F7.binds (ps := ["line", "reason", "which"]) fun _ _ _ _ _ _ us hl => match us, hl with | [_, _, _], _ => rfl
  have F8 := fun_mk (st := s_law_is_3) l8 c8 k8
  have b8 := F8.binds (ps := ["line", "reason", "which"]) fun _ _ _ _ _ _ us hl => match us, hl with | [_, _, _], _ => rfl
  have F9 := fun_mk (st := s_law_is_4) l9 c9 k9
  have b9 := F9.binds (ps := ["line", "reason", "which"]) fun _ _ _ _ _ _ us hl => match us, hl with | [_, _, _], _ => rfl
  have F10 := fun_mk (st := s_law_is_5) l10 c10 k10
  have b10 := F10.binds (ps := ["line", "reason", "which"]) fun _ _ _ _ _ _ us hl => match us, hl with | [_, _, _], _ => rfl
  have F11 := fun_mk (st := s_law_is_6) l11 c11 k11
  have b11 := F11.binds (ps := ["line", "reason", "which"]) fun _ _ _ _ _ _ us hl => match us, hl with | [_, _, _], _ => rfl
  have F12 := fun_mk (st := s_law) l12 c12 k12
  have b12 := F12.binds (ps := ["script"]) fun _ _ _ _ _ _ us hl => match us, hl with | [_], _ => rfl
  let T : Txt K mg := {
    f_BadSource___init := ⟨f0, _, F0, b0⟩
    f_BadProgram___init := ⟨f1, _, F1, b1⟩
    f_BadSchedule___init := ⟨f2, _, F2, b2⟩
    f_law_cell := ⟨⟨f3, _, F3, b3⟩, PySem.W.mg_of X G a3⟩
    f_law_raised := ⟨⟨f4, _, F4, b4⟩, PySem.W.mg_of X G a4⟩
    f_law_is_0 := ⟨⟨f5, _, F5, b5⟩, PySem.W.mg_of X G a5⟩
    f_law_is_1 := ⟨⟨f6, _, F6, b6⟩, PySem.W.mg_of X G a6⟩
    f_law_is_2 := ⟨⟨f7, _, F7, b7⟩, PySem.W.mg_of X G a7⟩
    f_law_is_3 := ⟨⟨f8, _, F8, b8⟩, PySem.W.mg_of X G a8⟩
    f_law_is_4 := ⟨⟨f9, _, F9, b9⟩, PySem.W.mg_of X G a9⟩
    f_law_is_5 := ⟨⟨f10, _, F10, b10⟩, PySem.W.mg_of X G a10⟩
    f_law_is_6 := ⟨⟨f11, _, F11, b11⟩, PySem.W.mg_of X G a11⟩
    f_law := ⟨⟨f12, _, F12, b12⟩, PySem.W.mg_of X G a12⟩
    t_DEPTH := t_DEPTH
    g_DEPTH := PySem.W.mg_of X G g_DEPTH
    t_MOST_FUNCTIONS := t_MOST_FUNCTIONS
    g_MOST_FUNCTIONS := PySem.W.mg_of X G g_MOST_FUNCTIONS
    t_MOST_INPUTS := t_MOST_INPUTS
    g_MOST_INPUTS := PySem.W.mg_of X G g_MOST_INPUTS
    t_MOST_LATE := t_MOST_LATE
    g_MOST_LATE := PySem.W.mg_of X G g_MOST_LATE
    t_MOST_LEVEL := t_MOST_LEVEL
    g_MOST_LEVEL := PySem.W.mg_of X G g_MOST_LEVEL
    t_MOST_NAME := t_MOST_NAME
    g_MOST_NAME := PySem.W.mg_of X G g_MOST_NAME
    t_MOST_NESTED := t_MOST_NESTED
    g_MOST_NESTED := PySem.W.mg_of X G g_MOST_NESTED
    t_MOST_OPEN := t_MOST_OPEN
    g_MOST_OPEN := PySem.W.mg_of X G g_MOST_OPEN
    t_MOST_PARAMS := t_MOST_PARAMS
    g_MOST_PARAMS := PySem.W.mg_of X G g_MOST_PARAMS
    t_MOST_PLAYERS := t_MOST_PLAYERS
    g_MOST_PLAYERS := PySem.W.mg_of X G g_MOST_PLAYERS
    t_MOST_SIZE := t_MOST_SIZE
    g_MOST_SIZE := PySem.W.mg_of X G g_MOST_SIZE
    t_MOST_TABLES := t_MOST_TABLES
    g_MOST_TABLES := PySem.W.mg_of X G g_MOST_TABLES
    t_MOST_TEXT := t_MOST_TEXT
    g_MOST_TEXT := PySem.W.mg_of X G g_MOST_TEXT
    t_MOST_TOLD := t_MOST_TOLD
    g_MOST_TOLD := PySem.W.mg_of X G g_MOST_TOLD
    t_MOST_WORD := t_MOST_WORD
    g_MOST_WORD := PySem.W.mg_of X G g_MOST_WORD
    e_CourtError := ⟨C_CourtError, PySem.W.mg_of X G aX_CourtError, xX_CourtError, kX_CourtError, bX_CourtError, tX_CourtError, Kit.exm_own bX_CourtError iX_CourtError tX_CourtError sX_CourtError⟩
    e_BadTree := ⟨C_BadTree, PySem.W.mg_of X G aX_BadTree, xX_BadTree, kX_BadTree, bX_BadTree, tX_BadTree, Kit.exm_own bX_BadTree iX_BadTree tX_BadTree sX_BadTree⟩
    e_BadFit := ⟨C_BadFit, PySem.W.mg_of X G aX_BadFit, xX_BadFit, kX_BadFit, bX_BadFit, tX_BadFit, Kit.exm_own bX_BadFit iX_BadFit tX_BadFit sX_BadFit⟩
    e_BadOpening := ⟨C_BadOpening, PySem.W.mg_of X G aX_BadOpening, xX_BadOpening, kX_BadOpening, bX_BadOpening, tX_BadOpening, Kit.exm_own bX_BadOpening iX_BadOpening tX_BadOpening sX_BadOpening⟩
    e_BadCall := ⟨C_BadCall, PySem.W.mg_of X G aX_BadCall, xX_BadCall, kX_BadCall, bX_BadCall, tX_BadCall, Kit.exm_own bX_BadCall iX_BadCall tX_BadCall sX_BadCall⟩
    e_BadSource := ⟨C_BadSource, PySem.W.mg_of X G aX_BadSource, Kit.oex_mk oX_BadSource wX_BadSource bX_BadSource tX_BadSource kX_BadSource, a0, fX_BadSource, Kit.exm_own bX_BadSource iX_BadSource tX_BadSource sX_BadSource, xfB_ok xX_BadSource⟩
    n_BadSource_line := nX_BadSource_line
    n_BadSource_reason := nX_BadSource_reason
    e_BadProgram := ⟨C_BadProgram, PySem.W.mg_of X G aX_BadProgram, Kit.oex_mk oX_BadProgram wX_BadProgram bX_BadProgram tX_BadProgram kX_BadProgram, a1, fX_BadProgram, Kit.exm_own bX_BadProgram iX_BadProgram tX_BadProgram sX_BadProgram, xfB_ok xX_BadProgram⟩
    n_BadProgram_reason := nX_BadProgram_reason
    e_BadSchedule := ⟨C_BadSchedule, PySem.W.mg_of X G aX_BadSchedule, Kit.oex_mk oX_BadSchedule wX_BadSchedule bX_BadSchedule tX_BadSchedule kX_BadSchedule, a2, fX_BadSchedule, Kit.exm_own bX_BadSchedule iX_BadSchedule tX_BadSchedule sX_BadSchedule, xfB_ok xX_BadSchedule⟩
    n_BadSchedule_line := nX_BadSchedule_line
    p_BadSource_BadProgram := Kit.exm_pair bX_BadProgram iX_BadProgram tX_BadProgram sX_BadSource_BadProgram
    p_BadSource_BadSchedule := Kit.exm_pair bX_BadSchedule iX_BadSchedule tX_BadSchedule sX_BadSource_BadSchedule
    p_BadSource_BadFit := Kit.exm_pair bX_BadFit iX_BadFit tX_BadFit sX_BadSource_BadFit
    p_BadSource_BadOpening := Kit.exm_pair bX_BadOpening iX_BadOpening tX_BadOpening sX_BadSource_BadOpening
    p_BadSource_BadCall := Kit.exm_pair bX_BadCall iX_BadCall tX_BadCall sX_BadSource_BadCall
    p_BadSource_BadTree := Kit.exm_pair bX_BadTree iX_BadTree tX_BadTree sX_BadSource_BadTree
    p_BadProgram_BadSource := Kit.exm_pair bX_BadSource iX_BadSource tX_BadSource sX_BadProgram_BadSource
    p_BadProgram_BadSchedule := Kit.exm_pair bX_BadSchedule iX_BadSchedule tX_BadSchedule sX_BadProgram_BadSchedule
    p_BadProgram_BadFit := Kit.exm_pair bX_BadFit iX_BadFit tX_BadFit sX_BadProgram_BadFit
    p_BadProgram_BadOpening := Kit.exm_pair bX_BadOpening iX_BadOpening tX_BadOpening sX_BadProgram_BadOpening
    p_BadProgram_BadCall := Kit.exm_pair bX_BadCall iX_BadCall tX_BadCall sX_BadProgram_BadCall
    p_BadProgram_BadTree := Kit.exm_pair bX_BadTree iX_BadTree tX_BadTree sX_BadProgram_BadTree
    p_BadSchedule_BadSource := Kit.exm_pair bX_BadSource iX_BadSource tX_BadSource sX_BadSchedule_BadSource
    p_BadSchedule_BadProgram := Kit.exm_pair bX_BadProgram iX_BadProgram tX_BadProgram sX_BadSchedule_BadProgram
    p_BadSchedule_BadFit := Kit.exm_pair bX_BadFit iX_BadFit tX_BadFit sX_BadSchedule_BadFit
    p_BadSchedule_BadOpening := Kit.exm_pair bX_BadOpening iX_BadOpening tX_BadOpening sX_BadSchedule_BadOpening
    p_BadSchedule_BadCall := Kit.exm_pair bX_BadCall iX_BadCall tX_BadCall sX_BadSchedule_BadCall
    p_BadSchedule_BadTree := Kit.exm_pair bX_BadTree iX_BadTree tX_BadTree sX_BadSchedule_BadTree
    p_BadFit_BadSource := Kit.exm_pair bX_BadSource iX_BadSource tX_BadSource sX_BadFit_BadSource
    p_BadFit_BadProgram := Kit.exm_pair bX_BadProgram iX_BadProgram tX_BadProgram sX_BadFit_BadProgram
    p_BadFit_BadSchedule := Kit.exm_pair bX_BadSchedule iX_BadSchedule tX_BadSchedule sX_BadFit_BadSchedule
    p_BadFit_BadOpening := Kit.exm_pair bX_BadOpening iX_BadOpening tX_BadOpening sX_BadFit_BadOpening
    p_BadFit_BadCall := Kit.exm_pair bX_BadCall iX_BadCall tX_BadCall sX_BadFit_BadCall
    p_BadFit_BadTree := Kit.exm_pair bX_BadTree iX_BadTree tX_BadTree sX_BadFit_BadTree
    p_BadOpening_BadSource := Kit.exm_pair bX_BadSource iX_BadSource tX_BadSource sX_BadOpening_BadSource
    p_BadOpening_BadProgram := Kit.exm_pair bX_BadProgram iX_BadProgram tX_BadProgram sX_BadOpening_BadProgram
    p_BadOpening_BadSchedule := Kit.exm_pair bX_BadSchedule iX_BadSchedule tX_BadSchedule sX_BadOpening_BadSchedule
    p_BadOpening_BadFit := Kit.exm_pair bX_BadFit iX_BadFit tX_BadFit sX_BadOpening_BadFit
    p_BadOpening_BadCall := Kit.exm_pair bX_BadCall iX_BadCall tX_BadCall sX_BadOpening_BadCall
    p_BadOpening_BadTree := Kit.exm_pair bX_BadTree iX_BadTree tX_BadTree sX_BadOpening_BadTree
    p_BadCall_BadSource := Kit.exm_pair bX_BadSource iX_BadSource tX_BadSource sX_BadCall_BadSource
    p_BadCall_BadProgram := Kit.exm_pair bX_BadProgram iX_BadProgram tX_BadProgram sX_BadCall_BadProgram
    p_BadCall_BadSchedule := Kit.exm_pair bX_BadSchedule iX_BadSchedule tX_BadSchedule sX_BadCall_BadSchedule
    p_BadCall_BadFit := Kit.exm_pair bX_BadFit iX_BadFit tX_BadFit sX_BadCall_BadFit
    p_BadCall_BadOpening := Kit.exm_pair bX_BadOpening iX_BadOpening tX_BadOpening sX_BadCall_BadOpening
    p_BadCall_BadTree := Kit.exm_pair bX_BadTree iX_BadTree tX_BadTree sX_BadCall_BadTree
    p_BadTree_BadSource := Kit.exm_pair bX_BadSource iX_BadSource tX_BadSource sX_BadTree_BadSource
    p_BadTree_BadProgram := Kit.exm_pair bX_BadProgram iX_BadProgram tX_BadProgram sX_BadTree_BadProgram
    p_BadTree_BadSchedule := Kit.exm_pair bX_BadSchedule iX_BadSchedule tX_BadSchedule sX_BadTree_BadSchedule
    p_BadTree_BadFit := Kit.exm_pair bX_BadFit iX_BadFit tX_BadFit sX_BadTree_BadFit
    p_BadTree_BadOpening := Kit.exm_pair bX_BadOpening iX_BadOpening tX_BadOpening sX_BadTree_BadOpening
    p_BadTree_BadCall := Kit.exm_pair bX_BadCall iX_BadCall tX_BadCall sX_BadTree_BadCall
    p_BadSource_CourtError := Kit.exm_pair bX_CourtError iX_CourtError tX_CourtError sX_BadSource_CourtError
    p_BadProgram_CourtError := Kit.exm_pair bX_CourtError iX_CourtError tX_CourtError sX_BadProgram_CourtError
    p_BadSchedule_CourtError := Kit.exm_pair bX_CourtError iX_CourtError tX_CourtError sX_BadSchedule_CourtError
    p_BadFit_CourtError := Kit.exm_pair bX_CourtError iX_CourtError tX_CourtError sX_BadFit_CourtError
    p_BadOpening_CourtError := Kit.exm_pair bX_CourtError iX_CourtError tX_CourtError sX_BadOpening_CourtError
    p_BadCall_CourtError := Kit.exm_pair bX_CourtError iX_CourtError tX_CourtError sX_BadCall_CourtError
    p_BadTree_CourtError := Kit.exm_pair bX_CourtError iX_CourtError tX_CourtError sX_BadTree_CourtError
    z_abs := PySem.W.mg_none_of X G z_abs
    z_int := PySem.W.mg_none_of X G z_int
    z_len := PySem.W.mg_none_of X G z_len
    z_range := PySem.W.mg_none_of X G z_range }
  exact ⟨PySem.W.fnOf "law" "law" (defArgs s_law) (defBody s_law) (defScope s_law) .none kV12 dc12 pm12 an12 cd12 ct12, fun s v => .of_eq rfl, fun base _ _ => ok_law T⟩
end My
open PySem PySem.W PyProof.Rows
set_option maxHeartbeats 0 in
theorem PySem.Challenge.cw_onestepcourt_k00_errors_and_limits_holds : PySem.Challenge.rw_onestepcourt_k00_errors_and_limits.Holds := by
  w_on; o_law; k_head; (case hw => w_witness2)
  k_fill
  refine L2.walk_of (l := PySem.Challenge.rw_onestepcourt_k00_errors_and_limits) (n := 63) (k := 5) (x := "script") (CX := fun _ => L2.CX0) (sp := fun w => My.sp_law _) rfl (by decide) rfl ⟨rfl, by decide, by decide⟩ (fun w h Y => PySem.W.kIn_of Y) ?F (fun _ _ a ns hl _ hS => My.sp_law_of hl hS) (fun _ _ _ _ _ h => h)
  case F =>
    intro w mg fa h KX G hmg
    refine' My.all_mk KX G hmg ?aX_BadSchedule ?aX_BadProgram ?aX_BadSource ?a0 ?i0 ?l0 ?c0 ?k0 ?a1 ?i1 ?l1 ?c1 ?k1 ?a2 ?i2 ?l2 ?c2 ?k2 ?a3 ?l3 ?c3 ?k3 ?a4 ?l4 ?c4 ?k4 ?a5 ?l5 ?c5 ?k5 ?a6 ?l6 ?c6 ?k6 ?a7 ?l7 ?c7 ?k7 ?a8 ?l8 ?c8 ?k8 ?a9 ?l9 ?c9 ?k9 ?a10 ?l10 ?c10 ?k10 ?a11 ?l11 ?c11 ?k11 ?a12 ?l12 ?c12 ?k12 ?aX_CourtError ?xX_CourtError ?kX_CourtError ?bX_CourtError ?tX_CourtError ?iX_CourtError ?sX_CourtError ?aX_BadTree ?xX_BadTree ?kX_BadTree ?bX_BadTree ?tX_BadTree ?iX_BadTree ?sX_BadTree ?aX_BadFit ?xX_BadFit ?kX_BadFit ?bX_BadFit ?tX_BadFit ?iX_BadFit ?sX_BadFit ?aX_BadOpening ?xX_BadOpening ?kX_BadOpening ?bX_BadOpening ?tX_BadOpening ?iX_BadOpening ?sX_BadOpening ?aX_BadCall ?xX_BadCall ?kX_BadCall ?bX_BadCall ?tX_BadCall ?iX_BadCall ?sX_BadCall ?oX_BadSource ?xX_BadSource ?wX_BadSource ?kX_BadSource ?bX_BadSource ?tX_BadSource ?iX_BadSource ?sX_BadSource ?fX_BadSource ?nX_BadSource_line ?nX_BadSource_reason ?oX_BadProgram ?xX_BadProgram ?wX_BadProgram ?kX_BadProgram ?bX_BadProgram ?tX_BadProgram ?iX_BadProgram ?sX_BadProgram ?fX_BadProgram ?nX_BadProgram_reason ?oX_BadSchedule ?xX_BadSchedule ?wX_BadSchedule ?kX_BadSchedule ?bX_BadSchedule ?tX_BadSchedule ?iX_BadSchedule ?sX_BadSchedule ?fX_BadSchedule ?nX_BadSchedule_line ?sX_BadSource_BadProgram ?sX_BadSource_BadSchedule ?sX_BadSource_BadFit ?sX_BadSource_BadOpening ?sX_BadSource_BadCall ?sX_BadSource_BadTree ?sX_BadProgram_BadSource ?sX_BadProgram_BadSchedule ?sX_BadProgram_BadFit ?sX_BadProgram_BadOpening ?sX_BadProgram_BadCall ?sX_BadProgram_BadTree ?sX_BadSchedule_BadSource ?sX_BadSchedule_BadProgram ?sX_BadSchedule_BadFit ?sX_BadSchedule_BadOpening ?sX_BadSchedule_BadCall ?sX_BadSchedule_BadTree ?sX_BadFit_BadSource ?sX_BadFit_BadProgram ?sX_BadFit_BadSchedule ?sX_BadFit_BadOpening ?sX_BadFit_BadCall ?sX_BadFit_BadTree ?sX_BadOpening_BadSource ?sX_BadOpening_BadProgram ?sX_BadOpening_BadSchedule ?sX_BadOpening_BadFit ?sX_BadOpening_BadCall ?sX_BadOpening_BadTree ?sX_BadCall_BadSource ?sX_BadCall_BadProgram ?sX_BadCall_BadSchedule ?sX_BadCall_BadFit ?sX_BadCall_BadOpening ?sX_BadCall_BadTree ?sX_BadTree_BadSource ?sX_BadTree_BadProgram ?sX_BadTree_BadSchedule ?sX_BadTree_BadFit ?sX_BadTree_BadOpening ?sX_BadTree_BadCall ?sX_BadSource_CourtError ?sX_BadProgram_CourtError ?sX_BadSchedule_CourtError ?sX_BadFit_CourtError ?sX_BadOpening_CourtError ?sX_BadCall_CourtError ?sX_BadTree_CourtError ?g_DEPTH ?g_MOST_FUNCTIONS ?g_MOST_INPUTS ?g_MOST_LATE ?g_MOST_LEVEL ?g_MOST_NAME ?g_MOST_NESTED ?g_MOST_OPEN ?g_MOST_PARAMS ?g_MOST_PLAYERS ?g_MOST_SIZE ?g_MOST_TABLES ?g_MOST_TEXT ?g_MOST_TOLD ?g_MOST_WORD ?z_abs ?z_int ?z_len ?z_range
    (case aX_BadSchedule => k_is)
    (case aX_BadProgram => k_is)
    (case aX_BadSource => k_is)
    (case a0 => k_is)
    (case i0 => k_is)
    (case l0 => k_is)
    (case c0 => k_is)
    (case k0 => k_is)
    (case a1 => k_is)
    (case i1 => k_is)
    (case l1 => k_is)
    (case c1 => k_is)
    (case k1 => k_is)
    (case a2 => k_is)
    (case i2 => k_is)
    (case l2 => k_is)
    (case c2 => k_is)
    (case k2 => k_is)
    (case a3 => k_is)
    (case l3 => k_is)
    (case c3 => k_is)
    (case k3 => k_is)
    (case a4 => k_is)
    (case l4 => k_is)
    (case c4 => k_is)
    (case k4 => k_is)
    (case a5 => k_is)
    (case l5 => k_is)
    (case c5 => k_is)
    (case k5 => k_is)
    (case a6 => k_is)
    (case l6 => k_is)
    (case c6 => k_is)
    (case k6 => k_is)
    (case a7 => k_is)
    (case l7 => k_is)
    (case c7 => k_is)
    (case k7 => k_is)
    (case a8 => k_is)
    (case l8 => k_is)
    (case c8 => k_is)
    (case k8 => k_is)
    (case a9 => k_is)
    (case l9 => k_is)
    (case c9 => k_is)
    (case k9 => k_is)
    (case a10 => k_is)
    (case l10 => k_is)
    (case c10 => k_is)
    (case k10 => k_is)
    (case a11 => k_is)
    (case l11 => k_is)
    (case c11 => k_is)
    (case k11 => k_is)
    (case a12 => k_is)
    (case l12 => k_is)
    (case c12 => k_is)
    (case k12 => k_is)
    (case aX_CourtError => k_is)
    (case xX_CourtError => k_exc)
    (case kX_CourtError => k_is)
    (case bX_CourtError => k_is)
    (case tX_CourtError => k_is)
    (case iX_CourtError => k_is)
    (case sX_CourtError => first | rfl | k_is)
    (case aX_BadTree => k_is)
    (case xX_BadTree => k_exc)
    (case kX_BadTree => k_is)
    (case bX_BadTree => k_is)
    (case tX_BadTree => k_is)
    (case iX_BadTree => k_is)
    (case sX_BadTree => first | rfl | k_is)
    (case aX_BadFit => k_is)
    (case xX_BadFit => k_exc)
    (case kX_BadFit => k_is)
    (case bX_BadFit => k_is)
    (case tX_BadFit => k_is)
    (case iX_BadFit => k_is)
    (case sX_BadFit => first | rfl | k_is)
    (case aX_BadOpening => k_is)
    (case xX_BadOpening => k_exc)
    (case kX_BadOpening => k_is)
    (case bX_BadOpening => k_is)
    (case tX_BadOpening => k_is)
    (case iX_BadOpening => k_is)
    (case sX_BadOpening => first | rfl | k_is)
    (case aX_BadCall => k_is)
    (case xX_BadCall => k_exc)
    (case kX_BadCall => k_is)
    (case bX_BadCall => k_is)
    (case tX_BadCall => k_is)
    (case iX_BadCall => k_is)
    (case sX_BadCall => first | rfl | k_is)
    (case oX_BadSource => first | rfl | with_unfolding_all rfl | kernel_rfl)
    (case xX_BadSource => first | rfl | with_unfolding_all rfl | kernel_rfl)
    (case wX_BadSource => k_is)
    (case kX_BadSource => k_is)
    (case bX_BadSource => k_is)
    (case tX_BadSource => k_is)
    (case iX_BadSource => k_is)
    (case sX_BadSource => first | rfl | k_is)
    (case fX_BadSource => k_is)
    (case nX_BadSource_line => k_is)
    (case nX_BadSource_reason => k_is)
    (case oX_BadProgram => first | rfl | with_unfolding_all rfl | kernel_rfl)
    (case xX_BadProgram => first | rfl | with_unfolding_all rfl | kernel_rfl)
    (case wX_BadProgram => k_is)
    (case kX_BadProgram => k_is)
    (case bX_BadProgram => k_is)
    (case tX_BadProgram => k_is)
    (case iX_BadProgram => k_is)
    (case sX_BadProgram => first | rfl | k_is)
    (case fX_BadProgram => k_is)
    (case nX_BadProgram_reason => k_is)
    (case oX_BadSchedule => first | rfl | with_unfolding_all rfl | kernel_rfl)
    (case xX_BadSchedule => first | rfl | with_unfolding_all rfl | kernel_rfl)
    (case wX_BadSchedule => k_is)
    (case kX_BadSchedule => k_is)
    (case bX_BadSchedule => k_is)
    (case tX_BadSchedule => k_is)
    (case iX_BadSchedule => k_is)
    (case sX_BadSchedule => first | rfl | k_is)
    (case fX_BadSchedule => k_is)
    (case nX_BadSchedule_line => k_is)
    (case sX_BadSource_BadProgram => first | rfl | k_is)
    (case sX_BadSource_BadSchedule => first | rfl | k_is)
    (case sX_BadSource_BadFit => first | rfl | k_is)
    (case sX_BadSource_BadOpening => first | rfl | k_is)
    (case sX_BadSource_BadCall => first | rfl | k_is)
    (case sX_BadSource_BadTree => first | rfl | k_is)
    (case sX_BadProgram_BadSource => first | rfl | k_is)
    (case sX_BadProgram_BadSchedule => first | rfl | k_is)
    (case sX_BadProgram_BadFit => first | rfl | k_is)
    (case sX_BadProgram_BadOpening => first | rfl | k_is)
    (case sX_BadProgram_BadCall => first | rfl | k_is)
    (case sX_BadProgram_BadTree => first | rfl | k_is)
    (case sX_BadSchedule_BadSource => first | rfl | k_is)
    (case sX_BadSchedule_BadProgram => first | rfl | k_is)
    (case sX_BadSchedule_BadFit => first | rfl | k_is)
    (case sX_BadSchedule_BadOpening => first | rfl | k_is)
    (case sX_BadSchedule_BadCall => first | rfl | k_is)
    (case sX_BadSchedule_BadTree => first | rfl | k_is)
    (case sX_BadFit_BadSource => first | rfl | k_is)
    (case sX_BadFit_BadProgram => first | rfl | k_is)
    (case sX_BadFit_BadSchedule => first | rfl | k_is)
    (case sX_BadFit_BadOpening => first | rfl | k_is)
    (case sX_BadFit_BadCall => first | rfl | k_is)
    (case sX_BadFit_BadTree => first | rfl | k_is)
    (case sX_BadOpening_BadSource => first | rfl | k_is)
    (case sX_BadOpening_BadProgram => first | rfl | k_is)
    (case sX_BadOpening_BadSchedule => first | rfl | k_is)
    (case sX_BadOpening_BadFit => first | rfl | k_is)
    (case sX_BadOpening_BadCall => first | rfl | k_is)
    (case sX_BadOpening_BadTree => first | rfl | k_is)
    (case sX_BadCall_BadSource => first | rfl | k_is)
    (case sX_BadCall_BadProgram => first | rfl | k_is)
    (case sX_BadCall_BadSchedule => first | rfl | k_is)
    (case sX_BadCall_BadFit => first | rfl | k_is)
    (case sX_BadCall_BadOpening => first | rfl | k_is)
    (case sX_BadCall_BadTree => first | rfl | k_is)
    (case sX_BadTree_BadSource => first | rfl | k_is)
    (case sX_BadTree_BadProgram => first | rfl | k_is)
    (case sX_BadTree_BadSchedule => first | rfl | k_is)
    (case sX_BadTree_BadFit => first | rfl | k_is)
    (case sX_BadTree_BadOpening => first | rfl | k_is)
    (case sX_BadTree_BadCall => first | rfl | k_is)
    (case sX_BadSource_CourtError => first | rfl | k_is)
    (case sX_BadProgram_CourtError => first | rfl | k_is)
    (case sX_BadSchedule_CourtError => first | rfl | k_is)
    (case sX_BadFit_CourtError => first | rfl | k_is)
    (case sX_BadOpening_CourtError => first | rfl | k_is)
    (case sX_BadCall_CourtError => first | rfl | k_is)
    (case sX_BadTree_CourtError => first | rfl | k_is)
    (case g_DEPTH => k_is)
    (case g_MOST_FUNCTIONS => k_is)
    (case g_MOST_INPUTS => k_is)
    (case g_MOST_LATE => k_is)
    (case g_MOST_LEVEL => k_is)
    (case g_MOST_NAME => k_is)
    (case g_MOST_NESTED => k_is)
    (case g_MOST_OPEN => k_is)
    (case g_MOST_PARAMS => k_is)
    (case g_MOST_PLAYERS => k_is)
    (case g_MOST_SIZE => k_is)
    (case g_MOST_TABLES => k_is)
    (case g_MOST_TEXT => k_is)
    (case g_MOST_TOLD => k_is)
    (case g_MOST_WORD => k_is)
    (case z_abs => k_is)
    (case z_int => k_is)
    (case z_len => k_is)
    (case z_range => k_is)


